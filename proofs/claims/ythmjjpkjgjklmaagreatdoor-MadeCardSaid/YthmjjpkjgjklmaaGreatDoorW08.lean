import Derived.Test.YthmjjpkjgjklmaaGreatDoorW07
import Derived.Test.YthmjjpkjgjklmaaGreatDoorW03
import Derived.Test.YthmjjpkjgjklmaaGreatDoorA00
set_option maxHeartbeats 16000000
set_option maxRecDepth 100000
set_option linter.unusedSimpArgs false
namespace Go.Proofs.YthmjjpkjgjklmaaGreatDoor
open Go.RowKit
variable {ds:List PD}{m:Int}
def fsOf (env:Nat->Option PB) (k:Nat):List PF:=match env (65+k) with|some (.recd fs)=>fs|_=>[]
def z0s:Nat->Value->Prop
 | 5,v=>∃ a,v=.int .u8 a
 | 6,v=>∃ a,v=.int .i64 a
 | 7,v=>∃ a,v=.string a
 | 8,v=>∃ a m c,v=.slice a m c
 | 9,v=>∃ a m c,v=.slice a m c
 | _,_=>False
def dfTx (s:BA) (f:PF):BA:=match f.dflt with|none=>⟨#[]⟩|some (a,b)=>s.extract a b
def dfAt (f:PF):Nat:=(f.dflt.map Prod.fst).getD 0
def FRow (s:BA) (ts:List TR) (fs:List PF) (xs:List Value):Prop:=
 ∀ q f,fs[q]?=some f->(∃ num:Nat,isT ts num f.ty/\xs[10*q+1]?=some (.int .i64 (num:Int)))/\xs[10*q]?=some (.int .u8 (f.letter:Int))/\xs[10*q+2]?=some (.bool f.dflt.isSome)/\xs[10*q+3]?=some (.int .i64 (dfAt f:Int))/\xs[10*q+4]?=some (.string (dfTx s f))/\
  ∀ p,5<=p->p<10->∃ v,xs[10*q+p]?=some v/\z0s p v
def z0u (pb:Option PB) (so:Int) (sb:BA) (n:Int):Prop:=
 match pb with
 | none=>True
 | some (.recd _)=>so=114
 | some (.enum l _)=>so=101/\sb.data.toList.map UInt8.toNat=l.map Prod.fst
 | some (.bytes k)=>so=102/\n=(k:Int)
structure SZ (W:World) (P1 P2:Nat->Prop) (bz:Nat) (s:BA) (ts:List TR) (env:Nat->Option PB) (rt:Value):Prop where
 dis:∀ g,P2 g->¬ P1 g
 zP:P1 bz
 z:∃ tv zs,Blk W bz (tv::zs) 42/\zs[30]?=some rt/\zl3 W P1 tv ts/\
  ∀ k,k<6->∃ (so:Int) (fv:Value) (sb:BA) (o n:Int) (xs:List Value),(∀ p,p<5->zs[5*k+p]?=[Value.int .u8 so,fv,Value.string sb,Value.int .i64 o,Value.int .i64 n][p]?)/\
   W.ownsRow 0 69 10 fv (fsOf env k).length xs/\(∀ g,fv.ownBlock=some g->P2 g)/\FRow s ts (fsOf env k) xs/\z0u (env (65+k)) so sb n
section
variable {W W':World} {P1 P2:Nat->Prop} {bz:Nat} {s:BA} {ts:List TR} {env:Nat->Option PB} {rt:Value}
theorem SZ.fr {S:Nat->Prop}(h:SZ W P1 P2 bz s ts env rt) (hf:Fr W W' S) (h1:∀ g,P1 g->¬ S g) (h2:∀ g,P2 g->¬ S g):SZ W' P1 P2 bz s ts env rt:=by
 refine⟨h.dis,h.zP,?_⟩;obtain⟨tv,zs,a,a2,b,c⟩:=h.z;refine⟨tv,zs,hf.blk a (h1 _ h.zP),a2,b.fr hf h1,λ k hk=>?_⟩;obtain⟨so,fv,sb,o,n,xs,c1,c2,c3,c4,c5⟩:=c k hk;exact⟨so,fv,sb,o,n,xs,c1,zb_ c2 hf (λ g e=>h2 g (c3 g e)),c3,c4,c5⟩
theorem zl3.mono {P Q:Nat->Prop}{tv:Value}(h:zl3 W P tv ts) (hQ:∀ g,P g->Q g):zl3 W Q tv ts:=by
 obtain⟨xs,a,b,c⟩:=h;refine⟨xs,a,λ g e=>hQ g (b g e),λ k t ht=>?_⟩;obtain⟨sv,c1,c2,c3,c4⟩:=c k t ht;exact⟨sv,c1,c2,c3,λ g e=>hQ g (c4 g e)⟩
theorem FRow.set {fs:List PF}{xs ys:List Value}{q0 p0:Nat}{x:Value}(h:FRow s ts fs xs) (hp:5<=p0/\p0<10) (hx:z0s p0 x) (h1:∀ i,(i≠10*q0+p0->ys[i]?=xs[i]?)/\(i=10*q0+p0->ys[i]?=xs[i]?\/(i<xs.length/\ys[i]?=some x))):FRow s ts fs ys:=by
 intro q f hf;obtain⟨⟨num,a1,a2⟩,a0,a3,a4,a5,a6⟩:=h q f hf;refine⟨⟨num,a1,by rw[(h1 _).1 (by omega)];exact a2⟩,by rw[(h1 _).1 (by omega)];exact a0,by rw[(h1 _).1 (by omega)];exact a3,by rw[(h1 _).1 (by omega)];exact a4,by rw[(h1 _).1 (by omega)];exact a5,λ p hp1 hp2=>?_⟩;obtain⟨v,b1,b2⟩:=a6 p hp1 hp2
 by_cases he:10*q+p=10*q0+p0
 ·rcases(h1 _).2 he with e|⟨_,e⟩
  ·exact⟨v,by rw[e];exact b1,b2⟩
  ·have:p=p0:=by omega
   subst this;exact⟨x,e,hx⟩
 ·exact⟨v,by rw[(h1 _).1 he];exact b1,b2⟩
end
def dflF (s:BA) (env:Nat->Option PB) (fs:List PF) (m:Int):Int:=
 fs.foldl (λ m f=>match f.dflt with|none=>m|some (a,b)=>if (xn_ env true f.ty (s.extract a b)).isSome=true then m else yn_ (a:Int) m) m
def zdx (s:BA) (env:Nat->Option PB):Nat->Int
 | 0=>-1
 | k+1=>dflF s env (fsOf env k) (zdx s env k)
open Go.RowKit
structure zra (w:World) (P1 P2:Nat->Prop) (bz:Nat) (s:BA) (ts:List TR) (env:Nat->Option PB) (rt:Value) (W:World):Prop where
 Z:SZ W P1 P2 bz s ts env rt
 fr:Fr w W P2
 l1:∀ g,P1 g->g<w.heap.size
 l2:∀ g,P2 g->g<w.heap.size
section
variable {w W W':World} {P1 P2:Nat->Prop} {bz:Nat} {s:BA} {ts:List TR} {env:Nat->Option PB} {rt:Value}
theorem zra.own (M:zra w P1 P2 bz s ts env rt W) (hf:Fr W W' (λ g=>w.heap.size<=g)):zra w P1 P2 bz s ts env rt W':=
 ⟨M.Z.fr hf (λ g hg=>by have:=M.l1 g hg;omega) (λ g hg=>by have:=M.l2 g hg;omega),M.fr.trans hf (λ x hx e=>absurd e (by omega)),M.l1,M.l2⟩
theorem zra.alloc (M:zra w P1 P2 bz s ts env rt W) (o:Obj):zra w P1 P2 bz s ts env rt (W.alloc o):=M.own ((Fr.refl W _).alloc o)
end
open Go.RowKit
def shB (N:Nat):PB->Prop
 | .recd fs=>(∀ f∈fs,shT f.ty)/\fs.length<=N
 | .enum l _=>(∀ c∈l.map Prod.fst,0<c)/\l.length<=N
 | .bytes n=>n<=9
theorem zkc {s:BA}{i:Nat}{f:PF}{j:Nat}(h:xa_ s i=.ok (f,j)):shT f.ty:=by
 unfold xa_ at h;split at h
 ·split at h
  ·split at h
   ·cases h
   ·rename_i t k hp;have:=zon hp;split at h
    ·split at h
     ·cases h
     ·simp only[af_,ab_] at h;obtain⟨rfl,_⟩:=h;exact this
    ·simp only[af_,ab_] at h;obtain⟨rfl,_⟩:=h;exact this
  ·cases h
 ·cases h
theorem zg2 (s:BA):∀ (n i:Nat) (l:List PF) (j:Nat),i<=s.size->xb_ s n i=.ok (l,j)->(∀ f∈l,shT f.ty)/\i+l.length<=s.size:=by
 intro n
 induction n with
 | zero=>intro i l j _ h;cases h
 | succ n ih=>
  intro i l j hi h;unfold xb_ at h;split at h
  ·cases h
  ·rename_i f k hf;have h1:=(jg_ hi).1 f k hf;have h2:=zkc hf;split at h
   ·simp only[af_,ab_] at h;obtain⟨rfl,_⟩:=h;exact⟨λ g hg=>by rw[a6_] at hg;subst hg;exact h2,by simp;omega⟩
   ·split at h
    ·rename_i h44;have:=zl_ (s:=s) (i:=k) (by omega);split at h
     ·cases h
     ·rename_i fs e hr;simp only[af_,ab_] at h;obtain⟨rfl,_⟩:=h;have h3:=ih _ _ _ (by omega) hr;refine⟨λ g hg=>?_,by rw[ar_];omega⟩
      rcases an_.1 hg with rfl|hg
      ·exact h2
      ·exact h3.1 g hg
    ·cases h
theorem zj7 (s:BA):∀ (n i:Nat) (l:List (Nat×Nat)) (j:Nat),za8 s n i=.ok (l,j)->(∀ c∈l.map Prod.fst,0<c)/\i+l.length<=s.size:=by
 intro n
 induction n with
 | zero=>intro i l j h;cases h
 | succ n ih=>
  intro i l j h;unfold za8 at h;split at h
  ·rename_i hs;have h0:=ve_ hs;have h1:=zl_ h0;split at h
   ·split at h
    ·cases h
    ·rename_i fs e hr;simp only[af_,ab_] at h;obtain⟨rfl,_⟩:=h;have h3:=ih _ _ _ hr;refine⟨λ g hg=>?_,by rw[ar_];omega⟩;rw[ap_] at hg
     rcases an_.1 hg with rfl|hg
     ·exact h0
     ·exact h3.1 g hg
   ·simp only[af_,ab_] at h;obtain⟨rfl,_⟩:=h;exact⟨λ g hg=>by simp only[ap_,a1_,a6_] at hg;subst hg;exact h0,by simp;omega⟩
  ·cases h
theorem zmu {s:BA}{i:Nat}{pb:PB}{j:Nat}(h:v8_ s i=.ok (pb,j)):shB s.size pb:=by
 unfold v8_ at h;split at h
 ·rename_i h114;have:=zl_ (s:=s) (i:=i) (by omega);split at h
  ·cases h
  ·rename_i fs k hp;simp only[af_,ab_] at h;obtain⟨rfl,_⟩:=h;unfold xy_ at hp;split at hp
   ·rename_i h40;have:=zl_ (s:=s) (i:=i+1) (by omega);split at hp
    ·simp only[af_,ab_] at hp;obtain⟨rfl,_⟩:=hp;exact⟨λ f hf=>by simp at hf,aj_ _⟩
    ·have:=zg2 s _ _ _ _ (by omega) hp;exact⟨this.1,by omega⟩
   ·cases hp
 ·split at h
  ·split at h
   ·cases h
   ·rename_i l o k hp;simp only[af_,ab_] at h;obtain⟨rfl,_⟩:=h;unfold za0 at hp;split at hp
    ·split at hp
     ·cases hp
     ·rename_i l' k' hq;have hsh:=zj7 s _ _ _ _ hq
      have fin:l=l'->shB s.size (.enum l o):=λ e=>by subst e;exact⟨hsh.1,by omega⟩
      split at hp
      ·split at hp
       ·split at hp
        ·simp only[af_,ab_] at hp;exact fin hp.1.1.symm
        ·cases hp
       ·cases hp
      ·split at hp
       ·simp only[af_,ab_] at hp;exact fin hp.1.1.symm
       ·cases hp
    ·cases hp
  ·split at h
   ·split at h
    ·rename_i hd;simp only[af_,ab_] at h;obtain⟨rfl,_⟩:=h;simp only[shB];omega
    ·cases h
   ·cases h
theorem zkd (s:BA):∀ (n i:Nat) (ds:List PD) (e:Nat),xz_ s n i=.ok (ds,e)->∀ d∈ds,shB s.size d.body:=by
 intro n
 induction n with
 | zero=>intro i ds e h d hd;simp only[xz_,af_,ab_] at h;rw[<- h.1] at hd;simp at hd
 | succ n ih=>
  intro i ds e h;unfold xz_ at h;split at h
  ·split at h
   ·split at h
    ·cases h
    ·rename_i pb j hp;split at h
     ·split at h
      ·cases h
      ·rename_i ds' e' hr;simp only[af_,ab_] at h;obtain⟨rfl,_⟩:=h;intro d hd
       rcases an_.1 hd with rfl|hd
       ·exact zmu hp
       ·exact ih _ _ _ hr d hd
     ·cases h
   ·cases h
  ·simp only[af_,ab_] at h;obtain⟨rfl,_⟩:=h;intro d hd;simp at hd
theorem zak {s:BA}{t:PT}(h:zq_ s=.ok (ds,t)):(∀ d∈ds,shB s.size d.body)/\shT t:=by
 unfold zq_ at h;split at h
 ·cases h
 ·rename_i ds' i hd;split at h
  ·cases h
  ·rename_i t' j ht;split at h
   ·cases h
   ·simp only[af_,ab_] at h;obtain⟨rfl,rfl⟩:=h;exact⟨zkd s _ _ _ _ hd,zon ht⟩
def za_ (ds:List PD) (c:Nat):Option PB:=(look 0 c ds).map Prod.fst
theorem zc4 {b c:Nat}{pb:PB}{b':Nat}(h:look b c ds=some (pb,b')):∃ d∈ds,d.body=pb:=by
 induction ds generalizing b with
 | nil=>cases h
 | cons x r ih=>
  simp only[look] at h;split at h
  ·simp only[ad_,ab_] at h;exact⟨x,by simp,h.1⟩
  ·obtain⟨d,hd,e⟩:=ih h;exact⟨d,by simp[hd],e⟩
theorem zni (a:Nat) (m:Int):0<=yn_ (a:Int) m:=by
 unfold yn_;split<;>omega
def wrU (env:Nat->Option PB) (us:List (Nat×Nat)) (m:Int):Int:=us.foldl (λ m u=>if (env u.1).isNone=true then yn_ (u.2:Int) m else m) m
theorem zrh {env:Nat->Option PB}{us:List (Nat×Nat)}(h:wrU env us m<0):m<0/\∀ u∈us,∃ pb,env u.1=some pb:=by
 induction us generalizing m with
 | nil=>exact⟨h,λ u hu=>by simp at hu⟩
 | cons u r ih=>
  simp only[wrU,List.foldl_cons] at h;obtain⟨h1,h2⟩:=ih h;split at h1
  ·have:=zni u.2 m;omega
  ·rename_i hn;refine⟨h1,λ v hv=>?_⟩
   rcases an_.1 hv with rfl|hv
   ·cases he:env v.1 with
    | none=>rw[he] at hn;exact absurd rfl hn
    | some pb=>exact⟨pb,rfl⟩
   ·exact h2 v hv
theorem zv3 {env:Nat->Option PB}{fs:List PF}(hs:∀ f∈fs,shT f.ty) (hu:∀ u∈xf_ (fs.map PF.ty),∃ pb,env u.1=some pb) (h:mixF fs m<0):m<0/\∀ f∈fs,okT env f.ty:=by
 induction fs generalizing m with
 | nil=>exact⟨h,λ f hf=>by simp at hf⟩
 | cons f r ih=>
  simp only[mixF,List.foldl_cons] at h;simp only[ap_,xf_] at hu;obtain⟨h1,h2⟩:=ih (λ g hg=>hs g (by simp[hg])) (λ u h=>hu u (b2_ _ h)) h;have h3:=zke env f.ty m (hs f (by simp)) h1 (λ u h=>hu u (b6_ _ h));refine⟨h3.1,λ g hg=>?_⟩
  rcases an_.1 hg with rfl|hg
  ·exact h3.2
  ·exact h2 g hg
theorem zo2 {env:Nat->Option PB}{N:Nat}(hs:∀ d∈ds,shB N d.body) (hu:∀ u∈accU ds,∃ pb,env u.1=some pb) (h:accM ds m<0):m<0/\∀ d∈ds,∀ fs,d.body=.recd fs->∀ f∈fs,okT env f.ty:=by
 induction ds generalizing m with
 | nil=>exact⟨h,λ f hf=>by simp at hf⟩
 | cons d r ih=>
  simp only[accM,List.foldl_cons] at h;simp only[accU] at hu;obtain⟨h1,h2⟩:=ih (λ g hg=>hs g (by simp[hg])) (λ u h=>hu u (b2_ _ h)) h;have hsd:=hs d (by simp)
  cases hb:d.body with
  | recd fs=>
   rw[hb] at hsd h1 hu;have h3:=zv3 hsd.1 (λ u h=>hu u (b6_ _ h)) h1;refine⟨h3.1,λ g hg fs' hg'=>?_⟩
   rcases an_.1 hg with rfl|hg
   ·rw[hb] at hg';cases hg';exact h3.2
   ·exact h2 g hg fs' hg'
  | enum l o=>
   rw[hb] at h1;refine⟨h1,λ g hg fs' hg'=>?_⟩
   rcases an_.1 hg with rfl|hg
   ·rw[hb] at hg';cases hg'
   ·exact h2 g hg fs' hg'
  | bytes n=>
   rw[hb] at h1;refine⟨h1,λ g hg fs' hg'=>?_⟩
   rcases an_.1 hg with rfl|hg
   ·rw[hb] at hg';cases hg'
   ·exact h2 g hg fs' hg'
theorem zjv {s:BA}{t:PT}{m0 m1:Int}(hs:s.size<=300) (hp:zq_ s=.ok (ds,t)) (hw:wrU (za_ ds) (accU ds++ya_ t) m0<0) (hm:mix t (accM ds m1)<0) :
 zes (za_ ds)/\okT (za_ ds) t/\(∀ k,(fsOf (za_ ds) k).length<=300)/\∀ k f,f∈fsOf (za_ ds) k->okT (za_ ds) f.ty:=by
 obtain⟨h1,h2⟩:=zak hp;obtain⟨_,h3⟩:=zrh hw;have h4:=zke (za_ ds) t _ h2 hm (λ u hu=>h3 u (b2_ _ hu));have h5:=(zo2 (env:=za_ ds) h1 (λ u hu=>h3 u (b6_ _ hu)) h4.1).2
 have body:∀ c pb,za_ ds c=some pb->shB s.size pb/\∀ fs,pb=.recd fs->∀ f∈fs,okT (za_ ds) f.ty:=λ c pb he=>by
  unfold za_ at he
  cases hl:look 0 c ds with
  | none=>rw[hl] at he;cases he
  | some q=>
   obtain⟨pb',b'⟩:=q;rw[hl] at he;simp only[a2_,ad_] at he;subst he;obtain⟨d,hd,rfl⟩:=zc4 hl;exact⟨h1 d hd,λ fs e=>h5 d hd fs e⟩
 have flds:∀ k fs,fsOf (za_ ds) k=fs->fs≠[]->za_ ds (65+k)=some (.recd fs):=λ k fs e hne=>by
  unfold fsOf at e;split at e
  ·rename_i fs' he;subst e;exact he
  ·exact absurd e.symm hne
 refine⟨λ c pb he=>?_,h4.2,λ k=>?_,λ k f hf=>?_⟩
 ·obtain⟨b1,b2⟩:=body c pb he
  cases pb with
  | recd fs=>exact b2 fs rfl
  | enum l o=>exact⟨b1.1,ah_ b1.2 hs⟩
  | bytes n=>exact b1
 ·by_cases hne:fsOf (za_ ds) k=[]
  ·rw[hne];exact aj_ _
  ·exact ah_ (body _ _ (flds k _ rfl hne)).1.2 hs
 ·have hne:fsOf (za_ ds) k≠[]:=λ e=>by rw[e] at hf;simp at hf
  exact(body _ _ (flds k _ rfl hne)).2 _ rfl f hf
open Go.RowKit
open Go.RowKit
def zj_ (s:BA):Int×Int:=
 if 300<s.size then (1,0)
 else match zq_ s with
  | .error k=>(2,(k:Int))
  | .ok (ds,t)=>
   if 0<=wrU (za_ ds) (accU ds++ya_ t) (accW [] ds (-1)) then (3,wrU (za_ ds) (accU ds++ya_ t) (accW [] ds (-1)))
   else if 0<=mix t (accM ds (-1)) then (4,mix t (accM ds (-1)))
   else if 0<=zdx s (za_ ds) 6 then (5,zdx s (za_ ds) 6)
   else (0,0)
end Go.Proofs.YthmjjpkjgjklmaaGreatDoor
