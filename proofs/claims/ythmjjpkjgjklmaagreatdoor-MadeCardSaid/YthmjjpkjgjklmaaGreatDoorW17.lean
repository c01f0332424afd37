import Derived.Test.YthmjjpkjgjklmaaGreatDoorW08
import Derived.Test.YthmjjpkjgjklmaaGreatDoorA00
set_option maxHeartbeats 16000000
set_option maxRecDepth 100000
set_option linter.unusedSimpArgs false
namespace Go.Proofs.YthmjjpkjgjklmaaGreatDoor
open Go.RowKit
variable {s:BA}{i j lo hi:Nat}{L M:List Nat}{ds:List PD}{t:PT}{f:PF}{l:List PF}
def minf (m:Int) (L:List Nat):Int:=L.foldl (λ (m:Int) (p:Nat)=>yn_ (p:Int) m) m
theorem yu_ (m:Int) (L M:List Nat):minf m (L++M)=minf (minf m L) M:=by simp[minf]
theorem zbc (m:Int) (p:Nat) (L:List Nat):minf m (p::L)=minf (yn_ (p:Int) m) L:=rfl
theorem zlb (a b:Nat) (m:Int):yn_ (a:Int) (yn_ (b:Int) m)=yn_ (b:Int) (yn_ (a:Int) m):=by
 unfold yn_
 by_cases h1:m<0\/(b:Int)<m<;>by_cases h2:m<0\/(a:Int)<m
 ·rw[if_pos h1,if_pos h2];split<;>split<;>omega
 ·rw[if_pos h1,if_neg h2];split<;>(try split)<;>omega
 ·rw[if_neg h1,if_pos h2];split<;>omega
 ·rw[if_neg h1,if_neg h2,if_neg h1]
theorem zdt (p:Nat) (L:List Nat):∀ m,minf (yn_ (p:Int) m) L=yn_ (p:Int) (minf m L):=by
 induction L with
 | nil=>intro m;rfl
 | cons a r ih=>intro m;rw[zbc,zbc,zlb,ih]
theorem zv4 (L:List Nat):∀ n:Nat,∃ x:Nat,minf (n:Int) L=(x:Int)/\(x=n\/x∈L)/\x<=n/\∀ y∈L,x<=y:=by
 induction L with
 | nil=>intro n;exact⟨n,rfl,.inl rfl,l_,λ y h=>by simp at h⟩
 | cons a r ih=>
  intro n
  by_cases h:a<n
  ·obtain⟨x,h1,h2,h3,h4⟩:=ih a;refine⟨x,?_,.inr ?_,by omega,λ y hy=>?_⟩
   ·rw[zbc,show yn_ (a:Int) (n:Int)=(a:Int) by unfold yn_;rw[if_pos (.inr (by omega))]];exact h1
   ·rcases h2 with h2|h2
    ·rw[h2];simp
    ·simp[h2]
   ·rcases an_.1 hy with rfl|hy
    ·exact h3
    ·exact h4 y hy
  ·obtain⟨x,h1,h2,h3,h4⟩:=ih n;refine⟨x,?_,?_,h3,λ y hy=>?_⟩
   ·rw[zbc,show yn_ (a:Int) (n:Int)=(n:Int) by unfold yn_;rw[if_neg (by omega)]];exact h1
   ·rcases h2 with h2|h2
    ·exact .inl h2
    ·exact .inr (by simp[h2])
   ·rcases an_.1 hy with rfl|hy
    ·omega
    ·exact h4 y hy
theorem zcz (L:List Nat):(L=[]/\minf (-1) L = -1)\/∃ x∈L,minf (-1) L=(x:Int)/\∀ y∈L,x<=y:=by
 cases L with
 | nil=>exact .inl ⟨rfl,rfl⟩
 | cons a r=>
  right
  obtain⟨x,h1,h2,h3,h4⟩:=zv4 r a;refine⟨x,?_,?_,λ y hy=>?_⟩
  ·rcases h2 with h2|h2
   ·rw[h2];simp
   ·simp[h2]
  ·rw[zbc,show yn_ (a:Int) (-1)=(a:Int) by unfold yn_;rw[if_pos (.inl (by omega))]];exact h1
  ·rcases an_.1 hy with rfl|hy
   ·exact h3
   ·exact h4 y hy
theorem zko (h:∀ x,x∈L↔x∈M):minf (-1) L=minf (-1) M:=by
 rcases zcz L with⟨rfl,e⟩|⟨x,hx,e,hl⟩
 ·rcases zcz M with⟨rfl,e2⟩|⟨y,hy,_,_⟩
  ·rfl
  ·exact absurd ((h y).2 hy) (by simp)
 ·rcases zcz M with⟨rfl,e2⟩|⟨y,hy,e2,hm⟩
  ·exact absurd ((h x).1 hx) (by simp)
  ·have h1:=hl y ((h y).2 hy);have h2:=hm x ((h x).1 hx);rw[e,e2];omega
def Asc (lo hi:Nat):List Nat->Prop
 | []=>lo<=hi
 | x::r=>lo<=x/\Asc (x+1) hi r
theorem Asc.le (h:Asc lo hi L):lo<=hi:=by
 induction L generalizing lo with
 | nil=>exact h
 | cons x r ih=>have:=ih h.2;have:=h.1;omega
theorem Asc.up {lo':Nat}(h:Asc lo hi L) (hl:lo'<=lo):Asc lo' hi L:=by
 cases L with
 | nil=>exact ah_ hl h
 | cons x r=>exact⟨ah_ hl h.1,h.2⟩
theorem Asc.wide {hi':Nat}(h:Asc lo hi L) (hl:hi<=hi'):Asc lo hi' L:=by
 induction L generalizing lo with
 | nil=>exact ah_ h hl
 | cons x r ih=>exact⟨h.1,ih h.2⟩
theorem Asc.append {mid:Nat}(h:Asc lo mid L) (k:Asc mid hi M):Asc lo hi (L++M):=by
 induction L generalizing lo with
 | nil=>exact k.up h
 | cons x r ih=>exact⟨h.1,ih h.2⟩
theorem Asc.ge (h:Asc lo hi L):∀ y∈L,lo<=y:=by
 induction L generalizing lo with
 | nil=>intro y hy;simp at hy
 | cons x r ih=>
  intro y hy
  rcases an_.1 hy with rfl|hy
  ·exact h.1
  ·have:=ih h.2 y hy;have:=h.1;omega
theorem Asc.ite {p:Nat}{c:Prop} [Decidable c] (h:lo<=p) (h2:p+1<=hi):Asc lo hi (if c then [p] else []):=by
 split
 ·exact⟨h,h2⟩
 ·show lo<=hi;omega
theorem Asc.filter {l:List (Nat×Nat)}(p:Nat×Nat->Bool) (h:Asc lo hi (l.map Prod.snd)):Asc lo hi ((l.filter p).map Prod.snd):=by
 induction l generalizing lo with
 | nil=>exact h
 | cons x r ih=>
  rw[List.filter_cons];split
  ·exact⟨h.1,ih h.2⟩
  ·exact(ih h.2).up (by have:=h.1;omega)
def zla:List Nat->Int
 | []=>-1
 | x::_=>(x:Int)
theorem zip (h:Asc lo hi L):minf (-1) L=zla L:=by
 cases L with
 | nil=>rfl
 | cons x r=>
  rcases zcz (x::r) with⟨e,_⟩|⟨y,hy,e,hl⟩
  ·cases e
  ·rw[e];have h1:=hl x (by simp)
   rcases an_.1 hy with rfl|hy
   ·rfl
   ·have:=h.2.ge y hy;exact absurd h1 (by omega)
def useF (env:Nat->Option PB) (us:List (Nat×Nat)):List Nat:=(us.filter (λ u=>(env u.1).isNone)).map Prod.snd
def dupF (seen:List Nat):List PF->List Nat
 | []=>[]
 | f::r=>(if f.letter∈seen then [f.place] else [])++dupF (seen++[f.letter]) r
def dupS (seen:List Nat):List (Nat×Nat)->List Nat
 | []=>[]
 | q::r=>(if q.1∈seen then [q.2] else [])++dupS (seen++[q.1]) r
def unkF (l:List (Nat×Nat)):Option (Nat×Nat)->List Nat
 | none=>[]
 | some (c,p)=>if c∈l.map Prod.fst then [] else [p]
def PB.dup:PB->List Nat
 | .recd fs=>dupF [] fs
 | .enum l o=>dupS [] l++unkF l o
 | .bytes _=>[]
def zja (seen:List Nat):List PD->List Nat
 | []=>[]
 | d::r=>d.body.dup++(if d.letter∈seen then [d.place] else [])++zja (seen++[d.letter]) r
theorem zio (c:Prop) [Decidable c] (p:Nat) (m:Int):minf m (if c then [p] else [])=if c then yn_ (p:Int) m else m:=by
 split<;>rfl
theorem zu6 (fs:List PF):∀ seen m,wrF seen fs m=minf m (dupF seen fs):=by
 induction fs with
 | nil=>intro seen m;rfl
 | cons f r ih=>intro seen m;rw[wrF,dupF,ih,yu_,zio]
theorem zu5 (l:List (Nat×Nat)):∀ seen m,wrS seen l m=minf m (dupS seen l):=by
 induction l with
 | nil=>intro seen m;rfl
 | cons f r ih=>intro seen m;rw[wrS,dupS,ih,yu_,zio]
theorem PB.wr_minf (b:PB) (m:Int):b.wr m=minf m b.dup:=by
 cases b with
 | recd fs=>exact zu6 fs [] m
 | bytes n=>rfl
 | enum l o=>
  show wrE l o m=minf m (dupS [] l++unkF l o);rw[yu_,<- zu5]
  match o with
  | none=>rfl
  | some (c,p)=>
   simp only[wrE,unkF];split<;>rfl
theorem zup (ds:List PD):∀ seen m,accW seen ds m=minf m (zja seen ds):=by
 induction ds with
 | nil=>intro seen m;rfl
 | cons d r ih=>intro seen m;rw[accW,zja,ih,yu_,yu_,zio,PB.wr_minf]
theorem zu4 (env:Nat->Option PB) (us:List (Nat×Nat)):∀ m,wrU env us m=minf m (useF env us):=by
 induction us with
 | nil=>intro m;rfl
 | cons u r ih=>
  intro m;have h:=ih (if (env u.1).isNone=true then yn_ (u.2:Int) m else m);show wrU env r (if (env u.1).isNone=true then yn_ (u.2:Int) m else m)=_;rw[h];unfold useF;rw[List.filter_cons];split<;>rfl
def fldF (env:Nat->Option PB) (seen:List Nat):List PF->List Nat
 | []=>[]
 | f::r=>(if f.letter∈seen then [f.place] else [])++(useF env (ya_ f.ty)++fldF env (seen++[f.letter]) r)
def zb0 (env:Nat->Option PB):PB->List Nat
 | .recd fs=>fldF env [] fs
 | .enum l o=>dupS [] l++unkF l o
 | .bytes _=>[]
def defF (env:Nat->Option PB) (seen:List Nat):List PD->List Nat
 | []=>[]
 | d::r=>(if d.letter∈seen then [d.place] else [])++(zb0 env d.body++defF env (seen++[d.letter]) r)
def v9_ (ds:List PD) (t:PT):List Nat:=defF (za_ ds) [] ds++useF (za_ ds) (ya_ t)
theorem zai (env:Nat->Option PB) (a b:List (Nat×Nat)):useF env (a++b)=useF env a++useF env b:=by simp[useF]
theorem zot (env:Nat->Option PB) (fs:List PF) (x:Nat):∀ seen,x∈fldF env seen fs↔x∈dupF seen fs\/x∈useF env (xf_ (fs.map PF.ty)):=by
 induction fs with
 | nil=>intro seen;simp[fldF,dupF,xf_,useF]
 | cons f r ih=>
  intro seen;rw[fldF,dupF,ap_,xf_,zai];simp only[bj_,ih]
  constructor
  ·rintro(h|h|h|h)<;>simp[h]
  ·rintro((h|h)|h|h)<;>simp[h]
theorem zui (env:Nat->Option PB) (b:PB) (x:Nat):x∈zb0 env b↔x∈b.dup\/x∈useF env b.us:=by
 cases b with
 | recd fs=>exact zot env fs x []
 | enum l o=>simp[zb0,PB.dup,PB.us,useF]
 | bytes n=>simp[zb0,PB.dup,PB.us,useF]
theorem zow (env:Nat->Option PB) (ds:List PD) (x:Nat):∀ seen,x∈defF env seen ds↔x∈zja seen ds\/x∈useF env (accU ds):=by
 induction ds with
 | nil=>intro seen;simp[defF,zja,accU,useF]
 | cons d r ih=>
  intro seen;rw[defF,zja,accU,zai];simp only[bj_,ih,zui]
  constructor
  ·rintro(h|(h|h)|h|h)<;>simp[h]
  ·rintro(((h|h)|h)|h|h)<;>simp[h]
theorem zp6 (ds:List PD) (t:PT):wrU (za_ ds) (accU ds++ya_ t) (accW [] ds (-1))=minf (-1) (v9_ ds t):=by
 rw[zu4,zup,<- yu_];refine zko (λ x=>?_);simp only[v9_,zai,bj_,zow,or_assoc]
mutual
def badT:PT->List Nat
 | .leaf _ _=>[]
 | .wrap _ _ t=>badT t
 | .alts _ ts=>za3 [] ts
def za3 (seen:List Nat):List PT->List Nat
 | []=>[]
 | t::r=>(if t.kind=40\/t.kind∈seen then [t.place] else [])++(badT t++za3 (seen++[t.kind]) r)
end
theorem zkm (seen:List Nat) (t:PT) (m:Int):zkn seen t m=if t.kind=40\/t.kind∈seen then yn_ (t.place:Int) m else m:=by
 unfold zkn yn_
 by_cases h:t.kind=40\/t.kind∈seen
 ·rw[if_pos h]
  by_cases h2:m<0\/(t.place:Int)<m
  ·rw[if_pos ⟨h,h2⟩,if_pos h2]
  ·rw[if_neg (λ q=>h2 q.2),if_neg h2]
 ·rw[if_neg (λ q=>h q.1),if_neg h]
mutual
theorem ze8:∀ (t:PT) (m:Int),mix t m=minf m (badT t)
 | .leaf c p,m=>by simp[mix,badT,minf]
 | .wrap c p t,m=>by rw[mix,badT];exact ze8 t m
 | .alts p ts,m=>by rw[mix,badT];exact zkl ts [] m
theorem zkl:∀ (ts:List PT) (seen:List Nat) (m:Int),mixs seen ts m=minf m (za3 seen ts)
 | [],seen,m=>by simp[mixs,za3,minf]
 | t::r,seen,m=>by
  rw[mixs,za3,yu_,yu_,zkl r,zkm,ze8 t m,zio];split
  ·rw[zdt,zdt,zdt]
  ·rfl
end
def PB.fs:PB->List PF
 | .recd fs=>fs
 | _=>[]
def zd_ (ds:List PD):List PF:=ds.flatMap (λ d=>d.body.fs)
def v5_ (ds:List PD) (t:PT):List Nat:=(zd_ ds).flatMap (λ f=>badT f.ty)++badT t
theorem zsx (fs:List PF):∀ m,mixF fs m=minf m (fs.flatMap (λ f=>badT f.ty)):=by
 induction fs with
 | nil=>intro m;rfl
 | cons f r ih=>
  intro m;rw[be_,yu_,<- ze8];exact ih (mix f.ty m)
theorem zuq (ds:List PD):∀ m,accM ds m=minf m ((zd_ ds).flatMap (λ f=>badT f.ty)):=by
 induction ds with
 | nil=>intro m;rfl
 | cons d r ih=>
  intro m;have h:=ih (d.body.mx m);show accM r (d.body.mx m)=_;rw[h];unfold zd_;rw[be_,a5_,yu_]
  congr 1
  cases d.body with
  | recd fs=>exact zsx fs m
  | enum l o=>rfl
  | bytes n=>rfl
theorem zmb (ds:List PD) (t:PT):mix t (accM ds (-1))=minf (-1) (v5_ ds t):=by
 rw[ze8,zuq,v5_,yu_]
open Go.RowKit
theorem zzp (s:BA) (f:Nat) :
 (∀ i t j,pTyp s f i=.ok (t,j)->Asc i j ((ya_ t).map Prod.snd)/\Asc (i+1) j (badT t)/\t.place=i)/\
 (∀ i ts j,vd_ s f i=.ok (ts,j)->Asc i j ((xf_ ts).map Prod.snd)/\∀ seen,Asc i j (za3 seen ts)):=by
 induction f with
 | zero=>exact⟨λ i t j h=>by simp[pTyp] at h,λ i t j h=>by simp[vd_] at h⟩
 | succ f ih=>
  obtain⟨ihT,ihA⟩:=ih;refine⟨λ i t j h=>?_,λ i t j h=>?_⟩
  ·rw[zac] at h;unfold zdk at h;split at h
   ·simp only[af_,ab_] at h;obtain⟨rfl,rfl⟩:=h;rename_i hb
    simp[ya_,hb,badT,Asc,PT.place]
   ·split at h
    ·cases hp:pTyp s f (i+1) with
     | error k=>rw[hp] at h;simp at h
     | ok r=>
      obtain⟨t',j'⟩:=r;rw[hp] at h;simp only at h;split at h
      ·simp only[af_,ab_] at h;obtain⟨rfl,rfl⟩:=h;obtain⟨h1,h2,_⟩:=ihT _ _ _ hp;exact⟨by rw[ya_];exact(h1.up (by omega)).wide (by omega),by rw[badT];exact(h2.up (by omega)).wide (by omega),rfl⟩
      ·simp at h
    ·split at h
     ·cases hp:vd_ s f (i+1) with
      | error k=>rw[hp] at h;simp at h
      | ok r=>
       obtain⟨t',j'⟩:=r;rw[hp] at h;simp only at h;split at h
       ·simp only[af_,ab_] at h;obtain⟨rfl,rfl⟩:=h;obtain⟨h1,h2⟩:=ihA _ _ _ hp;exact⟨by rw[ya_];exact(h1.up (by omega)).wide (by omega),by rw[badT];exact(h2 []).wide (by omega),rfl⟩
       ·simp at h
     ·split at h
      ·simp only[af_,ab_] at h;obtain⟨rfl,rfl⟩:=h;rename_i hb _ _ _
       simp[ya_,hb,badT,Asc,PT.place]
      ·simp at h
  ·rw[jo_] at h;unfold zh7 at h
   cases hp:pTyp s f i with
   | error k=>rw[hp] at h;simp at h
   | ok r=>
    obtain⟨t',j'⟩:=r;rw[hp] at h;obtain⟨h1,h2,h3⟩:=ihT _ _ _ hp
    have hlt:∀ seen:List Nat,Asc i j' ((if t'.kind=40\/t'.kind∈seen then [t'.place] else [])++badT t'):=λ seen=>by
     rw[h3];exact Asc.append (Asc.ite (ae_ i) (ae_ (i+1))) h2
    simp only at h;split at h
    ·cases hq:vd_ s f (j'+1) with
     | error k=>rw[hq] at h;simp at h
     | ok r=>
      obtain⟨ts,k⟩:=r;rw[hq] at h;simp only[af_,ab_] at h;obtain⟨rfl,rfl⟩:=h;obtain⟨g1,g2⟩:=ihA _ _ _ hq;refine⟨?_,λ seen=>?_⟩
      ·rw[xf_,bq_];exact h1.append (g1.up (by omega))
      ·rw[za3,<- List.append_assoc];exact(hlt seen).append ((g2 _).up (by omega))
    ·simp only[af_,ab_] at h;obtain⟨rfl,rfl⟩:=h;refine⟨?_,λ seen=>?_⟩
     ·rw[xf_,xf_,a8_];exact h1
     ·rw[za3,za3,a8_];exact hlt seen
theorem zsb (h:pT s i=.ok (t,j)):Asc i j ((ya_ t).map Prod.snd)/\Asc (i+1) j (badT t):=⟨((zzp s _).1 i t j h).1,((zzp s _).1 i t j h).2.1⟩
def dfB (s:BA) (env:Nat->Option PB) (f:PF):List Nat:=
 match f.dflt with|none=>[]|some (a,b)=>if (xn_ env true f.ty (s.extract a b)).isSome=true then [] else [a]
theorem zpu (h:xa_ s i=.ok (f,j)):f.place=i/\f.letter=bt s i/\zn_ (bt s i)=true/\
 Asc (i+1) j ((ya_ f.ty).map Prod.snd)/\Asc (i+1) j (badT f.ty)/\∀ env,Asc (i+1) (j+1) (dfB s env f):=by
 unfold xa_ at h;split at h
 ·rename_i hsm;split at h
  ·split at h
   ·cases h
   ·rename_i t k hp;obtain⟨h1,h2⟩:=zsb hp;split at h
    ·split at h
     ·cases h
     ·rename_i e hd;have hb:=zcv hd;simp only[af_,ab_] at h;obtain⟨rfl,rfl⟩:=h;have hk:=h1.le;refine⟨rfl,rfl,hsm,(h1.up (by omega)).wide (by omega),(h2.up (by omega)).wide (by omega),λ env=>?_⟩;simp only[dfB];split
      ·show i+1<=e+1;omega
      ·exact⟨by omega,by show k+1+1<=e+1;omega⟩
    ·simp only[af_,ab_] at h;obtain⟨rfl,rfl⟩:=h;have hk:=h1.le;exact⟨rfl,rfl,hsm,h1.up (by omega),h2.up (by omega),λ env=>by show i+1<=k+1;omega⟩
  ·cases h
 ·cases h
def AscF (s:BA) (lo hi:Nat) (l:List PF):Prop:=
 (∀ env seen,Asc lo hi (fldF env seen l))/\Asc lo hi (l.flatMap (λ f=>badT f.ty))/\(∀ env,Asc lo hi (l.flatMap (dfB s env)))/\∀ f∈l,zn_ f.letter=true
theorem AscF.one (h:xa_ s i=.ok (f,j)):AscF s i (j+1) [f]:=by
 obtain⟨h1,h0,hsm,h2,h3,h4⟩:=zpu h;have hj:=h2.le;refine⟨λ env seen=>?_,?_,λ env=>?_,λ g hg=>?_⟩
 ·rw[fldF,fldF,a8_,h1];exact(Asc.ite (ae_ i) (ae_ (i+1))).append ((Asc.filter _ h2).wide (by omega))
 ·rw[be_,bx_,a8_];exact(h3.up (by omega)).wide (by omega)
 ·rw[be_,bx_,a8_];exact(h4 env).up (by omega)
 ·rw[a6_] at hg;subst hg;rw[h0];exact hsm
theorem AscF.cons {m:Nat}(h:AscF s i m [f]) (k:AscF s m j l):AscF s i j (f::l):=by
 refine⟨λ env seen=>?_,?_,λ env=>?_,λ g hg=>?_⟩
 ·have h1:=h.1 env seen;rw[fldF,fldF,a8_] at h1;rw[fldF,<- List.append_assoc];exact h1.append (k.1 env _)
 ·have h1:=h.2.1;rw[be_,bx_,a8_] at h1;rw[be_];exact h1.append k.2.1
 ·have h1:=h.2.2.1 env;rw[be_,bx_,a8_] at h1;rw[be_];exact h1.append (k.2.2.1 env)
 ·rcases an_.1 hg with rfl|hg
  ·exact h.2.2.2 g (by simp)
  ·exact k.2.2.2 g hg
theorem zkb (s:BA):∀ (n i:Nat) (l:List PF) (j:Nat),xb_ s n i=.ok (l,j)->AscF s i j l:=by
 intro n
 induction n with
 | zero=>intro i l j h;cases h
 | succ n ih=>
  intro i l j h;unfold xb_ at h;split at h
  ·cases h
  ·rename_i f k hf;have h1:=AscF.one hf;split at h
   ·simp only[af_,ab_] at h;obtain⟨rfl,rfl⟩:=h;exact h1
   ·split at h
    ·split at h
     ·cases h
     ·rename_i fs k2 hr;simp only[af_,ab_] at h;obtain⟨rfl,rfl⟩:=h;exact h1.cons (ih _ _ _ hr)
    ·cases h
theorem zmq (h:xy_ s i=.ok (l,j)):AscF s i j l:=by
 unfold xy_ at h;split at h
 ·split at h
  ·simp only[af_,ab_] at h;obtain⟨rfl,rfl⟩:=h;exact⟨λ env seen=>by show i<=i+2;omega,by show i<=i+2;omega,λ env=>by show i<=i+2;omega,λ g hg=>by simp at hg⟩
  ·have h1:=zkb s _ _ _ _ h;exact⟨λ env seen=>(h1.1 env seen).up (by omega),h1.2.1.up (by omega),λ env=>(h1.2.2.1 env).up (by omega),h1.2.2.2⟩
 ·cases h
theorem zpq (s:BA):∀ (n i:Nat) (l:List (Nat×Nat)) (j:Nat),za8 s n i=.ok (l,j)->(∀ seen,Asc i j (dupS seen l))/\(∀ q∈l,zn_ q.1=true)/\l.length+i<=j:=by
 intro n
 induction n with
 | zero=>intro i l j h;cases h
 | succ n ih=>
  intro i l j h;unfold za8 at h;split at h
  ·rename_i hsm;split at h
   ·split at h
    ·cases h
    ·rename_i r k hr;simp only[af_,ab_] at h;obtain⟨rfl,rfl⟩:=h;obtain⟨h1,h2,h3⟩:=ih _ _ _ hr;refine⟨λ seen=>?_,λ q hq=>?_,by simp;omega⟩
     ·rw[dupS];exact(Asc.ite (ae_ i) (by omega)).append (h1 _)
     ·rcases an_.1 hq with rfl|hq
      ·exact hsm
      ·exact h2 q hq
   ·simp only[af_,ab_] at h;obtain⟨rfl,rfl⟩:=h;refine⟨λ seen=>?_,λ q hq=>?_,by simp;omega⟩
    ·rw[dupS,dupS,a8_];exact Asc.ite (ae_ i) l_
    ·rw[a6_] at hq;subst hq;exact hsm
  ·cases h
theorem zfx {l:List (Nat×Nat)}{o:Option (Nat×Nat)}(h:za0 s i=.ok ((l,o),j)):Asc i j (dupS [] l++unkF l o)/\(∀ q∈l,zn_ q.1=true)/\(∀ c p,o=some (c,p)->zn_ c=true)/\l.length+i<=j:=by
 unfold za0 at h;split at h
 ·split at h
  ·cases h
  ·rename_i r k hr;obtain⟨h1,h2,h3⟩:=zpq s _ _ _ _ hr;have h0:=(h1 []).le;split at h
   ·split at h
    ·rename_i hsm;split at h
     ·simp only[af_,ab_] at h;obtain⟨⟨rfl,rfl⟩,rfl⟩:=h;refine⟨((h1 []).up (by omega)).append ?_,h2,λ c p e=>?_,by omega⟩
      ·simp only[unkF];split
       ·show k<=k+3;omega
       ·exact⟨by omega,by show k+1+1<=k+3;omega⟩
      ·simp only[ad_,ab_] at e;rw[<- e.1];exact hsm
     ·cases h
    ·cases h
   ·split at h
    ·simp only[af_,ab_] at h;obtain⟨⟨rfl,rfl⟩,rfl⟩:=h;exact⟨((h1 []).up (by omega)).append (by show k<=k+1;omega),h2,λ c p e=>(nomatch e),by omega⟩
    ·cases h
 ·cases h
def smB:PB->Prop
 | .recd fs=>∀ f∈fs,zn_ f.letter=true
 | .enum l o=>(∀ q∈l,zn_ q.1=true)/\∀ c p,o=some (c,p)->zn_ c=true
 | .bytes _=>True
theorem zsj {b:PB}(h:v8_ s i=.ok (b,j)) :
 (∀ env,Asc i j (zb0 env b))/\Asc i j (b.fs.flatMap (λ f=>badT f.ty))/\(∀ env,Asc i j (b.fs.flatMap (dfB s env)))/\smB b:=by
 unfold v8_ at h;split at h
 ·split at h
  ·cases h
  ·rename_i ds k hr;simp only[af_,ab_] at h;obtain⟨rfl,rfl⟩:=h;obtain⟨h1,h2,h3,h4⟩:=zmq hr;exact⟨λ env=>(h1 env []).up (by omega),h2.up (by omega),λ env=>(h3 env).up (by omega),h4⟩
 ·split at h
  ·split at h
   ·cases h
   ·rename_i l o k hr;simp only[af_,ab_] at h;obtain⟨rfl,rfl⟩:=h;obtain⟨h1,h2,h3,_⟩:=zfx hr;have:=h1.le;exact⟨λ env=>h1.up (by omega),by show i<=k;omega,λ env=>by show i<=k;omega,h2,h3⟩
  ·split at h
   ·split at h
    ·simp only[af_,ab_] at h;obtain⟨rfl,rfl⟩:=h;exact⟨λ env=>by show i<=i+2;omega,by show i<=i+2;omega,λ env=>by show i<=i+2;omega,trivial⟩
    ·cases h
   ·cases h
theorem jj_ (d:PD) (r:List PD):zd_ (d::r)=d.body.fs++zd_ r:=by simp[zd_]
theorem zpw (s:BA):∀ (n i:Nat) (ds:List PD) (j:Nat),xz_ s n i=.ok (ds,j)->
 (∀ env seen,Asc i j (defF env seen ds))/\Asc i j ((zd_ ds).flatMap (λ f=>badT f.ty))/\(∀ env,Asc i j ((zd_ ds).flatMap (dfB s env)))/\(∀ d∈ds,z0_ d.letter=true/\smB d.body)/\ds.length<=n:=by
 intro n
 induction n with
 | zero=>
  intro i ds j h;simp only[xz_,af_,ab_] at h;obtain⟨rfl,rfl⟩:=h;exact⟨λ _ _=>l_,l_,λ _=>l_,λ d hd=>by simp at hd,l_⟩
 | succ n ih=>
  intro i ds j h;unfold xz_ at h;split at h
  ·rename_i hn;split at h
   ·split at h
    ·cases h
    ·rename_i b k hb;obtain⟨b1,b2,b3,b4⟩:=zsj hb;split at h
     ·split at h
      ·cases h
      ·rename_i r e hr;simp only[af_,ab_] at h;obtain⟨rfl,rfl⟩:=h;obtain⟨r1,r2,r3,r4,r5⟩:=ih _ _ _ hr;have hk:=b2.le;refine⟨λ env seen=>?_,?_,λ env=>?_,λ d hd=>?_,by simp;omega⟩
       ·rw[defF];exact(Asc.ite (ae_ i) (show i+1<=i+2 by omega)).append ((b1 env).append ((r1 env _).up (by omega)))
       ·rw[jj_,a5_];exact(b2.up (by omega)).append (r2.up (by omega))
       ·rw[jj_,a5_];exact((b3 env).up (by omega)).append ((r3 env).up (by omega))
       ·rcases an_.1 hd with rfl|hd
        ·exact⟨hn.1,b4⟩
        ·exact r4 d hd
     ·cases h
   ·cases h
  ·simp only[af_,ab_] at h;obtain⟨rfl,rfl⟩:=h;exact⟨λ _ _=>l_,l_,λ _=>l_,λ d hd=>by simp at hd,by simp⟩
def zda (s:BA) (ds:List PD):List Nat:=(zd_ ds).flatMap (dfB s (za_ ds))
theorem zal (h:zq_ s=.ok (ds,t)) :
 wrU (za_ ds) (accU ds++ya_ t) (accW [] ds (-1))=zla (v9_ ds t)/\mix t (accM ds (-1))=zla (v5_ ds t)/\minf (-1) (zda s ds)=zla (zda s ds)/\(∀ d∈ds,z0_ d.letter=true/\smB d.body)/\ds.length<=6:=by
 unfold zq_ at h;split at h
 ·cases h
 ·rename_i ds' i hd;split at h
  ·cases h
  ·rename_i t' j ht;split at h
   ·cases h
   ·simp only[af_,ab_] at h;obtain⟨rfl,rfl⟩:=h;obtain⟨r1,r2,r3,r4,r5⟩:=zpw s _ _ _ _ hd;obtain⟨t1,t2⟩:=zsb ht;exact⟨by rw[zp6];exact zip ((r1 _ _).append (Asc.filter _ t1)),by rw[zmb];exact zip (r2.append (t2.up (by omega))),zip (r3 _),r4,r5⟩
theorem zt1 (s:BA) (env:Nat->Option PB) (fs:List PF):∀ m,dflF s env fs m=minf m (fs.flatMap (dfB s env)):=by
 induction fs with
 | nil=>intro m;rfl
 | cons f r ih=>
  intro m;rw[be_,yu_];show dflF s env r _=_;rw[ih]
  congr 1
  show(match f.dflt with|none=>m|some (a,b)=>if (xn_ env true f.ty (s.extract a b)).isSome=true then m else yn_ (a:Int) m)=minf m (match f.dflt with|none=>[]|some (a,b)=>if (xn_ env true f.ty (s.extract a b)).isSome=true then [] else [a])
  cases f.dflt with
  | none=>rfl
  | some q=>
   obtain⟨a,b⟩:=q;show(if (xn_ env true f.ty (s.extract a b)).isSome=true then m else yn_ (a:Int) m)=minf m (if (xn_ env true f.ty (s.extract a b)).isSome=true then [] else [a]);split<;>rfl
theorem zlk (s:BA) (env:Nat->Option PB) (k:Nat):zdx s env k=minf (-1) ((List.range k).flatMap (λ q=>(fsOf env q).flatMap (dfB s env))):=by
 induction k with
 | zero=>rfl
 | succ k ih=>rw[zdx,zt1,ih,bi_,a5_,yu_];simp
theorem zwz :∀ {seen:List Nat},zja seen ds=[]->(∀ d∈ds,d.letter∉seen)/\(ds.map PD.letter).Nodup:=by
 induction ds with
 | nil=>intro seen _;exact⟨λ d hd=>by simp at hd,by simp⟩
 | cons d r ih=>
  intro seen h;rw[zja] at h;simp only[bz_] at h;obtain⟨⟨_,h2⟩,h3⟩:=h;obtain⟨g1,g2⟩:=ih h3
  have hd:d.letter∉seen:=λ hm=>by rw[if_pos hm] at h2;simp at h2
  refine⟨λ x hx=>?_,?_⟩
  ·rcases an_.1 hx with rfl|hx
   ·exact hd
   ·exact λ hm=>g1 x hx (by simp[hm])
  ·rw[ap_,List.nodup_cons];refine⟨λ hm=>?_,g2⟩;obtain⟨x,hx,e⟩:=bk_.1 hm;exact g1 x hx (by rw[e];simp)
theorem zqd :∀ {b:Nat},(ds.map PD.letter).Nodup->∀ d∈ds,(look b d.letter ds).map Prod.fst=some d.body:=by
 induction ds with
 | nil=>intro b _ d hd;simp at hd
 | cons x r ih=>
  intro b h d hd;rw[ap_,List.nodup_cons] at h
  rcases an_.1 hd with rfl|hd
  ·simp[look]
  ·have hne:x.letter≠d.letter:=λ e=>h.1 (e▸List.mem_map_of_mem hd);rw[look,if_neg hne];exact ih h.2 d hd
theorem zt0 (hn:∀ d∈ds,z0_ d.letter=true) (hd:(ds.map PD.letter).Nodup):zdx s (za_ ds) 6=minf (-1) (zda s ds):=by
 rw[zlk];refine zko (λ x=>?_);unfold zda zd_;simp only[List.mem_flatMap,List.mem_range]
 constructor
 ·rintro⟨k,hk,f,hf,hx⟩;unfold fsOf at hf;split at hf
  ·rename_i fs he;unfold za_ at he
   cases hl:look 0 (65+k) ds with
   | none=>rw[hl] at he;cases he
   | some q=>
    obtain⟨pb,b'⟩:=q;obtain⟨d,hd',hb⟩:=zc4 hl;rw[hl] at he;simp only[a2_,ad_] at he;exact⟨f,⟨d,hd',by rw[hb,he];exact hf⟩,hx⟩
  ·simp at hf
 ·rintro⟨f,⟨d,hd',hf⟩,hx⟩;have h1:=hn d hd'
  have h2:65<=d.letter/\d.letter<=70:=by simpa[z0_] using h1
  have h3:=zqd (b:=0) hd d hd';refine⟨d.letter-65,by omega,f,?_,hx⟩;unfold fsOf;rw[show 65+(d.letter-65)=d.letter by omega];unfold za_;rw[h3]
  cases hb:d.body with
  | recd fs=>rw[hb] at hf;exact hf
  | enum l o=>rw[hb] at hf;exact absurd hf (by simp[PB.fs])
  | bytes n=>rw[hb] at hf;exact absurd hf (by simp[PB.fs])
theorem zb1 (hs:s.size<=300) (h:zq_ s=.ok (ds,t)):zj_ s =
 match v9_ ds t,v5_ ds t,zda s ds with
 | x::_,_,_=>(3,(x:Int))
 | [],x::_,_=>(4,(x:Int))
 | [],[],x::_=>(5,(x:Int))
 | [],[],[]=>(0,0):=by
 obtain⟨h1,h2,h3,h4,h5⟩:=zal h;unfold zj_;rw[if_neg (by omega),h];simp only;rw[h1,h2]
 cases hN:v9_ ds t with
 | cons x r=>simp[zla]
 | nil=>
  have hdup:zja [] ds=[]:=by
   rw[List.eq_nil_iff_forall_not_mem];intro x hx
   have:x∈v9_ ds t:=by
    unfold v9_;rw[bj_,zow];exact .inl (.inl hx)
   rw[hN] at this
   simp at this
  rw[zt0 (λ d hd=>(h4 d hd).1) (zwz hdup).2,h3]
  cases hU:v5_ ds t with
  | cons x r=>simp[zla]
  | nil=>
   cases hD:zda s ds with
   | cons x r=>simp[zla]
   | nil=>simp[zla]
def dP (f:PF):List Nat:=match f.dflt with|none=>[]|some (a,_)=>[a]
theorem zse (h:xa_ s i=.ok (f,j)):Asc i (j+1) (dP f):=by
 unfold xa_ at h;split at h
 ·split at h
  ·split at h
   ·cases h
   ·rename_i t k hp;obtain⟨h1,_⟩:=zsb hp;have hk:=h1.le;split at h
    ·split at h
     ·cases h
     ·rename_i e hd;have hb:=zcv hd;simp only[af_,ab_] at h;obtain⟨rfl,rfl⟩:=h;exact⟨by omega,by show k+1+1<=e+1;omega⟩
    ·simp only[af_,ab_] at h;obtain⟨rfl,rfl⟩:=h;show i<=k+1;omega
  ·cases h
 ·cases h
theorem zmt (s:BA):∀ (n i:Nat) (l:List PF) (j:Nat),xb_ s n i=.ok (l,j)->Asc i j (l.flatMap dP):=by
 intro n
 induction n with
 | zero=>intro i l j h;cases h
 | succ n ih=>
  intro i l j h;unfold xb_ at h;split at h
  ·cases h
  ·rename_i f k hf;have h1:=zse hf;split at h
   ·simp only[af_,ab_] at h;obtain⟨rfl,rfl⟩:=h;rw[be_,bx_,a8_];exact h1
   ·split at h
    ·split at h
     ·cases h
     ·rename_i fs k2 hr;simp only[af_,ab_] at h;obtain⟨rfl,rfl⟩:=h;rw[be_];exact h1.append (ih _ _ _ hr)
    ·cases h
theorem zps (h:xy_ s i=.ok (l,j)):Asc i j (l.flatMap dP):=by
 unfold xy_ at h;split at h
 ·split at h
  ·simp only[af_,ab_] at h;obtain⟨rfl,rfl⟩:=h;show i<=i+2;omega
  ·exact(zmt s _ _ _ _ h).up (by omega)
 ·cases h
theorem zvw {b:PB}(h:v8_ s i=.ok (b,j)):Asc i j (b.fs.flatMap dP):=by
 unfold v8_ at h;split at h
 ·split at h
  ·cases h
  ·rename_i ds k hr;simp only[af_,ab_] at h;obtain⟨rfl,rfl⟩:=h;exact(zps hr).up (by omega)
 ·split at h
  ·split at h
   ·cases h
   ·rename_i l o k hr;simp only[af_,ab_] at h;obtain⟨rfl,rfl⟩:=h;have:=(zfx hr).1.le;show i<=k;omega
  ·split at h
   ·split at h
    ·simp only[af_,ab_] at h;obtain⟨rfl,rfl⟩:=h;show i<=i+2;omega
    ·cases h
   ·cases h
theorem zsf (s:BA):∀ (n i:Nat) (ds:List PD) (j:Nat),xz_ s n i=.ok (ds,j)->Asc i j ((zd_ ds).flatMap dP):=by
 intro n
 induction n with
 | zero=>
  intro i ds j h;simp only[xz_,af_,ab_] at h;obtain⟨rfl,rfl⟩:=h;exact l_
 | succ n ih=>
  intro i ds j h;unfold xz_ at h;split at h
  ·split at h
   ·split at h
    ·cases h
    ·rename_i b k hb;have b3:=zvw hb;split at h
     ·split at h
      ·cases h
      ·rename_i r e hr;simp only[af_,ab_] at h;obtain⟨rfl,rfl⟩:=h;have r3:=ih _ _ _ hr;rw[jj_,a5_];exact(b3.up (by omega)).append (r3.up (by omega))
     ·cases h
   ·cases h
  ·simp only[af_,ab_] at h;obtain⟨rfl,rfl⟩:=h;exact l_
theorem zpr (h:zq_ s=.ok (ds,t)):∃ lo hi,Asc lo hi ((zd_ ds).flatMap dP):=by
 unfold zq_ at h;split at h
 ·cases h
 ·rename_i ds' i hd;split at h
  ·cases h
  ·rename_i t' j ht;split at h
   ·cases h
   ·simp only[af_,ab_] at h;obtain⟨rfl,rfl⟩:=h;exact⟨_,_,zsf s _ _ _ _ hd⟩
theorem zy4 (h:Asc lo hi (L++M)):(∀ x∈L,∀ y∈M,x<y)/\∃ m,Asc m hi M:=by
 induction L generalizing lo with
 | nil=>exact⟨λ x hx=>by simp at hx,lo,h⟩
 | cons a r ih=>
  obtain⟨h1,h2⟩:=h;obtain⟨i1,i2⟩:=ih h2;refine⟨λ x hx y hy=>?_,i2⟩
  rcases an_.1 hx with rfl|hx
  ·have:=Asc.ge h2 y (b2_ _ hy);omega
  ·exact i1 x hx y hy
theorem zyt:∀ (l:List PF){lo hi:Nat},Asc lo hi (l.flatMap dP)->∀ (i j:Nat) (f g:PF) (a e a' e':Nat),i<j->l[i]?=some f->l[j]?=some g->f.dflt=some (a,e)->g.dflt=some (a',e')->a<a'
 | [],_,_,_,i,j,f,g,a,e,a',e',_,hf,_,_,_=>by simp at hf
 | x::r,lo,hi,h,i,j,f,g,a,e,a',e',hij,hf,hg,hfa,hga=>by
  rw[be_] at h;obtain⟨h1,m,h2⟩:=zy4 h
  cases i with
  | zero=>
   simp only[aa_,ad_] at hf;subst hf;obtain⟨j,rfl⟩:∃ k,j=k+1:=⟨j-1,by omega⟩;rw[ac_] at hg;refine h1 a (by simp[dP,hfa]) a' (List.mem_flatMap.2 ⟨g,ak_ hg,by simp[dP,hga]⟩)
  | succ i=>
   obtain⟨j,rfl⟩:∃ k,j=k+1:=⟨j-1,by omega⟩;rw[ac_] at hf hg;exact zyt r h2 i j f g a e a' e' (by omega) hf hg hfa hga
theorem z0d (h:zq_ s=.ok (ds,t)) (i j:Nat) (f g:PF) (a e a' e':Nat) (hf:(zd_ ds)[i]?=some f) (hg:(zd_ ds)[j]?=some g) (hfa:f.dflt=some (a,e)) (hga:g.dflt=some (a',e')) (hne:i≠j):a≠a':=by
 obtain⟨lo,hi,hA⟩:=zpr h
 rcases Nat.lt_or_gt_of_ne hne with hl|hl
 ·have:=zyt _ hA i j f g a e a' e' hl hf hg hfa hga;omega
 ·have:=zyt _ hA j i g f a' e' a e hl hg hf hga hfa;omega
end Go.Proofs.YthmjjpkjgjklmaaGreatDoor
