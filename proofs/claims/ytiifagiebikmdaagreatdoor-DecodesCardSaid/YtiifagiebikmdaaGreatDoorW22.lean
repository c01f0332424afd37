import Derived.Test.YtiifagiebikmdaaGreatDoorW12
import Derived.Test.YtiifagiebikmdaaGreatDoorA00
set_option maxHeartbeats 16000000
set_option maxRecDepth 100000
set_option linter.unusedSimpArgs false
namespace Go.Proofs.YtiifagiebikmdaaGreatDoor
open Go.RowKit
variable {s:BA}{lo hi i j:Nat}{L:List Nat}{ds:List PD}{t:PT}{f:PF}
def minf (m:Int) (L:List Nat):Int:=L.foldl (λ (m:Int) (p:Nat)=>zz_ (p:Int) m) m
theorem yt_ (m:Int) (L M:List Nat):minf m (L++M)=minf (minf m L) M:=by simp[minf]
theorem zbg (m:Int) (p:Nat) (L:List Nat):minf m (p::L)=minf (zz_ (p:Int) m) L:=rfl
theorem zkm (a b:Nat) (m:Int):zz_ (a:Int) (zz_ (b:Int) m)=zz_ (b:Int) (zz_ (a:Int) m):=by
 unfold zz_
 by_cases h1:m<0\/(b:Int)<m<;>by_cases c:m<0\/(a:Int)<m
 ·rw[if_pos h1,if_pos c];split<;>split<;>omega
 ·rw[if_pos h1,if_neg c];split<;>(try split)<;>omega
 ·rw[if_neg h1,if_pos c];split<;>omega
 ·rw[if_neg h1,if_neg c,if_neg h1]
theorem zdm (p:Nat) (L:List Nat):∀ m,minf (zz_ (p:Int) m) L=zz_ (p:Int) (minf m L):=by
 induction L with
 | nil=>intro m;rfl
 | cons a r ih=>intro m;rw[zbg,zbg,zkm,ih]
theorem zua (L:List Nat):∀ n:Nat,∃ x:Nat,minf (n:Int) L=(x:Int)/\(x=n\/x∈L)/\x<=n/\∀ d∈L,x<=d:=by
 induction L with
 | nil=>intro n;exact⟨n,rfl,.inl rfl,l_,λ d h=>by simp at h⟩
 | cons a r ih=>
  intro n
  by_cases h:a<n
  ·obtain⟨x,h1,b,e,g⟩:=ih a;refine⟨x,?_,.inr ?_,by omega,λ d c=>?_⟩
   ·rw[zbg,show zz_ (a:Int) (n:Int)=(a:Int) by unfold zz_;rw[if_pos (.inr (by omega))]];exact h1
   ·rcases b with b|b
    ·rw[b];simp
    ·simp[b]
   ·rcases ap_.1 c with rfl|c
    ·exact e
    ·exact g d c
  ·obtain⟨x,h1,b,e,g⟩:=ih n;refine⟨x,?_,?_,e,λ d c=>?_⟩
   ·rw[zbg,show zz_ (a:Int) (n:Int)=(n:Int) by unfold zz_;rw[if_neg (by omega)]];exact h1
   ·rcases b with b|b
    ·exact .inl b
    ·exact .inr (by simp[b])
   ·rcases ap_.1 c with rfl|c
    ·omega
    ·exact g d c
theorem zc0 (L:List Nat):(L=[]/\minf (-1) L = -1)\/∃ x∈L,minf (-1) L=(x:Int)/\∀ d∈L,x<=d:=by
 cases L with
 | nil=>exact .inl ⟨rfl,rfl⟩
 | cons a r=>
  right
  obtain⟨x,h1,b,e,g⟩:=zua r a;refine⟨x,?_,?_,λ d c=>?_⟩
  ·rcases b with b|b
   ·rw[b];simp
   ·simp[b]
  ·rw[zbg,show zz_ (a:Int) (-1)=(a:Int) by unfold zz_;rw[if_pos (.inl (by omega))]];exact h1
  ·rcases ap_.1 c with rfl|c
   ·exact e
   ·exact g d c
theorem zj9 {M:List Nat}(h:∀ x,x∈L↔x∈M):minf (-1) L=minf (-1) M:=by
 rcases zc0 L with⟨rfl,e⟩|⟨x,d,e,hl⟩
 ·rcases zc0 M with⟨rfl,b⟩|⟨a,c,_,_⟩
  ·rfl
  ·exact absurd ((h a).2 c) (by simp)
 ·rcases zc0 M with⟨rfl,b⟩|⟨a,c,b,g⟩
  ·exact absurd ((h x).1 d) (by simp)
  ·have h1:=hl a ((h a).2 c);have k:=g x ((h x).1 d);rw[e,b];omega
def Asc (lo hi:Nat):List Nat->Prop
 | []=>lo<=hi
 | x::r=>lo<=x/\Asc (x+1) hi r
theorem Asc.le (h:Asc lo hi L):lo<=hi:=by
 induction L generalizing lo with
 | nil=>exact h
 | cons x r ih=>have:=ih h.2;have:=h.1;omega
theorem Asc.up {a:Nat}(h:Asc lo hi L) (hl:a<=lo):Asc a hi L:=by
 cases L with
 | nil=>exact ai_ hl h
 | cons x r=>exact⟨ai_ hl h.1,h.2⟩
theorem Asc.wide {a:Nat}(h:Asc lo hi L) (hl:hi<=a):Asc lo a L:=by
 induction L generalizing lo with
 | nil=>exact ai_ h hl
 | cons x r ih=>exact⟨h.1,ih h.2⟩
theorem Asc.append {a:Nat}{M:List Nat}(h:Asc lo a L) (k:Asc a hi M):Asc lo hi (L++M):=by
 induction L generalizing lo with
 | nil=>exact k.up h
 | cons x r ih=>exact⟨h.1,ih h.2⟩
theorem Asc.ge (h:Asc lo hi L):∀ b∈L,lo<=b:=by
 induction L generalizing lo with
 | nil=>intro b a;simp at a
 | cons x r ih=>
  intro b a
  rcases ap_.1 a with rfl|a
  ·exact h.1
  ·have:=ih h.2 b a;have:=h.1;omega
theorem Asc.ite {p:Nat}{c:Prop} [Decidable c] (h:lo<=p) (h2:p+1<=hi):Asc lo hi (if c then [p] else []):=by
 split
 ·exact⟨h,h2⟩
 ·show lo<=hi;omega
theorem Asc.filter {l:List (Nat×Nat)}(p:Nat×Nat->Bool) (h:Asc lo hi (l.map Prod.snd)):Asc lo hi ((l.filter p).map Prod.snd):=by
 induction l generalizing lo with
 | nil=>exact h
 | cons x r ih=>
  rw[List.filter_cons];split
  ·exact⟨h.1,ih h.2⟩
  ·exact(ih h.2).up (by have:=h.1;omega)
def zkj:List Nat->Int
 | []=>-1
 | x::_=>(x:Int)
theorem zh6 (h:Asc lo hi L):minf (-1) L=zkj L:=by
 cases L with
 | nil=>rfl
 | cons x r=>
  rcases zc0 (x::r) with⟨e,_⟩|⟨b,a,e,hl⟩
  ·cases e
  ·rw[e];have h1:=hl x (by simp)
   rcases ap_.1 a with rfl|a
   ·rfl
   ·have:=h.2.ge b a;exact absurd h1 (by omega)
def useF (env:Nat->Option PB) (us:List (Nat×Nat)):List Nat:=(us.filter (λ u=>(env u.1).isNone)).map Prod.snd
def dupF (seen:List Nat):List PF->List Nat
 | []=>[]
 | f::r=>(if f.letter∈seen then [f.place] else [])++dupF (seen++[f.letter]) r
def dupS (seen:List Nat):List (Nat×Nat)->List Nat
 | []=>[]
 | q::r=>(if q.1∈seen then [q.2] else [])++dupS (seen++[q.1]) r
def unkF (l:List (Nat×Nat)):Option (Nat×Nat)->List Nat
 | none=>[]
 | some (c,p)=>if c∈l.map Prod.fst then [] else [p]
def PB.dup:PB->List Nat
 | .recd fs=>dupF [] fs
 | .enum l o=>dupS [] l++unkF l o
 | .bytes _=>[]
def zis (seen:List Nat):List PD->List Nat
 | []=>[]
 | d::r=>d.body.dup++(if d.letter∈seen then [d.place] else [])++zis (seen++[d.letter]) r
theorem zh5 (c:Prop) [Decidable c] (p:Nat) (m:Int):minf m (if c then [p] else [])=if c then zz_ (p:Int) m else m:=by
 split<;>rfl
theorem ztb (fs:List PF):∀ a m,wrF a fs m=minf m (dupF a fs):=by
 induction fs with
 | nil=>intro a m;rfl
 | cons f r ih=>intro a m;rw[wrF,dupF,ih,yt_,zh5]
theorem zs9 (l:List (Nat×Nat)):∀ a m,wrS a l m=minf m (dupS a l):=by
 induction l with
 | nil=>intro a m;rfl
 | cons f r ih=>intro a m;rw[wrS,dupS,ih,yt_,zh5]
theorem PB.wr_minf (b:PB) (m:Int):b.wr m=minf m b.dup:=by
 cases b with
 | recd fs=>exact ztb fs [] m
 | bytes n=>rfl
 | enum l o=>
  show wrE l o m=minf m (dupS [] l++unkF l o);rw[yt_,<- zs9]
  match o with
  | none=>rfl
  | some (c,p)=>
   simp only[wrE,unkF];split<;>rfl
theorem zsx (ds:List PD):∀ a m,accW a ds m=minf m (zis a ds):=by
 induction ds with
 | nil=>intro a m;rfl
 | cons d r ih=>intro a m;rw[accW,zis,ih,yt_,yt_,zh5,PB.wr_minf]
theorem zs7 (env:Nat->Option PB) (us:List (Nat×Nat)):∀ m,wrU env us m=minf m (useF env us):=by
 induction us with
 | nil=>intro m;rfl
 | cons u r ih=>
  intro m;have h:=ih (if (env u.1).isNone=true then zz_ (u.2:Int) m else m);show wrU env r (if (env u.1).isNone=true then zz_ (u.2:Int) m else m)=_;rw[h];unfold useF;rw[List.filter_cons];split<;>rfl
def fldF (env:Nat->Option PB) (seen:List Nat):List PF->List Nat
 | []=>[]
 | f::r=>(if f.letter∈seen then [f.place] else [])++(useF env (zr_ f.ty)++fldF env (seen++[f.letter]) r)
def zdz (env:Nat->Option PB):PB->List Nat
 | .recd fs=>fldF env [] fs
 | .enum l o=>dupS [] l++unkF l o
 | .bytes _=>[]
def defF (env:Nat->Option PB) (seen:List Nat):List PD->List Nat
 | []=>[]
 | d::r=>(if d.letter∈seen then [d.place] else [])++(zdz env d.body++defF env (seen++[d.letter]) r)
def j3_ (ds:List PD) (t:PT):List Nat:=defF (zc_ ds) [] ds++useF (zc_ ds) (zr_ t)
theorem zaj (env:Nat->Option PB) (a b:List (Nat×Nat)):useF env (a++b)=useF env a++useF env b:=by simp[useF]
theorem zuk (env:Nat->Option PB) (fs:List PF) (x:Nat):∀ a,x∈fldF env a fs↔x∈dupF a fs\/x∈useF env (zs_ (fs.map PF.ty)):=by
 induction fs with
 | nil=>intro a;simp[fldF,dupF,zs_,useF]
 | cons f r ih=>
  intro a;rw[fldF,dupF,ay_,zs_,zaj];simp only[bg_,ih]
  constructor
  ·rintro(h|h|h|h)<;>simp[h]
  ·rintro((h|h)|h|h)<;>simp[h]
theorem zsr (env:Nat->Option PB) (b:PB) (x:Nat):x∈zdz env b↔x∈b.dup\/x∈useF env b.us:=by
 cases b with
 | recd fs=>exact zuk env fs x []
 | enum l o=>simp[zdz,PB.dup,PB.us,useF]
 | bytes n=>simp[zdz,PB.dup,PB.us,useF]
theorem znr (env:Nat->Option PB) (ds:List PD) (x:Nat):∀ a,x∈defF env a ds↔x∈zis a ds\/x∈useF env (accU ds):=by
 induction ds with
 | nil=>intro a;simp[defF,zis,accU,useF]
 | cons d r ih=>
  intro a;rw[defF,zis,accU,zaj];simp only[bg_,ih,zsr]
  constructor
  ·rintro(h|(h|h)|h|h)<;>simp[h]
  ·rintro(((h|h)|h)|h|h)<;>simp[h]
theorem zo2 (ds:List PD) (t:PT):wrU (zc_ ds) (accU ds++zr_ t) (accW [] ds (-1))=minf (-1) (j3_ ds t):=by
 rw[zs7,zsx,<- yt_];refine zj9 (λ x=>?_);simp only[j3_,zaj,bg_,znr,or_assoc]
mutual
def badT:PT->List Nat
 | .leaf _ _=>[]
 | .wrap _ _ t=>badT t
 | .alts _ ts=>za3 [] ts
def za3 (seen:List Nat):List PT->List Nat
 | []=>[]
 | t::r=>(if t.kind=40\/t.kind∈seen then [t.place] else [])++(badT t++za3 (seen++[t.kind]) r)
end
theorem zj8 (b:List Nat) (t:PT) (m:Int):zbf b t m=if t.kind=40\/t.kind∈b then zz_ (t.place:Int) m else m:=by
 unfold zbf zz_
 by_cases h:t.kind=40\/t.kind∈b
 ·rw[if_pos h]
  by_cases a:m<0\/(t.place:Int)<m
  ·rw[if_pos ⟨h,a⟩,if_pos a]
  ·rw[if_neg (λ q=>a q.2),if_neg a]
 ·rw[if_neg (λ q=>h q.1),if_neg h]
mutual
theorem zev:∀ (t:PT) (m:Int),mix t m=minf m (badT t)
 | .leaf c p,m=>by simp[mix,badT,minf]
 | .wrap c p t,m=>by rw[mix,badT];exact zev t m
 | .alts p ts,m=>by rw[mix,badT];exact zj7 ts [] m
theorem zj7:∀ (ts:List PT) (a:List Nat) (m:Int),mixs a ts m=minf m (za3 a ts)
 | [],a,m=>by simp[mixs,za3,minf]
 | t::r,a,m=>by
  rw[mixs,za3,yt_,yt_,zj7 r,zj8,zev t m,zh5];split
  ·rw[zdm,zdm,zdm]
  ·rfl
end
def PB.fs:PB->List PF
 | .recd fs=>fs
 | _=>[]
def zf_ (ds:List PD):List PF:=ds.flatMap (λ d=>d.body.fs)
def ji_ (ds:List PD) (t:PT):List Nat:=(zf_ ds).flatMap (λ f=>badT f.ty)++badT t
theorem zrm (fs:List PF):∀ m,mixF fs m=minf m (fs.flatMap (λ f=>badT f.ty)):=by
 induction fs with
 | nil=>intro m;rfl
 | cons f r ih=>
  intro m;rw[bl_,yt_,<- zev];exact ih (mix f.ty m)
theorem zsy (ds:List PD):∀ m,accM ds m=minf m ((zf_ ds).flatMap (λ f=>badT f.ty)):=by
 induction ds with
 | nil=>intro m;rfl
 | cons d r ih=>
  intro m;have h:=ih (d.body.mx m);show accM r (d.body.mx m)=_;rw[h];unfold zf_;rw[bl_,a8_,yt_]
  congr 1
  cases d.body with
  | recd fs=>exact zrm fs m
  | enum l o=>rfl
  | bytes n=>rfl
theorem zlk (ds:List PD) (t:PT):mix t (accM ds (-1))=minf (-1) (ji_ ds t):=by
 rw[zev,zsy,ji_,yt_]
open Go.RowKit
theorem zyl (s:BA) (f:Nat) :
 (∀ i t j,pTyp s f i=.ok (t,j)->Asc i j ((zr_ t).map Prod.snd)/\Asc (i+1) j (badT t)/\t.place=i)/\
 (∀ i ts j,x0_ s f i=.ok (ts,j)->Asc i j ((zs_ ts).map Prod.snd)/\∀ b,Asc i j (za3 b ts)):=by
 induction f with
 | zero=>exact⟨λ i t j h=>by simp[pTyp] at h,λ i t j h=>by simp[x0_] at h⟩
 | succ f ih=>
  obtain⟨m,l⟩:=ih;refine⟨λ i t j h=>?_,λ i t j h=>?_⟩
  ·rw[jl_] at h;unfold za6 at h;split at h
   ·simp only[ae_,ad_] at h;obtain⟨rfl,rfl⟩:=h;rename_i hb
    simp[zr_,hb,badT,Asc,PT.place]
   ·split at h
    ·cases a:pTyp s f (i+1) with
     | error k=>rw[a] at h;simp at h
     | ok r=>
      obtain⟨c,j'⟩:=r;rw[a] at h;simp only at h;split at h
      ·simp only[ae_,ad_] at h;obtain⟨rfl,rfl⟩:=h;obtain⟨h1,d,_⟩:=m _ _ _ a;exact⟨by rw[zr_];exact(h1.up (by omega)).wide (by omega),by rw[badT];exact(d.up (by omega)).wide (by omega),rfl⟩
      ·simp at h
    ·split at h
     ·cases a:x0_ s f (i+1) with
      | error k=>rw[a] at h;simp at h
      | ok r=>
       obtain⟨c,j'⟩:=r;rw[a] at h;simp only at h;split at h
       ·simp only[ae_,ad_] at h;obtain⟨rfl,rfl⟩:=h;obtain⟨h1,d⟩:=l _ _ _ a;exact⟨by rw[zr_];exact(h1.up (by omega)).wide (by omega),by rw[badT];exact(d []).wide (by omega),rfl⟩
       ·simp at h
     ·split at h
      ·simp only[ae_,ad_] at h;obtain⟨rfl,rfl⟩:=h;rename_i hb _ _ _
       simp[zr_,hb,badT,Asc,PT.place]
      ·simp at h
  ·rw[vr_] at h;unfold zgn at h
   cases a:pTyp s f i with
   | error k=>rw[a] at h;simp at h
   | ok r=>
    obtain⟨c,j'⟩:=r;rw[a] at h;obtain⟨h1,d,p⟩:=m _ _ _ a
    have g:∀ b:List Nat,Asc i j' ((if c.kind=40\/c.kind∈b then [c.place] else [])++badT c):=λ b=>by
     rw[p];exact Asc.append (Asc.ite (ac_ i) (ac_ (i+1))) d
    simp only at h;split at h
    ·cases e:x0_ s f (j'+1) with
     | error k=>rw[e] at h;simp at h
     | ok r=>
      obtain⟨ts,k⟩:=r;rw[e] at h;simp only[ae_,ad_] at h;obtain⟨rfl,rfl⟩:=h;obtain⟨n,o⟩:=l _ _ _ e;refine⟨?_,λ b=>?_⟩
      ·rw[zs_,be_];exact h1.append (n.up (by omega))
      ·rw[za3,<- bo_];exact(g b).append ((o _).up (by omega))
    ·simp only[ae_,ad_] at h;obtain⟨rfl,rfl⟩:=h;refine⟨?_,λ b=>?_⟩
     ·rw[zs_,zs_,bc_];exact h1
     ·rw[za3,za3,bc_];exact g b
theorem zvg (h:pT s i=.ok (t,j)):Asc i j ((zr_ t).map Prod.snd)/\Asc (i+1) j (badT t):=⟨((zyl s _).1 i t j h).1,((zyl s _).1 i t j h).2.1⟩
def dfB (s:BA) (env:Nat->Option PB) (f:PF):List Nat:=
 match f.dflt with|none=>[]|some (a,b)=>if (vp_ env true f.ty (s.extract a b)).isSome=true then [] else [a]
theorem zon (h:ye_ s i=.ok (f,j)):f.place=i/\f.letter=bt s i/\zi_ (bt s i)=true/\
 Asc (i+1) j ((zr_ f.ty).map Prod.snd)/\Asc (i+1) j (badT f.ty)/\∀ env,Asc (i+1) (j+1) (dfB s env f):=by
 unfold ye_ at h;split at h
 ·rename_i b;split at h
  ·split at h
   ·cases h
   ·rename_i t k c;obtain⟨h1,a⟩:=zvg c;split at h
    ·split at h
     ·cases h
     ·rename_i e hd;have hb:=zfm hd;simp only[ae_,ad_] at h;obtain⟨rfl,rfl⟩:=h;have hk:=h1.le;refine⟨rfl,rfl,b,(h1.up (by omega)).wide (by omega),(a.up (by omega)).wide (by omega),λ env=>?_⟩;simp only[dfB];split
      ·show i+1<=e+1;omega
      ·exact⟨by omega,by show k+1+1<=e+1;omega⟩
    ·simp only[ae_,ad_] at h;obtain⟨rfl,rfl⟩:=h;have hk:=h1.le;exact⟨rfl,rfl,b,h1.up (by omega),a.up (by omega),λ env=>by show i+1<=k+1;omega⟩
  ·cases h
 ·cases h
def AscF (s:BA) (lo hi:Nat) (l:List PF):Prop:=
 (∀ env seen,Asc lo hi (fldF env seen l))/\Asc lo hi (l.flatMap (λ f=>badT f.ty))/\(∀ env,Asc lo hi (l.flatMap (dfB s env)))/\∀ f∈l,zi_ f.letter=true
theorem AscF.one (h:ye_ s i=.ok (f,j)):AscF s i (j+1) [f]:=by
 obtain⟨h1,h0,d,a,b,c⟩:=zon h;have e:=a.le;refine⟨λ env k=>?_,?_,λ env=>?_,λ g hg=>?_⟩
 ·rw[fldF,fldF,bc_,h1];exact(Asc.ite (ac_ i) (ac_ (i+1))).append ((Asc.filter _ a).wide (by omega))
 ·rw[bl_,b0_,bc_];exact(b.up (by omega)).wide (by omega)
 ·rw[bl_,b0_,bc_];exact(c env).up (by omega)
 ·rw[bj_] at hg;subst hg;rw[h0];exact d
theorem AscF.cons {m:Nat}{l:List PF}(h:AscF s i m [f]) (k:AscF s m j l):AscF s i j (f::l):=by
 refine⟨λ env a=>?_,?_,λ env=>?_,λ g hg=>?_⟩
 ·have h1:=h.1 env a;rw[fldF,fldF,bc_] at h1;rw[fldF,<- bo_];exact h1.append (k.1 env _)
 ·have h1:=h.2.1;rw[bl_,b0_,bc_] at h1;rw[bl_];exact h1.append k.2.1
 ·have h1:=h.2.2.1 env;rw[bl_,b0_,bc_] at h1;rw[bl_];exact h1.append (k.2.2.1 env)
 ·rcases ap_.1 hg with rfl|hg
  ·exact h.2.2.2 g (by simp)
  ·exact k.2.2.2 g hg
theorem zjq (s:BA):∀ (n i:Nat) (l:List PF) (j:Nat),xm_ s n i=.ok (l,j)->AscF s i j l:=by
 intro n
 induction n with
 | zero=>intro i l j h;cases h
 | succ n ih=>
  intro i l j h;unfold xm_ at h;split at h
  ·cases h
  ·rename_i f k a;have h1:=AscF.one a;split at h
   ·simp only[ae_,ad_] at h;obtain⟨rfl,rfl⟩:=h;exact h1
   ·split at h
    ·split at h
     ·cases h
     ·rename_i fs c b;simp only[ae_,ad_] at h;obtain⟨rfl,rfl⟩:=h;exact h1.cons (ih _ _ _ b)
    ·cases h
theorem zlx {l:List PF}(h:ys_ s i=.ok (l,j)):AscF s i j l:=by
 unfold ys_ at h;split at h
 ·split at h
  ·simp only[ae_,ad_] at h;obtain⟨rfl,rfl⟩:=h;exact⟨λ env a=>by show i<=i+2;omega,by show i<=i+2;omega,λ env=>by show i<=i+2;omega,λ g hg=>by simp at hg⟩
  ·have h1:=zjq s _ _ _ _ h;exact⟨λ env a=>(h1.1 env a).up (by omega),h1.2.1.up (by omega),λ env=>(h1.2.2.1 env).up (by omega),h1.2.2.2⟩
 ·cases h
theorem zok (s:BA):∀ (n i:Nat) (l:List (Nat×Nat)) (j:Nat),zba s n i=.ok (l,j)->(∀ b,Asc i j (dupS b l))/\(∀ q∈l,zi_ q.1=true)/\l.length+i<=j:=by
 intro n
 induction n with
 | zero=>intro i l j h;cases h
 | succ n ih=>
  intro i l j h;unfold zba at h;split at h
  ·rename_i c;split at h
   ·split at h
    ·cases h
    ·rename_i m k e;simp only[ae_,ad_] at h;obtain⟨rfl,rfl⟩:=h;obtain⟨h1,d,g⟩:=ih _ _ _ e;refine⟨λ b=>?_,λ q a=>?_,by simp;omega⟩
     ·rw[dupS];exact(Asc.ite (ac_ i) (by omega)).append (h1 _)
     ·rcases ap_.1 a with rfl|a
      ·exact c
      ·exact d q a
   ·simp only[ae_,ad_] at h;obtain⟨rfl,rfl⟩:=h;refine⟨λ b=>?_,λ q a=>?_,by simp;omega⟩
    ·rw[dupS,dupS,bc_];exact Asc.ite (ac_ i) l_
    ·rw[bj_] at a;subst a;exact c
  ·cases h
theorem zju {l:List (Nat×Nat)}{o:Option (Nat×Nat)}(h:vc_ s i=.ok ((l,o),j)):Asc i j (dupS [] l++unkF l o)/\(∀ q∈l,zi_ q.1=true)/\(∀ c p,o=some (c,p)->zi_ c=true)/\l.length+i<=j:=by
 unfold vc_ at h;split at h
 ·split at h
  ·cases h
  ·rename_i m k b;obtain⟨h1,a,g⟩:=zok s _ _ _ _ b;have h0:=(h1 []).le;split at h
   ·split at h
    ·rename_i d;split at h
     ·simp only[ae_,ad_] at h;obtain⟨⟨rfl,rfl⟩,rfl⟩:=h;refine⟨((h1 []).up (by omega)).append ?_,a,λ c p e=>?_,by omega⟩
      ·simp only[unkF];split
       ·show k<=k+3;omega
       ·exact⟨by omega,by show k+1+1<=k+3;omega⟩
      ·simp only[ag_,ad_] at e;rw[<- e.1];exact d
     ·cases h
    ·cases h
   ·split at h
    ·simp only[ae_,ad_] at h;obtain⟨⟨rfl,rfl⟩,rfl⟩:=h;exact⟨((h1 []).up (by omega)).append (by show k<=k+1;omega),a,λ c p e=>(nomatch e),by omega⟩
    ·cases h
 ·cases h
def smB:PB->Prop
 | .recd fs=>∀ f∈fs,zi_ f.letter=true
 | .enum l o=>(∀ q∈l,zi_ q.1=true)/\∀ c p,o=some (c,p)->zi_ c=true
 | .bytes _=>True
theorem zqz {b:PB}(h:vd_ s i=.ok (b,j)) :
 (∀ env,Asc i j (zdz env b))/\Asc i j (b.fs.flatMap (λ f=>badT f.ty))/\(∀ env,Asc i j (b.fs.flatMap (dfB s env)))/\smB b:=by
 unfold vd_ at h;split at h
 ·split at h
  ·cases h
  ·rename_i ds k d;simp only[ae_,ad_] at h;obtain⟨rfl,rfl⟩:=h;obtain⟨h1,a,c,e⟩:=zlx d;exact⟨λ env=>(h1 env []).up (by omega),a.up (by omega),λ env=>(c env).up (by omega),e⟩
 ·split at h
  ·split at h
   ·cases h
   ·rename_i l o k d;simp only[ae_,ad_] at h;obtain⟨rfl,rfl⟩:=h;obtain⟨h1,a,c,_⟩:=zju d;have:=h1.le;exact⟨λ env=>h1.up (by omega),by show i<=k;omega,λ env=>by show i<=k;omega,a,c⟩
  ·split at h
   ·split at h
    ·simp only[ae_,ad_] at h;obtain⟨rfl,rfl⟩:=h;exact⟨λ env=>by show i<=i+2;omega,by show i<=i+2;omega,λ env=>by show i<=i+2;omega,trivial⟩
    ·cases h
   ·cases h
theorem zau (d:PD) (a:List PD):zf_ (d::a)=d.body.fs++zf_ a:=by simp[zf_]
theorem zop (s:BA):∀ (n i:Nat) (ds:List PD) (j:Nat),y5_ s n i=.ok (ds,j)->
 (∀ env a,Asc i j (defF env a ds))/\Asc i j ((zf_ ds).flatMap (λ f=>badT f.ty))/\(∀ env,Asc i j ((zf_ ds).flatMap (dfB s env)))/\(∀ d∈ds,z5_ d.letter=true/\smB d.body)/\ds.length<=n:=by
 intro n
 induction n with
 | zero=>
  intro i ds j h;simp only[y5_,ae_,ad_] at h;obtain⟨rfl,rfl⟩:=h;exact⟨λ _ _=>l_,l_,λ _=>l_,λ d hd=>by simp at hd,l_⟩
 | succ n ih=>
  intro i ds j h;unfold y5_ at h;split at h
  ·rename_i hn;split at h
   ·split at h
    ·cases h
    ·rename_i b k hb;obtain⟨b1,b2,b3,c⟩:=zqz hb;split at h
     ·split at h
      ·cases h
      ·rename_i p e g;simp only[ae_,ad_] at h;obtain⟨rfl,rfl⟩:=h;obtain⟨r1,l,m,o,q⟩:=ih _ _ _ g;have hk:=b2.le;refine⟨λ env a=>?_,?_,λ env=>?_,λ d hd=>?_,by simp;omega⟩
       ·rw[defF];exact(Asc.ite (ac_ i) (show i+1<=i+2 by omega)).append ((b1 env).append ((r1 env _).up (by omega)))
       ·rw[zau,a8_];exact(b2.up (by omega)).append (l.up (by omega))
       ·rw[zau,a8_];exact((b3 env).up (by omega)).append ((m env).up (by omega))
       ·rcases ap_.1 hd with rfl|hd
        ·exact⟨hn.1,c⟩
        ·exact o d hd
     ·cases h
   ·cases h
  ·simp only[ae_,ad_] at h;obtain⟨rfl,rfl⟩:=h;exact⟨λ _ _=>l_,l_,λ _=>l_,λ d hd=>by simp at hd,by simp⟩
def zc4 (s:BA) (ds:List PD):List Nat:=(zf_ ds).flatMap (dfB s (zc_ ds))
theorem zao (h:z1_ s=.ok (ds,t)) :
 wrU (zc_ ds) (accU ds++zr_ t) (accW [] ds (-1))=zkj (j3_ ds t)/\mix t (accM ds (-1))=zkj (ji_ ds t)/\minf (-1) (zc4 s ds)=zkj (zc4 s ds)/\(∀ d∈ds,z5_ d.letter=true/\smB d.body)/\ds.length<=6:=by
 unfold z1_ at h;split at h
 ·cases h
 ·rename_i m i hd;split at h
  ·cases h
  ·rename_i n j a;split at h
   ·cases h
   ·simp only[ae_,ad_] at h;obtain⟨rfl,rfl⟩:=h;obtain⟨r1,b,c,e,g⟩:=zop s _ _ _ _ hd;obtain⟨k,l⟩:=zvg a;exact⟨by rw[zo2];exact zh6 ((r1 _ _).append (Asc.filter _ k)),by rw[zlk];exact zh6 (b.append (l.up (by omega))),zh6 (c _),e,g⟩
theorem zr9 (s:BA) (env:Nat->Option PB) (fs:List PF):∀ m,dflF s env fs m=minf m (fs.flatMap (dfB s env)):=by
 induction fs with
 | nil=>intro m;rfl
 | cons f r ih=>
  intro m;rw[bl_,yt_];show dflF s env r _=_;rw[ih]
  congr 1
  show(match f.dflt with|none=>m|some (a,b)=>if (vp_ env true f.ty (s.extract a b)).isSome=true then m else zz_ (a:Int) m)=minf m (match f.dflt with|none=>[]|some (a,b)=>if (vp_ env true f.ty (s.extract a b)).isSome=true then [] else [a])
  cases f.dflt with
  | none=>rfl
  | some q=>
   obtain⟨a,b⟩:=q;show(if (vp_ env true f.ty (s.extract a b)).isSome=true then m else zz_ (a:Int) m)=minf m (if (vp_ env true f.ty (s.extract a b)).isSome=true then [] else [a]);split<;>rfl
theorem zku (s:BA) (env:Nat->Option PB) (k:Nat):xj_ s env k=minf (-1) ((List.range k).flatMap (λ q=>(fsOf env q).flatMap (dfB s env))):=by
 induction k with
 | zero=>rfl
 | succ k ih=>rw[xj_,zr9,ih,bh_,a8_,yt_];simp
theorem zu4 :∀ {c:List Nat},zis c ds=[]->(∀ d∈ds,d.letter∉c)/\(ds.map PD.letter).Nodup:=by
 induction ds with
 | nil=>intro c _;exact⟨λ d hd=>by simp at hd,by simp⟩
 | cons d r ih=>
  intro c h;rw[zis] at h;simp only[List.append_eq_nil_iff] at h;obtain⟨⟨_,k⟩,m⟩:=h;obtain⟨g,l⟩:=ih m
  have hd:d.letter∉c:=λ a=>by rw[if_pos a] at k;simp at k
  refine⟨λ x b=>?_,?_⟩
  ·rcases ap_.1 b with rfl|b
   ·exact hd
   ·exact λ a=>g x b (by simp[a])
  ·rw[ay_,List.nodup_cons];refine⟨λ a=>?_,l⟩;obtain⟨x,b,e⟩:=bs_.1 a;exact g x b (by rw[e];simp)
theorem zo5 :∀ {b:Nat},(ds.map PD.letter).Nodup->∀ d∈ds,(look b d.letter ds).map Prod.fst=some d.body:=by
 induction ds with
 | nil=>intro b _ d hd;simp at hd
 | cons x r ih=>
  intro b h d hd;rw[ay_,List.nodup_cons] at h
  rcases ap_.1 hd with rfl|hd
  ·simp[look]
  ·have a:x.letter≠d.letter:=λ e=>h.1 (e▸List.mem_map_of_mem hd);rw[look,if_neg a];exact ih h.2 d hd
theorem zr7 (hn:∀ d∈ds,z5_ d.letter=true) (hd:(ds.map PD.letter).Nodup):xj_ s (zc_ ds) 6=minf (-1) (zc4 s ds):=by
 rw[zku];refine zj9 (λ x=>?_);unfold zc4 zf_;simp only[List.mem_flatMap,List.mem_range]
 constructor
 ·rintro⟨k,hk,f,a,e⟩;unfold fsOf at a;split at a
  ·rename_i fs he;unfold zc_ at he
   cases hl:look 0 (65+k) ds with
   | none=>rw[hl] at he;cases he
   | some q=>
    obtain⟨pb,h⟩:=q;obtain⟨d,c,hb⟩:=zex hl;rw[hl] at he;simp only[bw_,ag_] at he;exact⟨f,⟨d,c,by rw[hb,he];exact a⟩,e⟩
  ·simp at a
 ·rintro⟨f,⟨d,c,a⟩,e⟩;have h1:=hn d c
  have m:65<=d.letter/\d.letter<=70:=by simpa[z5_] using h1
  have g:=zo5 (b:=0) hd d c;refine⟨d.letter-65,by omega,f,?_,e⟩;unfold fsOf;rw[show 65+(d.letter-65)=d.letter by omega];unfold zc_;rw[g]
  cases hb:d.body with
  | recd fs=>rw[hb] at a;exact a
  | enum l o=>rw[hb] at a;exact absurd a (by simp[PB.fs])
  | bytes n=>rw[hb] at a;exact absurd a (by simp[PB.fs])
theorem zgr (hs:s.size<=300) (h:z1_ s=.ok (ds,t)):zv_ s =
 match j3_ ds t,ji_ ds t,zc4 s ds with
 | x::_,_,_=>(3,(x:Int))
 | [],x::_,_=>(4,(x:Int))
 | [],[],x::_=>(5,(x:Int))
 | [],[],[]=>(0,0):=by
 obtain⟨h1,a,b,c,l⟩:=zao h;unfold zv_;rw[if_neg (by omega),h];simp only;rw[h1,a]
 cases e:j3_ ds t with
 | cons x r=>simp[zkj]
 | nil=>
  have g:zis [] ds=[]:=by
   rw[List.eq_nil_iff_forall_not_mem];intro x k
   have:x∈j3_ ds t:=by
    unfold j3_;rw[bg_,znr];exact .inl (.inl k)
   rw[e] at this
   simp at this
  rw[zr7 (λ d hd=>(c d hd).1) (zu4 g).2,b]
  cases n:ji_ ds t with
  | cons x r=>simp[zkj]
  | nil=>
   cases m:zc4 s ds with
   | cons x r=>simp[zkj]
   | nil=>simp[zkj]
end Go.Proofs.YtiifagiebikmdaaGreatDoor
