import Derived.Test.YtiifagiebikmdaaGreatDoorBK08
namespace Go.Proofs.YtiifagiebikmdaaGreatDoor
open Go.RowKit
def minf (m:Int) (L:List Nat):Int:=L.foldl (fun (m:Int) (p:Nat)=>firstOf (p:Int) m) m
theorem minf_append (m:Int) (L M:List Nat):minf m (L++M)=minf (minf m L) M:=by simp[minf]
theorem minf_cons (m:Int) (p:Nat) (L:List Nat):minf m (p::L)=minf (firstOf (p:Int) m) L:=rfl
theorem firstOf_comm (a b:Nat) (m:Int):firstOf (a:Int) (firstOf (b:Int) m)=firstOf (b:Int) (firstOf (a:Int) m):=by
 unfold firstOf
 by_cases h1:m<0∨(b:Int)<m <;> by_cases h2:m<0∨(a:Int)<m
 ·rw[if_pos h1,if_pos h2];split <;> split <;> omega
 ·rw[if_pos h1,if_neg h2];split <;> (try split) <;> omega
 ·rw[if_neg h1,if_pos h2];split <;> omega
 ·rw[if_neg h1,if_neg h2,if_neg h1]
theorem minf_first (p:Nat) (L:List Nat):∀ m,minf (firstOf (p:Int) m) L=firstOf (p:Int) (minf m L):=by
 induction L with
 | nil=>intro m;rfl
 | cons a r ih=>intro m;rw[minf_cons,minf_cons,firstOf_comm,ih]
theorem minf_nat (L:List Nat):∀ n:Nat,∃ x:Nat,minf (n:Int) L=(x:Int)∧(x=n∨x∈L)∧x≤n∧∀ y∈L,x≤y:=by
 induction L with
 | nil=>intro n;exact⟨n,rfl,.inl rfl,Nat.le_refl _,fun y h=>by simp at h⟩
 | cons a r ih=>
  intro n
  by_cases h:a<n
  ·obtain⟨x,h1,h2,h3,h4⟩:=ih a
   refine⟨x,?_,.inr ?_,by omega,fun y hy=>?_⟩
   ·rw[minf_cons,show firstOf (a:Int) (n:Int)=(a:Int) by unfold firstOf;rw[if_pos (.inr (by omega))]];exact h1
   ·rcases h2 with h2|h2
    ·rw[h2];simp
    ·simp[h2]
   ·rcases List.mem_cons.1 hy with rfl|hy
    ·exact h3
    ·exact h4 y hy
  ·obtain⟨x,h1,h2,h3,h4⟩:=ih n
   refine⟨x,?_,?_,h3,fun y hy=>?_⟩
   ·rw[minf_cons,show firstOf (a:Int) (n:Int)=(n:Int) by unfold firstOf;rw[if_neg (by omega)]];exact h1
   ·rcases h2 with h2|h2
    ·exact .inl h2
    ·exact .inr (by simp[h2])
   ·rcases List.mem_cons.1 hy with rfl|hy
    ·omega
    ·exact h4 y hy
theorem minf_spec (L:List Nat):(L=[]∧minf (-1) L = -1)∨∃ x∈L,minf (-1) L=(x:Int)∧∀ y∈L,x≤y:=by
 cases L with
 | nil=>exact .inl ⟨rfl,rfl⟩
 | cons a r=>
  right
  obtain⟨x,h1,h2,h3,h4⟩:=minf_nat r a
  refine⟨x,?_,?_,fun y hy=>?_⟩
  ·rcases h2 with h2|h2
   ·rw[h2];simp
   ·simp[h2]
  ·rw[minf_cons,show firstOf (a:Int) (-1)=(a:Int) by unfold firstOf;rw[if_pos (.inl (by omega))]];exact h1
  ·rcases List.mem_cons.1 hy with rfl|hy
   ·exact h3
   ·exact h4 y hy
theorem minf_same {L M:List Nat}(h:∀ x,x∈L↔x∈M):minf (-1) L=minf (-1) M:=by
 rcases minf_spec L with⟨rfl,e⟩|⟨x,hx,e,hl⟩
 ·rcases minf_spec M with⟨rfl,e2⟩|⟨y,hy,_,_⟩
  ·rfl
  ·exact absurd ((h y).2 hy) (by simp)
 ·rcases minf_spec M with⟨rfl,e2⟩|⟨y,hy,e2,hm⟩
  ·exact absurd ((h x).1 hx) (by simp)
  ·have h1:=hl y ((h y).2 hy)
   have h2:=hm x ((h x).1 hx)
   rw[e,e2];omega
def Asc (lo hi:Nat):List Nat→Prop
 | []=>lo≤hi
 | x::r=>lo≤x∧Asc (x+1) hi r
theorem Asc.le {lo hi:Nat}{L:List Nat}(h:Asc lo hi L):lo≤hi:=by
 induction L generalizing lo with
 | nil=>exact h
 | cons x r ih=>have:=ih h.2;have:=h.1;omega
theorem Asc.up {lo lo' hi:Nat}{L:List Nat}(h:Asc lo hi L) (hl:lo'≤lo):Asc lo' hi L:=by
 cases L with
 | nil=>exact Nat.le_trans hl h
 | cons x r=>exact⟨Nat.le_trans hl h.1,h.2⟩
theorem Asc.wide {lo hi hi':Nat}{L:List Nat}(h:Asc lo hi L) (hl:hi≤hi'):Asc lo hi' L:=by
 induction L generalizing lo with
 | nil=>exact Nat.le_trans h hl
 | cons x r ih=>exact⟨h.1,ih h.2⟩
theorem Asc.append {lo mid hi:Nat}{L M:List Nat}(h:Asc lo mid L) (k:Asc mid hi M):Asc lo hi (L++M):=by
 induction L generalizing lo with
 | nil=>exact k.up h
 | cons x r ih=>exact⟨h.1,ih h.2⟩
theorem Asc.ge {lo hi:Nat}{L:List Nat}(h:Asc lo hi L):∀ y∈L,lo≤y:=by
 induction L generalizing lo with
 | nil=>intro y hy;simp at hy
 | cons x r ih=>
  intro y hy
  rcases List.mem_cons.1 hy with rfl|hy
  ·exact h.1
  ·have:=ih h.2 y hy;have:=h.1;omega
theorem Asc.ite {lo hi p:Nat}{c:Prop} [Decidable c] (h:lo≤p) (h2:p+1≤hi):Asc lo hi (if c then [p] else []):=by
 split
 ·exact⟨h,h2⟩
 ·show lo≤hi;omega
theorem Asc.filter {lo hi:Nat}{l:List (Nat×Nat)}(p:Nat×Nat→Bool) (h:Asc lo hi (l.map Prod.snd)):Asc lo hi ((l.filter p).map Prod.snd):=by
 induction l generalizing lo with
 | nil=>exact h
 | cons x r ih=>
  rw[List.filter_cons]
  split
  ·exact⟨h.1,ih h.2⟩
  ·exact(ih h.2).up (by have:=h.1;omega)
def headf:List Nat→Int
 | []=>-1
 | x::_=>(x:Int)
theorem minf_asc {lo hi:Nat}{L:List Nat}(h:Asc lo hi L):minf (-1) L=headf L:=by
 cases L with
 | nil=>rfl
 | cons x r=>
  rcases minf_spec (x::r) with⟨e,_⟩|⟨y,hy,e,hl⟩
  ·cases e
  ·rw[e]
   have h1:=hl x (by simp)
   rcases List.mem_cons.1 hy with rfl|hy
   ·rfl
   ·have:=h.2.ge y hy
    exact absurd h1 (by omega)
def useF (env:Nat→Option PB) (us:List (Nat×Nat)):List Nat:=(us.filter (fun u=>(env u.1).isNone)).map Prod.snd
def dupF (seen:List Nat):List PF→List Nat
 | []=>[]
 | f::r=>(if f.letter∈seen then [f.place] else [])++dupF (seen++[f.letter]) r
def dupS (seen:List Nat):List (Nat×Nat)→List Nat
 | []=>[]
 | q::r=>(if q.1∈seen then [q.2] else [])++dupS (seen++[q.1]) r
def unkF (l:List (Nat×Nat)):Option (Nat×Nat)→List Nat
 | none=>[]
 | some (c,p)=>if c∈l.map Prod.fst then [] else [p]
def PB.dup:PB→List Nat
 | .recd fs=>dupF [] fs
 | .enum l o=>dupS [] l++unkF l o
 | .bytes _=>[]
def accWL (seen:List Nat):List PD→List Nat
 | []=>[]
 | d::r=>d.body.dup++(if d.letter∈seen then [d.place] else [])++accWL (seen++[d.letter]) r
theorem minf_if (c:Prop) [Decidable c] (p:Nat) (m:Int):minf m (if c then [p] else [])=if c then firstOf (p:Int) m else m:=by
 split <;> rfl
theorem wrF_minf (fs:List PF):∀ seen m,wrF seen fs m=minf m (dupF seen fs):=by
 induction fs with
 | nil=>intro seen m;rfl
 | cons f r ih=>intro seen m;rw[wrF,dupF,ih,minf_append,minf_if]
theorem wrS_minf (l:List (Nat×Nat)):∀ seen m,wrS seen l m=minf m (dupS seen l):=by
 induction l with
 | nil=>intro seen m;rfl
 | cons f r ih=>intro seen m;rw[wrS,dupS,ih,minf_append,minf_if]
theorem PB.wr_minf (b:PB) (m:Int):b.wr m=minf m b.dup:=by
 cases b with
 | recd fs=>exact wrF_minf fs [] m
 | bytes n=>rfl
 | enum l o=>
  show wrE l o m=minf m (dupS [] l++unkF l o)
  rw[minf_append,← wrS_minf]
  match o with
  | none=>rfl
  | some (c,p)=>
   simp only[wrE,unkF]
   split <;> rfl
theorem accW_minf (ds:List PD):∀ seen m,accW seen ds m=minf m (accWL seen ds):=by
 induction ds with
 | nil=>intro seen m;rfl
 | cons d r ih=>intro seen m;rw[accW,accWL,ih,minf_append,minf_append,minf_if,PB.wr_minf]
theorem wrU_minf (env:Nat→Option PB) (us:List (Nat×Nat)):∀ m,wrU env us m=minf m (useF env us):=by
 induction us with
 | nil=>intro m;rfl
 | cons u r ih=>
  intro m
  have h:=ih (if (env u.1).isNone=true then firstOf (u.2:Int) m else m)
  show wrU env r (if (env u.1).isNone=true then firstOf (u.2:Int) m else m)=_
  rw[h]
  unfold useF
  rw[List.filter_cons]
  split <;> rfl
def fldF (env:Nat→Option PB) (seen:List Nat):List PF→List Nat
 | []=>[]
 | f::r=>(if f.letter∈seen then [f.place] else [])++(useF env (usesOf f.ty)++fldF env (seen++[f.letter]) r)
def bodyF (env:Nat→Option PB):PB→List Nat
 | .recd fs=>fldF env [] fs
 | .enum l o=>dupS [] l++unkF l o
 | .bytes _=>[]
def defF (env:Nat→Option PB) (seen:List Nat):List PD→List Nat
 | []=>[]
 | d::r=>(if d.letter∈seen then [d.place] else [])++(bodyF env d.body++defF env (seen++[d.letter]) r)
def nameF (ds:List PD) (t:PT):List Nat:=defF (envOf ds) [] ds++useF (envOf ds) (usesOf t)
theorem useF_append (env:Nat→Option PB) (a b:List (Nat×Nat)):useF env (a++b)=useF env a++useF env b:=by simp[useF]
theorem fldF_mem (env:Nat→Option PB) (fs:List PF) (x:Nat):∀ seen,x∈fldF env seen fs↔x∈dupF seen fs∨x∈useF env (usesAll (fs.map PF.ty)):=by
 induction fs with
 | nil=>intro seen;simp[fldF,dupF,usesAll,useF]
 | cons f r ih=>
  intro seen
  rw[fldF,dupF,List.map_cons,usesAll,useF_append]
  simp only[List.mem_append,ih]
  constructor
  ·rintro(h|h|h|h) <;> simp[h]
  ·rintro((h|h)|h|h) <;> simp[h]
theorem bodyF_mem (env:Nat→Option PB) (b:PB) (x:Nat):x∈bodyF env b↔x∈b.dup∨x∈useF env b.us:=by
 cases b with
 | recd fs=>exact fldF_mem env fs x []
 | enum l o=>simp[bodyF,PB.dup,PB.us,useF]
 | bytes n=>simp[bodyF,PB.dup,PB.us,useF]
theorem defF_mem (env:Nat→Option PB) (ds:List PD) (x:Nat):∀ seen,x∈defF env seen ds↔x∈accWL seen ds∨x∈useF env (accU ds):=by
 induction ds with
 | nil=>intro seen;simp[defF,accWL,accU,useF]
 | cons d r ih=>
  intro seen
  rw[defF,accWL,accU,useF_append]
  simp only[List.mem_append,ih,bodyF_mem]
  constructor
  ·rintro(h|(h|h)|h|h) <;> simp[h]
  ·rintro(((h|h)|h)|h|h) <;> simp[h]
theorem names_minf (ds:List PD) (t:PT):wrU (envOf ds) (accU ds++usesOf t) (accW [] ds (-1))=minf (-1) (nameF ds t):=by
 rw[wrU_minf,accW_minf,← minf_append]
 refine minf_same (fun x=>?_)
 simp only[nameF,useF_append,List.mem_append,defF_mem,or_assoc]
mutual
def badT:PT→List Nat
 | .leaf _ _=>[]
 | .wrap _ _ t=>badT t
 | .alts _ ts=>badTs [] ts
def badTs (seen:List Nat):List PT→List Nat
 | []=>[]
 | t::r=>(if t.kind=40∨t.kind∈seen then [t.place] else [])++(badT t++badTs (seen++[t.kind]) r)
end
theorem mixOne_first (seen:List Nat) (t:PT) (m:Int):mixOne seen t m=if t.kind=40∨t.kind∈seen then firstOf (t.place:Int) m else m:=by
 unfold mixOne firstOf
 by_cases h:t.kind=40∨t.kind∈seen
 ·rw[if_pos h]
  by_cases h2:m<0∨(t.place:Int)<m
  ·rw[if_pos ⟨h,h2⟩,if_pos h2]
  ·rw[if_neg (fun q=>h2 q.2),if_neg h2]
 ·rw[if_neg (fun q=>h q.1),if_neg h]
mutual
theorem mix_minf:∀ (t:PT) (m:Int),mix t m=minf m (badT t)
 | .leaf c p,m=>by simp[mix,badT,minf]
 | .wrap c p t,m=>by rw[mix,badT];exact mix_minf t m
 | .alts p ts,m=>by rw[mix,badT];exact mixs_minf ts [] m
theorem mixs_minf:∀ (ts:List PT) (seen:List Nat) (m:Int),mixs seen ts m=minf m (badTs seen ts)
 | [],seen,m=>by simp[mixs,badTs,minf]
 | t::r,seen,m=>by
  rw[mixs,badTs,minf_append,minf_append,mixs_minf r,mixOne_first,mix_minf t m,minf_if]
  split
  ·rw[minf_first,minf_first,minf_first]
  ·rfl
end
def PB.fs:PB→List PF
 | .recd fs=>fs
 | _=>[]
def fieldsOf (ds:List PD):List PF:=ds.flatMap (fun d=>d.body.fs)
def unionF (ds:List PD) (t:PT):List Nat:=(fieldsOf ds).flatMap (fun f=>badT f.ty)++badT t
theorem mixF_minf (fs:List PF):∀ m,mixF fs m=minf m (fs.flatMap (fun f=>badT f.ty)):=by
 induction fs with
 | nil=>intro m;rfl
 | cons f r ih=>
  intro m
  rw[List.flatMap_cons,minf_append,← mix_minf]
  exact ih (mix f.ty m)
theorem accM_minf (ds:List PD):∀ m,accM ds m=minf m ((fieldsOf ds).flatMap (fun f=>badT f.ty)):=by
 induction ds with
 | nil=>intro m;rfl
 | cons d r ih=>
  intro m
  have h:=ih (d.body.mx m)
  show accM r (d.body.mx m)=_
  rw[h]
  unfold fieldsOf
  rw[List.flatMap_cons,List.flatMap_append,minf_append]
  congr 1
  cases d.body with
  | recd fs=>exact mixF_minf fs m
  | enum l o=>rfl
  | bytes n=>rfl
theorem unions_minf (ds:List PD) (t:PT):mix t (accM ds (-1))=minf (-1) (unionF ds t):=by
 rw[mix_minf,accM_minf,unionF,minf_append]
open Go.RowKit
theorem p_asc (s:ByteArray) (f:Nat) :
 (∀ i t j,pTyp s f i=.ok (t,j)→Asc i j ((usesOf t).map Prod.snd)∧Asc (i+1) j (badT t)∧t.place=i)∧
 (∀ i ts j,pAlts s f i=.ok (ts,j)→Asc i j ((usesAll ts).map Prod.snd)∧∀ seen,Asc i j (badTs seen ts)):=by
 induction f with
 | zero=>exact⟨fun i t j h=>by simp[pTyp] at h,fun i t j h=>by simp[pAlts] at h⟩
 | succ f ih=>
  obtain⟨ihT,ihA⟩:=ih
  refine⟨fun i t j h=>?_,fun i t j h=>?_⟩
  ·rw[pTyp_succ] at h
   unfold stepT at h
   split at h
   ·simp only[Except.ok.injEq,Prod.mk.injEq] at h
    obtain⟨rfl,rfl⟩:=h
    rename_i hb
    simp[usesOf,hb,badT,Asc,PT.place]
   ·split at h
    ·cases hp:pTyp s f (i+1) with
     | error k=>rw[hp] at h;simp at h
     | ok r=>
      obtain⟨t',j'⟩:=r
      rw[hp] at h
      simp only at h
      split at h
      ·simp only[Except.ok.injEq,Prod.mk.injEq] at h
       obtain⟨rfl,rfl⟩:=h
       obtain⟨h1,h2,_⟩:=ihT _ _ _ hp
       exact⟨by rw[usesOf];exact(h1.up (by omega)).wide (by omega),by rw[badT];exact(h2.up (by omega)).wide (by omega),rfl⟩
      ·simp at h
    ·split at h
     ·cases hp:pAlts s f (i+1) with
      | error k=>rw[hp] at h;simp at h
      | ok r=>
       obtain⟨t',j'⟩:=r
       rw[hp] at h
       simp only at h
       split at h
       ·simp only[Except.ok.injEq,Prod.mk.injEq] at h
        obtain⟨rfl,rfl⟩:=h
        obtain⟨h1,h2⟩:=ihA _ _ _ hp
        exact⟨by rw[usesOf];exact(h1.up (by omega)).wide (by omega),by rw[badT];exact(h2 []).wide (by omega),rfl⟩
       ·simp at h
     ·split at h
      ·simp only[Except.ok.injEq,Prod.mk.injEq] at h
       obtain⟨rfl,rfl⟩:=h
       rename_i hb _ _ _
       simp[usesOf,hb,badT,Asc,PT.place]
      ·simp at h
  ·rw[pAlts_succ] at h
   unfold stepA at h
   cases hp:pTyp s f i with
   | error k=>rw[hp] at h;simp at h
   | ok r=>
    obtain⟨t',j'⟩:=r
    rw[hp] at h
    obtain⟨h1,h2,h3⟩:=ihT _ _ _ hp
    have hlt:∀ seen:List Nat,Asc i j' ((if t'.kind=40∨t'.kind∈seen then [t'.place] else [])++badT t'):=fun seen=>by
     rw[h3]
     exact Asc.append (Asc.ite (Nat.le_refl i) (Nat.le_refl (i+1))) h2
    simp only at h
    split at h
    ·cases hq:pAlts s f (j'+1) with
     | error k=>rw[hq] at h;simp at h
     | ok r=>
      obtain⟨ts,k⟩:=r
      rw[hq] at h
      simp only[Except.ok.injEq,Prod.mk.injEq] at h
      obtain⟨rfl,rfl⟩:=h
      obtain⟨g1,g2⟩:=ihA _ _ _ hq
      refine⟨?_,fun seen=>?_⟩
      ·rw[usesAll,List.map_append]
       exact h1.append (g1.up (by omega))
      ·rw[badTs,← List.append_assoc]
       exact(hlt seen).append ((g2 _).up (by omega))
    ·simp only[Except.ok.injEq,Prod.mk.injEq] at h
     obtain⟨rfl,rfl⟩:=h
     refine⟨?_,fun seen=>?_⟩
     ·rw[usesAll,usesAll,List.append_nil];exact h1
     ·rw[badTs,badTs,List.append_nil];exact hlt seen
theorem pT_asc {s:ByteArray}{i:Nat}{t:PT}{j:Nat}(h:pT s i=.ok (t,j)):Asc i j ((usesOf t).map Prod.snd)∧Asc (i+1) j (badT t):=⟨((p_asc s _).1 i t j h).1,((p_asc s _).1 i t j h).2.1⟩
def dfB (s:ByteArray) (env:Nat→Option PB) (f:PF):List Nat:=
 match f.dflt with|none=>[]|some (a,b)=>if (readT env true f.ty (s.extract a b)).isSome=true then [] else [a]
theorem pField_asc {s:ByteArray}{i:Nat}{f:PF}{j:Nat}(h:pField s i=.ok (f,j)):f.place=i∧f.letter=bt s i∧isSmall (bt s i)=true∧
 Asc (i+1) j ((usesOf f.ty).map Prod.snd)∧Asc (i+1) j (badT f.ty)∧∀ env,Asc (i+1) (j+1) (dfB s env f):=by
 unfold pField at h
 split at h
 ·rename_i hsm
  split at h
  ·split at h
   ·cases h
   ·rename_i t k hp
    obtain⟨h1,h2⟩:=pT_asc hp
    split at h
    ·split at h
     ·cases h
     ·rename_i e hd
      have hb:=pD_bounds hd
      simp only[Except.ok.injEq,Prod.mk.injEq] at h
      obtain⟨rfl,rfl⟩:=h
      have hk:=h1.le
      refine⟨rfl,rfl,hsm,(h1.up (by omega)).wide (by omega),(h2.up (by omega)).wide (by omega),fun env=>?_⟩
      simp only[dfB]
      split
      ·show i+1≤e+1;omega
      ·exact⟨by omega,by show k+1+1≤e+1;omega⟩
    ·simp only[Except.ok.injEq,Prod.mk.injEq] at h
     obtain⟨rfl,rfl⟩:=h
     have hk:=h1.le
     exact⟨rfl,rfl,hsm,h1.up (by omega),h2.up (by omega),fun env=>by show i+1≤k+1;omega⟩
  ·cases h
 ·cases h
def AscF (s:ByteArray) (lo hi:Nat) (l:List PF):Prop:=
 (∀ env seen,Asc lo hi (fldF env seen l))∧Asc lo hi (l.flatMap (fun f=>badT f.ty))∧(∀ env,Asc lo hi (l.flatMap (dfB s env)))∧∀ f∈l,isSmall f.letter=true
theorem AscF.one {s:ByteArray}{i:Nat}{f:PF}{j:Nat}(h:pField s i=.ok (f,j)):AscF s i (j+1) [f]:=by
 obtain⟨h1,h0,hsm,h2,h3,h4⟩:=pField_asc h
 have hj:=h2.le
 refine⟨fun env seen=>?_,?_,fun env=>?_,fun g hg=>?_⟩
 ·rw[fldF,fldF,List.append_nil,h1]
  exact(Asc.ite (Nat.le_refl i) (Nat.le_refl (i+1))).append ((Asc.filter _ h2).wide (by omega))
 ·rw[List.flatMap_cons,List.flatMap_nil,List.append_nil]
  exact(h3.up (by omega)).wide (by omega)
 ·rw[List.flatMap_cons,List.flatMap_nil,List.append_nil]
  exact(h4 env).up (by omega)
 ·rw[List.mem_singleton] at hg;subst hg;rw[h0];exact hsm
theorem AscF.cons {s:ByteArray}{i m j:Nat}{f:PF}{l:List PF}(h:AscF s i m [f]) (k:AscF s m j l):AscF s i j (f::l):=by
 refine⟨fun env seen=>?_,?_,fun env=>?_,fun g hg=>?_⟩
 ·have h1:=h.1 env seen
  rw[fldF,fldF,List.append_nil] at h1
  rw[fldF,← List.append_assoc]
  exact h1.append (k.1 env _)
 ·have h1:=h.2.1
  rw[List.flatMap_cons,List.flatMap_nil,List.append_nil] at h1
  rw[List.flatMap_cons]
  exact h1.append k.2.1
 ·have h1:=h.2.2.1 env
  rw[List.flatMap_cons,List.flatMap_nil,List.append_nil] at h1
  rw[List.flatMap_cons]
  exact h1.append (k.2.2.1 env)
 ·rcases List.mem_cons.1 hg with rfl|hg
  ·exact h.2.2.2 g (by simp)
  ·exact k.2.2.2 g hg
theorem pFieldsN_asc (s:ByteArray):∀ (n i:Nat) (l:List PF) (j:Nat),pFieldsN s n i=.ok (l,j)→AscF s i j l:=by
 intro n
 induction n with
 | zero=>intro i l j h;cases h
 | succ n ih=>
  intro i l j h
  unfold pFieldsN at h
  split at h
  ·cases h
  ·rename_i f k hf
   have h1:=AscF.one hf
   split at h
   ·simp only[Except.ok.injEq,Prod.mk.injEq] at h
    obtain⟨rfl,rfl⟩:=h
    exact h1
   ·split at h
    ·split at h
     ·cases h
     ·rename_i fs k2 hr
      simp only[Except.ok.injEq,Prod.mk.injEq] at h
      obtain⟨rfl,rfl⟩:=h
      exact h1.cons (ih _ _ _ hr)
    ·cases h
theorem pRecord_asc {s:ByteArray}{i:Nat}{l:List PF}{j:Nat}(h:pRecord s i=.ok (l,j)):AscF s i j l:=by
 unfold pRecord at h
 split at h
 ·split at h
  ·simp only[Except.ok.injEq,Prod.mk.injEq] at h
   obtain⟨rfl,rfl⟩:=h
   exact⟨fun env seen=>by show i≤i+2;omega,by show i≤i+2;omega,fun env=>by show i≤i+2;omega,fun g hg=>by simp at hg⟩
  ·have h1:=pFieldsN_asc s _ _ _ _ h
   exact⟨fun env seen=>(h1.1 env seen).up (by omega),h1.2.1.up (by omega),fun env=>(h1.2.2.1 env).up (by omega),h1.2.2.2⟩
 ·cases h
theorem pSymsN_asc (s:ByteArray):∀ (n i:Nat) (l:List (Nat×Nat)) (j:Nat),pSymsN s n i=.ok (l,j)→(∀ seen,Asc i j (dupS seen l))∧(∀ q∈l,isSmall q.1=true)∧l.length+i≤j:=by
 intro n
 induction n with
 | zero=>intro i l j h;cases h
 | succ n ih=>
  intro i l j h
  unfold pSymsN at h
  split at h
  ·rename_i hsm
   split at h
   ·split at h
    ·cases h
    ·rename_i r k hr
     simp only[Except.ok.injEq,Prod.mk.injEq] at h
     obtain⟨rfl,rfl⟩:=h
     obtain⟨h1,h2,h3⟩:=ih _ _ _ hr
     refine⟨fun seen=>?_,fun q hq=>?_,by simp;omega⟩
     ·rw[dupS]
      exact(Asc.ite (Nat.le_refl i) (by omega)).append (h1 _)
     ·rcases List.mem_cons.1 hq with rfl|hq
      ·exact hsm
      ·exact h2 q hq
   ·simp only[Except.ok.injEq,Prod.mk.injEq] at h
    obtain⟨rfl,rfl⟩:=h
    refine⟨fun seen=>?_,fun q hq=>?_,by simp;omega⟩
    ·rw[dupS,dupS,List.append_nil]
     exact Asc.ite (Nat.le_refl i) (Nat.le_refl _)
    ·rw[List.mem_singleton] at hq;subst hq;exact hsm
  ·cases h
theorem pEnum_asc {s:ByteArray}{i:Nat}{l:List (Nat×Nat)}{o:Option (Nat×Nat)}{j:Nat}(h:pEnum s i=.ok ((l,o),j)):Asc i j (dupS [] l++unkF l o)∧(∀ q∈l,isSmall q.1=true)∧(∀ c p,o=some (c,p)→isSmall c=true)∧l.length+i≤j:=by
 unfold pEnum at h
 split at h
 ·split at h
  ·cases h
  ·rename_i r k hr
   obtain⟨h1,h2,h3⟩:=pSymsN_asc s _ _ _ _ hr
   have h0:=(h1 []).le
   split at h
   ·split at h
    ·rename_i hsm
     split at h
     ·simp only[Except.ok.injEq,Prod.mk.injEq] at h
      obtain⟨⟨rfl,rfl⟩,rfl⟩:=h
      refine⟨((h1 []).up (by omega)).append ?_,h2,fun c p e=>?_,by omega⟩
      ·simp only[unkF]
       split
       ·show k≤k+3;omega
       ·exact⟨by omega,by show k+1+1≤k+3;omega⟩
      ·simp only[Option.some.injEq,Prod.mk.injEq] at e
       rw[← e.1];exact hsm
     ·cases h
    ·cases h
   ·split at h
    ·simp only[Except.ok.injEq,Prod.mk.injEq] at h
     obtain⟨⟨rfl,rfl⟩,rfl⟩:=h
     exact⟨((h1 []).up (by omega)).append (by show k≤k+1;omega),h2,fun c p e=>(nomatch e),by omega⟩
    ·cases h
 ·cases h
def smB:PB→Prop
 | .recd fs=>∀ f∈fs,isSmall f.letter=true
 | .enum l o=>(∀ q∈l,isSmall q.1=true)∧∀ c p,o=some (c,p)→isSmall c=true
 | .bytes _=>True
theorem pDefn_asc {s:ByteArray}{i:Nat}{b:PB}{j:Nat}(h:pDefn s i=.ok (b,j)) :
 (∀ env,Asc i j (bodyF env b))∧Asc i j (b.fs.flatMap (fun f=>badT f.ty))∧(∀ env,Asc i j (b.fs.flatMap (dfB s env)))∧smB b:=by
 unfold pDefn at h
 split at h
 ·split at h
  ·cases h
  ·rename_i ds k hr
   simp only[Except.ok.injEq,Prod.mk.injEq] at h
   obtain⟨rfl,rfl⟩:=h
   obtain⟨h1,h2,h3,h4⟩:=pRecord_asc hr
   exact⟨fun env=>(h1 env []).up (by omega),h2.up (by omega),fun env=>(h3 env).up (by omega),h4⟩
 ·split at h
  ·split at h
   ·cases h
   ·rename_i l o k hr
    simp only[Except.ok.injEq,Prod.mk.injEq] at h
    obtain⟨rfl,rfl⟩:=h
    obtain⟨h1,h2,h3,_⟩:=pEnum_asc hr
    have:=h1.le
    exact⟨fun env=>h1.up (by omega),by show i≤k;omega,fun env=>by show i≤k;omega,h2,h3⟩
  ·split at h
   ·split at h
    ·simp only[Except.ok.injEq,Prod.mk.injEq] at h
     obtain⟨rfl,rfl⟩:=h
     exact⟨fun env=>by show i≤i+2;omega,by show i≤i+2;omega,fun env=>by show i≤i+2;omega,trivial⟩
    ·cases h
   ·cases h
theorem fieldsOf_cons (d:PD) (r:List PD):fieldsOf (d::r)=d.body.fs++fieldsOf r:=by simp[fieldsOf]
theorem pDefsN_asc (s:ByteArray):∀ (n i:Nat) (ds:List PD) (j:Nat),pDefsN s n i=.ok (ds,j)→
 (∀ env seen,Asc i j (defF env seen ds))∧Asc i j ((fieldsOf ds).flatMap (fun f=>badT f.ty))∧(∀ env,Asc i j ((fieldsOf ds).flatMap (dfB s env)))∧(∀ d∈ds,isName d.letter=true∧smB d.body)∧ds.length≤n:=by
 intro n
 induction n with
 | zero=>
  intro i ds j h
  simp only[pDefsN,Except.ok.injEq,Prod.mk.injEq] at h
  obtain⟨rfl,rfl⟩:=h
  exact⟨fun _ _=>Nat.le_refl _,Nat.le_refl _,fun _=>Nat.le_refl _,fun d hd=>by simp at hd,Nat.le_refl _⟩
 | succ n ih=>
  intro i ds j h
  unfold pDefsN at h
  split at h
  ·rename_i hn
   split at h
   ·split at h
    ·cases h
    ·rename_i b k hb
     obtain⟨b1,b2,b3,b4⟩:=pDefn_asc hb
     split at h
     ·split at h
      ·cases h
      ·rename_i r e hr
       simp only[Except.ok.injEq,Prod.mk.injEq] at h
       obtain⟨rfl,rfl⟩:=h
       obtain⟨r1,r2,r3,r4,r5⟩:=ih _ _ _ hr
       have hk:=b2.le
       refine⟨fun env seen=>?_,?_,fun env=>?_,fun d hd=>?_,by simp;omega⟩
       ·rw[defF]
        exact(Asc.ite (Nat.le_refl i) (show i+1≤i+2 by omega)).append ((b1 env).append ((r1 env _).up (by omega)))
       ·rw[fieldsOf_cons,List.flatMap_append]
        exact(b2.up (by omega)).append (r2.up (by omega))
       ·rw[fieldsOf_cons,List.flatMap_append]
        exact((b3 env).up (by omega)).append ((r3 env).up (by omega))
       ·rcases List.mem_cons.1 hd with rfl|hd
        ·exact⟨hn.1,b4⟩
        ·exact r4 d hd
     ·cases h
   ·cases h
  ·simp only[Except.ok.injEq,Prod.mk.injEq] at h
   obtain⟨rfl,rfl⟩:=h
   exact⟨fun _ _=>Nat.le_refl _,Nat.le_refl _,fun _=>Nat.le_refl _,fun d hd=>by simp at hd,by simp⟩
def dfltF (s:ByteArray) (ds:List PD):List Nat:=(fieldsOf ds).flatMap (dfB s (envOf ds))
theorem pSchema_asc {s:ByteArray}{ds:List PD}{t:PT}(h:pSchema s=.ok (ds,t)) :
 wrU (envOf ds) (accU ds++usesOf t) (accW [] ds (-1))=headf (nameF ds t)∧mix t (accM ds (-1))=headf (unionF ds t)∧minf (-1) (dfltF s ds)=headf (dfltF s ds)∧(∀ d∈ds,isName d.letter=true∧smB d.body)∧ds.length≤6:=by
 unfold pSchema at h
 split at h
 ·cases h
 ·rename_i ds' i hd
  split at h
  ·cases h
  ·rename_i t' j ht
   split at h
   ·cases h
   ·simp only[Except.ok.injEq,Prod.mk.injEq] at h
    obtain⟨rfl,rfl⟩:=h
    obtain⟨r1,r2,r3,r4,r5⟩:=pDefsN_asc s _ _ _ _ hd
    obtain⟨t1,t2⟩:=pT_asc ht
    exact⟨by rw[names_minf];exact minf_asc ((r1 _ _).append (Asc.filter _ t1)),by rw[unions_minf];exact minf_asc (r2.append (t2.up (by omega))),minf_asc (r3 _),r4,r5⟩
theorem dflF_minf (s:ByteArray) (env:Nat→Option PB) (fs:List PF):∀ m,dflF s env fs m=minf m (fs.flatMap (dfB s env)):=by
 induction fs with
 | nil=>intro m;rfl
 | cons f r ih=>
  intro m
  rw[List.flatMap_cons,minf_append]
  show dflF s env r _=_
  rw[ih]
  congr 1
  show(match f.dflt with|none=>m|some (a,b)=>if (readT env true f.ty (s.extract a b)).isSome=true then m else firstOf (a:Int) m)=minf m (match f.dflt with|none=>[]|some (a,b)=>if (readT env true f.ty (s.extract a b)).isSome=true then [] else [a])
  cases f.dflt with
  | none=>rfl
  | some q=>
   obtain⟨a,b⟩:=q
   show(if (readT env true f.ty (s.extract a b)).isSome=true then m else firstOf (a:Int) m)=minf m (if (readT env true f.ty (s.extract a b)).isSome=true then [] else [a])
   split <;> rfl
theorem dflUpto_minf (s:ByteArray) (env:Nat→Option PB) (k:Nat):dflUpto s env k=minf (-1) ((List.range k).flatMap (fun q=>(fsOf env q).flatMap (dfB s env))):=by
 induction k with
 | zero=>rfl
 | succ k ih=>rw[dflUpto,dflF_minf,ih,List.range_succ,List.flatMap_append,minf_append];simp
theorem accW_dup {ds:List PD}:∀ {seen:List Nat},accWL seen ds=[]→(∀ d∈ds,d.letter∉seen)∧(ds.map PD.letter).Nodup:=by
 induction ds with
 | nil=>intro seen _;exact⟨fun d hd=>by simp at hd,by simp⟩
 | cons d r ih=>
  intro seen h
  rw[accWL] at h
  simp only[List.append_eq_nil_iff] at h
  obtain⟨⟨_,h2⟩,h3⟩:=h
  obtain⟨g1,g2⟩:=ih h3
  have hd:d.letter∉seen:=fun hm=>by rw[if_pos hm] at h2;simp at h2
  refine⟨fun x hx=>?_,?_⟩
  ·rcases List.mem_cons.1 hx with rfl|hx
   ·exact hd
   ·exact fun hm=>g1 x hx (by simp[hm])
  ·rw[List.map_cons,List.nodup_cons]
   refine⟨fun hm=>?_,g2⟩
   obtain⟨x,hx,e⟩:=List.mem_map.1 hm
   exact g1 x hx (by rw[e];simp)
theorem look_nodup {ds:List PD}:∀ {b:Nat},(ds.map PD.letter).Nodup→∀ d∈ds,(look b d.letter ds).map Prod.fst=some d.body:=by
 induction ds with
 | nil=>intro b _ d hd;simp at hd
 | cons x r ih=>
  intro b h d hd
  rw[List.map_cons,List.nodup_cons] at h
  rcases List.mem_cons.1 hd with rfl|hd
  ·simp[look]
  ·have hne:x.letter≠d.letter:=fun e=>h.1 (e▸List.mem_map_of_mem hd)
   rw[look,if_neg hne]
   exact ih h.2 d hd
theorem dflt_minf {s:ByteArray}{ds:List PD}(hn:∀ d∈ds,isName d.letter=true) (hd:(ds.map PD.letter).Nodup):dflUpto s (envOf ds) 6=minf (-1) (dfltF s ds):=by
 rw[dflUpto_minf]
 refine minf_same (fun x=>?_)
 unfold dfltF fieldsOf
 simp only[List.mem_flatMap,List.mem_range]
 constructor
 ·rintro⟨k,hk,f,hf,hx⟩
  unfold fsOf at hf
  split at hf
  ·rename_i fs he
   unfold envOf at he
   cases hl:look 0 (65+k) ds with
   | none=>rw[hl] at he;cases he
   | some q=>
    obtain⟨pb,b'⟩:=q
    obtain⟨d,hd',hb⟩:=look_mem hl
    rw[hl] at he
    simp only[Option.map_some,Option.some.injEq] at he
    exact⟨f,⟨d,hd',by rw[hb,he];exact hf⟩,hx⟩
  ·simp at hf
 ·rintro⟨f,⟨d,hd',hf⟩,hx⟩
  have h1:=hn d hd'
  have h2:65≤d.letter∧d.letter≤70:=by simpa[isName] using h1
  have h3:=look_nodup (b:=0) hd d hd'
  refine⟨d.letter-65,by omega,f,?_,hx⟩
  unfold fsOf
  rw[show 65+(d.letter-65)=d.letter by omega]
  unfold envOf
  rw[h3]
  cases hb:d.body with
  | recd fs=>rw[hb] at hf;exact hf
  | enum l o=>rw[hb] at hf;exact absurd hf (by simp[PB.fs])
  | bytes n=>rw[hb] at hf;exact absurd hf (by simp[PB.fs])
theorem parseAns_first {s:ByteArray}{ds:List PD}{t:PT}(hs:s.size≤300) (h:pSchema s=.ok (ds,t)):parseAns s =
 match nameF ds t,unionF ds t,dfltF s ds with
 | x::_,_,_=>(3,(x:Int))
 | [],x::_,_=>(4,(x:Int))
 | [],[],x::_=>(5,(x:Int))
 | [],[],[]=>(0,0):=by
 obtain⟨h1,h2,h3,h4,h5⟩:=pSchema_asc h
 unfold parseAns
 rw[if_neg (by omega),h]
 simp only
 rw[h1,h2]
 cases hN:nameF ds t with
 | cons x r=>simp[headf]
 | nil=>
  have hdup:accWL [] ds=[]:=by
   rw[List.eq_nil_iff_forall_not_mem]
   intro x hx
   have:x∈nameF ds t:=by
    unfold nameF
    rw[List.mem_append,defF_mem]
    exact .inl (.inl hx)
   rw[hN] at this
   simp at this
  rw[dflt_minf (fun d hd=>(h4 d hd).1) (accW_dup hdup).2,h3]
  cases hU:unionF ds t with
  | cons x r=>simp[headf]
  | nil=>
   cases hD:dfltF s ds with
   | cons x r=>simp[headf]
   | nil=>simp[headf]
end Go.Proofs.YtiifagiebikmdaaGreatDoor
