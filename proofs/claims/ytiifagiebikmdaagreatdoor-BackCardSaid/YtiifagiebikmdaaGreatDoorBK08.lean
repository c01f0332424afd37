import Derived.Test.YtiifagiebikmdaaGreatDoorBK07
import Derived.Test.YtiifagiebikmdaaGreatDoorBK03
namespace Go.Proofs.YtiifagiebikmdaaGreatDoor
open Go.RowKit
def fsOf (env:Nat→Option PB) (k:Nat):List PF:=match env (65+k) with|some (.recd fs)=>fs|_=>[]
def FKind:Nat→Value→Prop
 | 5,v=>∃ a,v=.int .u8 a
 | 6,v=>∃ a,v=.int .i64 a
 | 7,v=>∃ a,v=.string a
 | 8,v=>∃ a m c,v=.slice a m c
 | 9,v=>∃ a m c,v=.slice a m c
 | _,_=>False
def dfTx (s:ByteArray) (f:PF):ByteArray:=match f.dflt with|none=>⟨#[]⟩|some (a,b)=>s.extract a b
def dfAt (f:PF):Nat:=(f.dflt.map Prod.fst).getD 0
def FRow (s:ByteArray) (ts:List TR) (fs:List PF) (xs:List Value):Prop:=
 ∀ q f,fs[q]?=some f→(∃ num:Nat,isT ts num f.ty∧xs[10*q+1]?=some (.int .i64 (num:Int)))∧xs[10*q]?=some (.int .u8 (f.letter:Int))∧xs[10*q+2]?=some (.bool f.dflt.isSome)∧xs[10*q+3]?=some (.int .i64 (dfAt f:Int))∧xs[10*q+4]?=some (.string (dfTx s f))∧
  ∀ p,5≤p→p<10→∃ v,xs[10*q+p]?=some v∧FKind p v
def DTells (pb:Option PB) (so:Int) (sb:ByteArray) (n:Int):Prop:=
 match pb with
 | none=>True
 | some (.recd _)=>so=114
 | some (.enum l _)=>so=101∧sb.data.toList.map UInt8.toNat=l.map Prod.fst
 | some (.bytes k)=>so=102∧n=(k:Int)
structure SZ (W:World) (P1 P2:Nat→Prop) (bz:Nat) (s:ByteArray) (ts:List TR) (env:Nat→Option PB) (rt:Value):Prop where
 dis:∀ g,P2 g→¬ P1 g
 zP:P1 bz
 z:∃ tv zs,Blk W bz (tv::zs) 47∧zs[30]?=some rt∧TyRow W P1 tv ts∧
  ∀ k,k<6→∃ (so:Int) (fv:Value) (sb:ByteArray) (o n:Int) (xs:List Value),(∀ p,p<5→zs[5*k+p]?=[Value.int .u8 so,fv,Value.string sb,Value.int .i64 o,Value.int .i64 n][p]?)∧
   W.ownsRow 0 80 10 fv (fsOf env k).length xs∧(∀ g,fv.ownBlock=some g→P2 g)∧FRow s ts (fsOf env k) xs∧DTells (env (65+k)) so sb n
section
variable {W W':World} {P1 P2:Nat→Prop} {bz:Nat} {s:ByteArray} {ts:List TR} {env:Nat→Option PB} {rt:Value}
theorem SZ.fr {S:Nat→Prop}(h:SZ W P1 P2 bz s ts env rt) (hf:Fr W W' S) (h1:∀ g,P1 g→¬ S g) (h2:∀ g,P2 g→¬ S g):SZ W' P1 P2 bz s ts env rt:=by
 refine⟨h.dis,h.zP,?_⟩
 obtain⟨tv,zs,a,a2,b,c⟩:=h.z
 refine⟨tv,zs,hf.blk a (h1 _ h.zP),a2,b.fr hf h1,fun k hk=>?_⟩
 obtain⟨so,fv,sb,o,n,xs,c1,c2,c3,c4,c5⟩:=c k hk
 exact⟨so,fv,sb,o,n,xs,c1,ownsRow_fr c2 hf (fun g e=>h2 g (c3 g e)),c3,c4,c5⟩
theorem TyRow.mono {P Q:Nat→Prop}{tv:Value}(h:TyRow W P tv ts) (hQ:∀ g,P g→Q g):TyRow W Q tv ts:=by
 obtain⟨xs,a,b,c⟩:=h
 refine⟨xs,a,fun g e=>hQ g (b g e),fun k t ht=>?_⟩
 obtain⟨sv,c1,c2,c3,c4⟩:=c k t ht
 exact⟨sv,c1,c2,c3,fun g e=>hQ g (c4 g e)⟩
theorem FRow.set {fs:List PF}{xs ys:List Value}{q0 p0:Nat}{x:Value}(h:FRow s ts fs xs) (hp:5≤p0∧p0<10) (hx:FKind p0 x) (h1:∀ i,(i≠10*q0+p0→ys[i]?=xs[i]?)∧(i=10*q0+p0→ys[i]?=xs[i]?∨(i<xs.length∧ys[i]?=some x))):FRow s ts fs ys:=by
 intro q f hf
 obtain⟨⟨num,a1,a2⟩,a0,a3,a4,a5,a6⟩:=h q f hf
 refine⟨⟨num,a1,by rw[(h1 _).1 (by omega)];exact a2⟩,by rw[(h1 _).1 (by omega)];exact a0,by rw[(h1 _).1 (by omega)];exact a3,by rw[(h1 _).1 (by omega)];exact a4,by rw[(h1 _).1 (by omega)];exact a5,fun p hp1 hp2=>?_⟩
 obtain⟨v,b1,b2⟩:=a6 p hp1 hp2
 by_cases he:10*q+p=10*q0+p0
 ·rcases(h1 _).2 he with e|⟨_,e⟩
  ·exact⟨v,by rw[e];exact b1,b2⟩
  ·have:p=p0:=by omega
   subst this
   exact⟨x,e,hx⟩
 ·exact⟨v,by rw[(h1 _).1 he];exact b1,b2⟩
end
def dflF (s:ByteArray) (env:Nat→Option PB) (fs:List PF) (m:Int):Int:=
 fs.foldl (fun m f=>match f.dflt with|none=>m|some (a,b)=>if (readT env true f.ty (s.extract a b)).isSome=true then m else firstOf (a:Int) m) m
def dflUpto (s:ByteArray) (env:Nat→Option PB):Nat→Int
 | 0=>-1
 | k+1=>dflF s env (fsOf env k) (dflUpto s env k)
open Go.RowKit
structure DefsM (w:World) (P1 P2:Nat→Prop) (bz:Nat) (s:ByteArray) (ts:List TR) (env:Nat→Option PB) (rt:Value) (W:World):Prop where
 Z:SZ W P1 P2 bz s ts env rt
 fr:Fr w W P2
 l1:∀ g,P1 g→g<w.heap.size
 l2:∀ g,P2 g→g<w.heap.size
section
variable {w W W':World} {P1 P2:Nat→Prop} {bz:Nat} {s:ByteArray} {ts:List TR} {env:Nat→Option PB} {rt:Value}
theorem DefsM.own (M:DefsM w P1 P2 bz s ts env rt W) (hf:Fr W W' (fun g=>w.heap.size≤g)):DefsM w P1 P2 bz s ts env rt W':=
 ⟨M.Z.fr hf (fun g hg=>by have:=M.l1 g hg;omega) (fun g hg=>by have:=M.l2 g hg;omega),M.fr.trans hf (fun x hx e=>absurd e (by omega)),M.l1,M.l2⟩
theorem DefsM.alloc (M:DefsM w P1 P2 bz s ts env rt W) (o:Obj):DefsM w P1 P2 bz s ts env rt (W.alloc o):=M.own ((Fr.refl W _).alloc o)
end
open Go.RowKit
def shB (N:Nat):PB→Prop
 | .recd fs=>(∀ f∈fs,shT f.ty)∧fs.length≤N
 | .enum l _=>(∀ c∈l.map Prod.fst,0<c)∧l.length≤N
 | .bytes n=>n≤9
theorem pField_shape {s:ByteArray}{i:Nat}{f:PF}{j:Nat}(h:pField s i=.ok (f,j)):shT f.ty:=by
 unfold pField at h
 split at h
 ·split at h
  ·split at h
   ·cases h
   ·rename_i t k hp
    have:=pT_shape hp
    split at h
    ·split at h
     ·cases h
     ·simp only[Except.ok.injEq,Prod.mk.injEq] at h
      obtain⟨rfl,_⟩:=h
      exact this
    ·simp only[Except.ok.injEq,Prod.mk.injEq] at h
     obtain⟨rfl,_⟩:=h
     exact this
  ·cases h
 ·cases h
theorem pFieldsN_shape (s:ByteArray):∀ (n i:Nat) (l:List PF) (j:Nat),i≤s.size→pFieldsN s n i=.ok (l,j)→(∀ f∈l,shT f.ty)∧i+l.length≤s.size:=by
 intro n
 induction n with
 | zero=>intro i l j _ h;cases h
 | succ n ih=>
  intro i l j hi h
  unfold pFieldsN at h
  split at h
  ·cases h
  ·rename_i f k hf
   have h1:=(pField_bounds hi).1 f k hf
   have h2:=pField_shape hf
   split at h
   ·simp only[Except.ok.injEq,Prod.mk.injEq] at h
    obtain⟨rfl,_⟩:=h
    exact⟨fun g hg=>by rw[List.mem_singleton] at hg;subst hg;exact h2,by simp;omega⟩
   ·split at h
    ·rename_i h44
     have:=bt_pos (s:=s) (i:=k) (by omega)
     split at h
     ·cases h
     ·rename_i fs e hr
      simp only[Except.ok.injEq,Prod.mk.injEq] at h
      obtain⟨rfl,_⟩:=h
      have h3:=ih _ _ _ (by omega) hr
      refine⟨fun g hg=>?_,by rw[List.length_cons];omega⟩
      rcases List.mem_cons.1 hg with rfl|hg
      ·exact h2
      ·exact h3.1 g hg
    ·cases h
theorem pSymsN_shape (s:ByteArray):∀ (n i:Nat) (l:List (Nat×Nat)) (j:Nat),pSymsN s n i=.ok (l,j)→(∀ c∈l.map Prod.fst,0<c)∧i+l.length≤s.size:=by
 intro n
 induction n with
 | zero=>intro i l j h;cases h
 | succ n ih=>
  intro i l j h
  unfold pSymsN at h
  split at h
  ·rename_i hs
   have h0:=isSmall_pos hs
   have h1:=bt_pos h0
   split at h
   ·split at h
    ·cases h
    ·rename_i fs e hr
     simp only[Except.ok.injEq,Prod.mk.injEq] at h
     obtain⟨rfl,_⟩:=h
     have h3:=ih _ _ _ hr
     refine⟨fun g hg=>?_,by rw[List.length_cons];omega⟩
     rw[List.map_cons] at hg
     rcases List.mem_cons.1 hg with rfl|hg
     ·exact h0
     ·exact h3.1 g hg
   ·simp only[Except.ok.injEq,Prod.mk.injEq] at h
    obtain⟨rfl,_⟩:=h
    exact⟨fun g hg=>by simp only[List.map_cons,List.map_nil,List.mem_singleton] at hg;subst hg;exact h0,by simp;omega⟩
  ·cases h
theorem pDefn_shape {s:ByteArray}{i:Nat}{pb:PB}{j:Nat}(h:pDefn s i=.ok (pb,j)):shB s.size pb:=by
 unfold pDefn at h
 split at h
 ·rename_i h114
  have:=bt_pos (s:=s) (i:=i) (by omega)
  split at h
  ·cases h
  ·rename_i fs k hp
   simp only[Except.ok.injEq,Prod.mk.injEq] at h
   obtain⟨rfl,_⟩:=h
   unfold pRecord at hp
   split at hp
   ·rename_i h40
    have:=bt_pos (s:=s) (i:=i+1) (by omega)
    split at hp
    ·simp only[Except.ok.injEq,Prod.mk.injEq] at hp
     obtain⟨rfl,_⟩:=hp
     exact⟨fun f hf=>by simp at hf,Nat.zero_le _⟩
    ·have:=pFieldsN_shape s _ _ _ _ (by omega) hp
     exact⟨this.1,by omega⟩
   ·cases hp
 ·split at h
  ·split at h
   ·cases h
   ·rename_i l o k hp
    simp only[Except.ok.injEq,Prod.mk.injEq] at h
    obtain⟨rfl,_⟩:=h
    unfold pEnum at hp
    split at hp
    ·split at hp
     ·cases hp
     ·rename_i l' k' hq
      have hsh:=pSymsN_shape s _ _ _ _ hq
      have fin:l=l'→shB s.size (.enum l o):=fun e=>by subst e;exact⟨hsh.1,by omega⟩
      split at hp
      ·split at hp
       ·split at hp
        ·simp only[Except.ok.injEq,Prod.mk.injEq] at hp;exact fin hp.1.1.symm
        ·cases hp
       ·cases hp
      ·split at hp
       ·simp only[Except.ok.injEq,Prod.mk.injEq] at hp;exact fin hp.1.1.symm
       ·cases hp
    ·cases hp
  ·split at h
   ·split at h
    ·rename_i hd
     simp only[Except.ok.injEq,Prod.mk.injEq] at h
     obtain⟨rfl,_⟩:=h
     simp only[shB];omega
    ·cases h
   ·cases h
theorem pDefsN_shape (s:ByteArray):∀ (n i:Nat) (ds:List PD) (e:Nat),pDefsN s n i=.ok (ds,e)→∀ d∈ds,shB s.size d.body:=by
 intro n
 induction n with
 | zero=>intro i ds e h d hd;simp only[pDefsN,Except.ok.injEq,Prod.mk.injEq] at h;rw[← h.1] at hd;simp at hd
 | succ n ih=>
  intro i ds e h
  unfold pDefsN at h
  split at h
  ·split at h
   ·split at h
    ·cases h
    ·rename_i pb j hp
     split at h
     ·split at h
      ·cases h
      ·rename_i ds' e' hr
       simp only[Except.ok.injEq,Prod.mk.injEq] at h
       obtain⟨rfl,_⟩:=h
       intro d hd
       rcases List.mem_cons.1 hd with rfl|hd
       ·exact pDefn_shape hp
       ·exact ih _ _ _ hr d hd
     ·cases h
   ·cases h
  ·simp only[Except.ok.injEq,Prod.mk.injEq] at h
   obtain⟨rfl,_⟩:=h
   intro d hd;simp at hd
theorem pSchema_shape {s:ByteArray}{ds:List PD}{t:PT}(h:pSchema s=.ok (ds,t)):(∀ d∈ds,shB s.size d.body)∧shT t:=by
 unfold pSchema at h
 split at h
 ·cases h
 ·rename_i ds' i hd
  split at h
  ·cases h
  ·rename_i t' j ht
   split at h
   ·cases h
   ·simp only[Except.ok.injEq,Prod.mk.injEq] at h
    obtain⟨rfl,rfl⟩:=h
    exact⟨pDefsN_shape s _ _ _ _ hd,pT_shape ht⟩
def envOf (ds:List PD) (c:Nat):Option PB:=(look 0 c ds).map Prod.fst
theorem look_mem {b c:Nat}{ds:List PD}{pb:PB}{b':Nat}(h:look b c ds=some (pb,b')):∃ d∈ds,d.body=pb:=by
 induction ds generalizing b with
 | nil=>cases h
 | cons x r ih=>
  simp only[look] at h
  split at h
  ·simp only[Option.some.injEq,Prod.mk.injEq] at h
   exact⟨x,by simp,h.1⟩
  ·obtain⟨d,hd,e⟩:=ih h
   exact⟨d,by simp[hd],e⟩
theorem firstOf_nat (a:Nat) (m:Int):0≤firstOf (a:Int) m:=by
 unfold firstOf;split <;> omega
def wrU (env:Nat→Option PB) (us:List (Nat×Nat)) (m:Int):Int:=us.foldl (fun m u=>if (env u.1).isNone=true then firstOf (u.2:Int) m else m) m
theorem wrU_neg {env:Nat→Option PB}{us:List (Nat×Nat)}{m:Int}(h:wrU env us m<0):m<0∧∀ u∈us,∃ pb,env u.1=some pb:=by
 induction us generalizing m with
 | nil=>exact⟨h,fun u hu=>by simp at hu⟩
 | cons u r ih=>
  simp only[wrU,List.foldl_cons] at h
  obtain⟨h1,h2⟩:=ih h
  split at h1
  ·have:=firstOf_nat u.2 m;omega
  ·rename_i hn
   refine⟨h1,fun v hv=>?_⟩
   rcases List.mem_cons.1 hv with rfl|hv
   ·cases he:env v.1 with
    | none=>rw[he] at hn;exact absurd rfl hn
    | some pb=>exact⟨pb,rfl⟩
   ·exact h2 v hv
theorem mixF_neg {env:Nat→Option PB}{fs:List PF}{m:Int}(hs:∀ f∈fs,shT f.ty) (hu:∀ u∈usesAll (fs.map PF.ty),∃ pb,env u.1=some pb) (h:mixF fs m<0):m<0∧∀ f∈fs,okT env f.ty:=by
 induction fs generalizing m with
 | nil=>exact⟨h,fun f hf=>by simp at hf⟩
 | cons f r ih=>
  simp only[mixF,List.foldl_cons] at h
  simp only[List.map_cons,usesAll] at hu
  obtain⟨h1,h2⟩:=ih (fun g hg=>hs g (by simp[hg])) (fun u h=>hu u (List.mem_append_right _ h)) h
  have h3:=okT_of env f.ty m (hs f (by simp)) h1 (fun u h=>hu u (List.mem_append_left _ h))
  refine⟨h3.1,fun g hg=>?_⟩
  rcases List.mem_cons.1 hg with rfl|hg
  ·exact h3.2
  ·exact h2 g hg
theorem accM_neg {env:Nat→Option PB}{N:Nat}{ds:List PD}{m:Int}(hs:∀ d∈ds,shB N d.body) (hu:∀ u∈accU ds,∃ pb,env u.1=some pb) (h:accM ds m<0):m<0∧∀ d∈ds,∀ fs,d.body=.recd fs→∀ f∈fs,okT env f.ty:=by
 induction ds generalizing m with
 | nil=>exact⟨h,fun f hf=>by simp at hf⟩
 | cons d r ih=>
  simp only[accM,List.foldl_cons] at h
  simp only[accU] at hu
  obtain⟨h1,h2⟩:=ih (fun g hg=>hs g (by simp[hg])) (fun u h=>hu u (List.mem_append_right _ h)) h
  have hsd:=hs d (by simp)
  cases hb:d.body with
  | recd fs=>
   rw[hb] at hsd h1 hu
   have h3:=mixF_neg hsd.1 (fun u h=>hu u (List.mem_append_left _ h)) h1
   refine⟨h3.1,fun g hg fs' hg'=>?_⟩
   rcases List.mem_cons.1 hg with rfl|hg
   ·rw[hb] at hg';cases hg';exact h3.2
   ·exact h2 g hg fs' hg'
  | enum l o=>
   rw[hb] at h1
   refine⟨h1,fun g hg fs' hg'=>?_⟩
   rcases List.mem_cons.1 hg with rfl|hg
   ·rw[hb] at hg';cases hg'
   ·exact h2 g hg fs' hg'
  | bytes n=>
   rw[hb] at h1
   refine⟨h1,fun g hg fs' hg'=>?_⟩
   rcases List.mem_cons.1 hg with rfl|hg
   ·rw[hb] at hg';cases hg'
   ·exact h2 g hg fs' hg'
theorem schema_ok {s:ByteArray}{ds:List PD}{t:PT}{m0 m1:Int}(hs:s.size≤300) (hp:pSchema s=.ok (ds,t)) (hw:wrU (envOf ds) (accU ds++usesOf t) m0<0) (hm:mix t (accM ds m1)<0) :
 okEnv (envOf ds)∧okT (envOf ds) t∧(∀ k,(fsOf (envOf ds) k).length≤300)∧∀ k f,f∈fsOf (envOf ds) k→okT (envOf ds) f.ty:=by
 obtain⟨h1,h2⟩:=pSchema_shape hp
 obtain⟨_,h3⟩:=wrU_neg hw
 have h4:=okT_of (envOf ds) t _ h2 hm (fun u hu=>h3 u (List.mem_append_right _ hu))
 have h5:=(accM_neg (env:=envOf ds) h1 (fun u hu=>h3 u (List.mem_append_left _ hu)) h4.1).2
 have body:∀ c pb,envOf ds c=some pb→shB s.size pb∧∀ fs,pb=.recd fs→∀ f∈fs,okT (envOf ds) f.ty:=fun c pb he=>by
  unfold envOf at he
  cases hl:look 0 c ds with
  | none=>rw[hl] at he;cases he
  | some q=>
   obtain⟨pb',b'⟩:=q
   rw[hl] at he
   simp only[Option.map_some,Option.some.injEq] at he
   subst he
   obtain⟨d,hd,rfl⟩:=look_mem hl
   exact⟨h1 d hd,fun fs e=>h5 d hd fs e⟩
 have flds:∀ k fs,fsOf (envOf ds) k=fs→fs≠[]→envOf ds (65+k)=some (.recd fs):=fun k fs e hne=>by
  unfold fsOf at e
  split at e
  ·rename_i fs' he;subst e;exact he
  ·exact absurd e.symm hne
 refine⟨fun c pb he=>?_,h4.2,fun k=>?_,fun k f hf=>?_⟩
 ·obtain⟨b1,b2⟩:=body c pb he
  cases pb with
  | recd fs=>exact b2 fs rfl
  | enum l o=>exact⟨b1.1,Nat.le_trans b1.2 hs⟩
  | bytes n=>exact b1
 ·by_cases hne:fsOf (envOf ds) k=[]
  ·rw[hne];exact Nat.zero_le _
  ·exact Nat.le_trans (body _ _ (flds k _ rfl hne)).1.2 hs
 ·have hne:fsOf (envOf ds) k≠[]:=fun e=>by rw[e] at hf;simp at hf
  exact(body _ _ (flds k _ rfl hne)).2 _ rfl f hf
open Go.RowKit
open Go.RowKit
def parseAns (s:ByteArray):Int×Int:=
 if 300<s.size then (1,0)
 else match pSchema s with
  | .error k=>(2,(k:Int))
  | .ok (ds,t)=>
   if 0≤wrU (envOf ds) (accU ds++usesOf t) (accW [] ds (-1)) then (3,wrU (envOf ds) (accU ds++usesOf t) (accW [] ds (-1)))
   else if 0≤mix t (accM ds (-1)) then (4,mix t (accM ds (-1)))
   else if 0≤dflUpto s (envOf ds) 6 then (5,dflUpto s (envOf ds) 6)
   else (0,0)
end Go.Proofs.YtiifagiebikmdaaGreatDoor
