import Derived.Test.YtiifagiebikmdaaGreatDoorBK02
import Derived.Deep.DeepCutAuto
import Derived.Test.YtiifagiebikmdaaGreatDoorBK00
namespace Go.Proofs.YtiifagiebikmdaaGreatDoor
open Go.RowKit
def LAt (w:World) (bl:Nat) (s:ByteArray) (bz:Nat) (pl:Bool) (i:Nat) (bad:Bool):Prop:=
 Blk w bl [.string s,.int .i64 (i:Int),.bool bad,.pointer (some ⟨bz,0,none⟩),.bool pl] 98
section
variable {w w':World} {bl:Nat} {s:ByteArray} {bz:Nat} {pl:Bool} {i:Nat} {bad:Bool}
theorem LAt.c0 (h:LAt w bl s bz pl i bad):w.cell? ⟨bl,0,none⟩=some (.string s):=by rw[Blk.cell h];rfl
theorem LAt.c1 (h:LAt w bl s bz pl i bad):w.cell? ⟨bl,1,none⟩=some (.int .i64 (i:Int)):=by rw[Blk.cell h];rfl
theorem LAt.c2 (h:LAt w bl s bz pl i bad):w.cell? ⟨bl,2,none⟩=some (.bool bad):=by rw[Blk.cell h];rfl
theorem LAt.c3 (h:LAt w bl s bz pl i bad):w.cell? ⟨bl,3,none⟩=some (.pointer (some ⟨bz,0,none⟩)):=by rw[Blk.cell h];rfl
theorem LAt.c4 (h:LAt w bl s bz pl i bad):w.cell? ⟨bl,4,none⟩=some (.bool pl):=by rw[Blk.cell h];rfl
theorem LAt.thaw (h:LAt w bl s bz pl i bad) (o:Nat):w.frozen? ⟨bl,o,none⟩=false:=Blk.thaw h o
theorem LAt.still (h:LAt w bl s bz pl i bad) (hw:Still w w'):LAt w' bl s bz pl i bad:=by obtain⟨n,rfl⟩:=hw;exact h
theorem LAt.inc (h:LAt w bl s bz pl i bad):LAt (w.setCell ⟨bl,1,none⟩ (.int .i64 ((i:Int)+1))) bl s bz pl (i+1) bad:=Blk.set h 1 _
end
def lk (s:ByteArray) (i:Nat) (bad:Bool):Nat:=if bad=true then 0 else bt s i
def LEat (w:World) (bl:Nat) (s:ByteArray) (bz:Nat) (pl:Bool) (i:Nat) (bad:Bool) (d:Nat) (w':World):Prop:=
 (if lk s i bad=d then LAt w' bl s bz pl (i+1) bad∧i<s.size else LAt w' bl s bz pl i true)∧Fr w w' (· = bl)
def runEnd (lo hi:Nat) (s:ByteArray) (i:Nat):Nat:=
 if h:i<s.size then (if lo≤bt s i∧bt s i≤hi then runEnd lo hi s (i+1) else i) else i
 termination_by s.size-i
theorem runEnd_on {lo hi:Nat}{s:ByteArray}{i:Nat}(h:i<s.size) (hb:lo≤bt s i∧bt s i≤hi):runEnd lo hi s i=runEnd lo hi s (i+1):=by
 conv=>lhs;unfold runEnd
 rw[dif_pos h,if_pos hb]
theorem runEnd_off {lo hi:Nat}{s:ByteArray}{i:Nat}(hb:¬ (lo≤bt s i∧bt s i≤hi)):runEnd lo hi s i=i:=by
 unfold runEnd
 simp[hb]
def LetPost (w:World) (bl:Nat) (s:ByteArray) (bz:Nat) (pl:Bool) (i:Nat) (bad:Bool) (e:Ending) (w':World):Prop:=
 ∃ k,k=(if bad=true then i else runEnd 97 122 s i)∧i≤k∧k≤s.size∧e=.returned (.string (s.extract i k))∧LAt w' bl s bz pl k bad∧Fr w w' (· = bl)
open Go.RowKit
def topOf (c:Nat) (neg:Bool):ByteArray:=
 if c=105 then (if neg=true then ⟨#[50,49,52,55,52,56,51,54,52,56]⟩ else ⟨#[50,49,52,55,52,56,51,54,52,55]⟩)
 else (if neg=true then ⟨#[57,50,50,51,51,55,50,48,51,54,56,53,52,55,55,53,56,48,56]⟩ else ⟨#[57,50,50,51,51,55,50,48,51,54,56,53,52,55,55,53,56,48,55]⟩)
open Go.RowKit
def sgn (s:ByteArray) (i:Nat):Nat:=if bt s i=45 then i+1 else i
def numOk (kd:Nat) (neg:Bool) (t:ByteArray):Prop:=
 0<t.size∧¬ (bt t 0=48∧(1<t.size∨neg=true))∧t.size≤(topOf kd neg).size∧(t.size=(topOf kd neg).size→(!Op.bytesLess t.toList (topOf kd neg).toList && !(t.toList==(topOf kd neg).toList))=false)
def numStep (neg:Bool) (x:Int) (d:Nat):Int:=if neg=true then wrap64 (wrap64 (10*x)-wrap64 (wrap64 (d:Int)-48)) else wrap64 (wrap64 (10*x)+wrap64 (wrap64 (d:Int)-48))
def numV (neg:Bool) (t:ByteArray):Nat→Int
 | 0=>0
 | a+1=>numStep neg (numV neg t a) (bt t a)
def NumPost (w:World) (bl:Nat) (s:ByteArray) (bz:Nat) (pl:Bool) (i kd:Nat) (e:Ending) (w':World):Prop:=
 ∃ k neg t,neg=((bt s i:Int)==45)∧t=s.extract (sgn s i) k∧k=runEnd 48 57 s (sgn s i)∧i≤k∧k≤s.size∧Fr w w' (· = bl)∧
  ((numOk kd neg t∧i<k∧LAt w' bl s bz pl k false∧e=.returned (.int .i64 (numV neg t t.size)))∨(¬ numOk kd neg t∧LAt w' bl s bz pl k true∧e=.returned (.int .i64 0)))
open Go.RowKit
inductive DT where
 | mk (k:Nat) (n:Int) (tx:ByteArray) (ks:List ByteArray) (ds:List DT)
 deriving Inhabited
def noB:ByteArray:=⟨#[]⟩
instance (kd:Nat) (neg:Bool) (t:ByteArray):Decidable (numOk kd neg t):=by unfold numOk;infer_instance
def numEnd (s:ByteArray) (i:Nat):Nat:=runEnd 48 57 s (sgn s i)
def negAt (s:ByteArray) (i:Nat):Bool:=((bt s i:Int)==45)
def numTx (s:ByteArray) (i:Nat):ByteArray:=s.extract (sgn s i) (numEnd s i)
def rdNum (s:ByteArray) (kd i:Nat):Option (Int×Nat):=
 if numOk kd (negAt s i) (numTx s i) then some (numV (negAt s i) (numTx s i) (numTx s i).size,numEnd s i) else none
def letEnd (s:ByteArray) (i:Nat):Nat:=runEnd 97 122 s i
def rises (last:Option ByteArray) (k:ByteArray):Bool:=match last with|none=>true|some l=>Op.bytesLess l.toList k.toList
def rdKey (s:ByteArray) (keyed:Bool) (last:Option ByteArray) (i:Nat):Option (ByteArray×Nat):=
 if keyed=true then
  if bt s (letEnd s i)=58∧rises last (s.extract i (letEnd s i))=true then some (s.extract i (letEnd s i),letEnd s i+1) else none
 else some (noB,i)
def rdItems (R:Nat→Option (DT×Nat)) (s:ByteArray) (fin:Nat) (keyed:Bool):Nat→Option ByteArray→Nat→Option (List (ByteArray×DT)×Nat)
 | 0,_,_=>none
 | n+1,last,i=>
  match rdKey s keyed last i with
  | none=>none
  | some (k,i1)=>
   match R i1 with
   | none=>none
   | some (d,j)=>
    if bt s j=fin then some ([(k,d)],j+1)
    else if bt s j=44 then
     match rdItems R s fin keyed n (some k) (j+1) with
     | none=>none
     | some (l,e)=>some ((k,d)::l,e)
    else none
def rdList (R:Nat→Option (DT×Nat)) (s:ByteArray) (fin:Nat) (keyed:Bool) (i:Nat):Option (List (ByteArray×DT)×Nat):=
 if bt s i=fin then some ([],i+1) else rdItems R s fin keyed (s.size+2) none i
def rdFields (R:PT→Nat→Option (DT×Nat)) (s:ByteArray):Bool→List PT→Nat→Option (List DT×Nat)
 | _,[],i=>some ([],i)
 | first,t::r,i=>
  if first=true then
   match R t i with
   | none=>none
   | some (d,j)=>match rdFields R s false r j with|none=>none|some (ds,e)=>some (d::ds,e)
  else if bt s i=44 then
   match R t (i+1) with
   | none=>none
   | some (d,j)=>match rdFields R s false r j with|none=>none|some (ds,e)=>some (d::ds,e)
  else none
def rdNamed (R:PT→Nat→Option (DT×Nat)) (s:ByteArray) (pb:PB) (i:Nat):Option (DT×Nat):=
 match pb with
 | .recd fs=>
  if bt s i=40 then
   match rdFields R s true (fs.map PF.ty) (i+1) with
   | none=>none
   | some (ds,j)=>if bt s j=41 then some (.mk 114 0 noB [] ds,j+1) else none
  else none
 | .enum l _=>
  if i<s.size then
   match (l.map Prod.fst).findIdx? (fun c=>c==bt s i) with
   | none=>none
   | some q=>some (.mk 101 q noB [] [],i+1)
  else none
 | .bytes n=>
  if bt s i=39∧letEnd s (i+1)-(i+1)=n∧bt s (letEnd s (i+1))=39 then some (.mk 102 0 (s.extract (i+1) (letEnd s (i+1))) [] [],letEnd s (i+1)+1) else none
def brEnd (s:ByteArray) (i:Nat):Nat:=min (runEnd 48 57 s i) (i+3)
def brNum (s:ByteArray) (i:Nat):Nat→Nat
 | 0=>0
 | n+1=>10*brNum s i n+(bt s (i+n)-48)
def rdBranch (R:PT→Nat→Option (DT×Nat)) (s:ByteArray) (pl:Bool) (ts:List PT) (i:Nat):Option (DT×Nat):=
 if pl=true then
  match ts with
  | []=>none
  | t::_=>match R t i with|none=>none|some (d,j)=>some (.mk 40 0 noB [] [d],j)
 else if bt s i=60∧brEnd s (i+1)≠i+1∧¬ (bt s (i+1)=48∧brEnd s (i+1)-(i+1) > 1)∧bt s (brEnd s (i+1))=58 then
  match ts[brNum s (i+1) (brEnd s (i+1)-(i+1))]? with
  | none=>none
  | some t=>
   match R t (brEnd s (i+1)+1) with
   | none=>none
   | some (d,j)=>if bt s j=62 then some (.mk 40 (brNum s (i+1) (brEnd s (i+1)-(i+1)):Nat) noB [] [d],j+1) else none
 else none
def rdLeaf (R:PT→Nat→Option (DT×Nat)) (s:ByteArray) (env:Nat→Option PB) (c i:Nat):Option (DT×Nat):=
 if c=110 then (if bt s i=78 then some (.mk 110 0 noB [] [],i+1) else none)
 else if c=116 then (if bt s i=84 then some (.mk 116 1 noB [] [],i+1) else if bt s i=70 then some (.mk 116 0 noB [] [],i+1) else none)
 else if c=105∨c=108 then (match rdNum s c i with|none=>none|some (n,j)=>some (.mk c n noB [] [],j))
 else if c=115 then (if bt s i=34∧bt s (letEnd s (i+1))=34 then some (.mk 115 0 (s.extract (i+1) (letEnd s (i+1))) [] [],letEnd s (i+1)+1) else none)
 else match env c with|none=>none|some pb=>rdNamed R s pb i
def rdWrap (R:Nat→Option (DT×Nat)) (s:ByteArray) (c i:Nat):Option (DT×Nat):=
 if bt s i=c then
  match rdList R s (closing c) (c==123) (i+1) with
  | none=>none
  | some (l,j)=>some (.mk c 0 noB (if (c==123)=true then l.map Prod.fst else []) (l.map Prod.snd),j)
 else none
def rdT (s:ByteArray) (env:Nat→Option PB) (pl:Bool):Nat→PT→Nat→Option (DT×Nat)
 | 0,_,_=>none
 | f+1,.leaf c _,i=>rdLeaf (rdT s env pl f) s env c i
 | f+1,.wrap c _ t,i=>rdWrap (rdT s env pl f t) s c i
 | f+1,.alts _ ts,i=>rdBranch (rdT s env pl f) s pl ts i
def Goes (s:ByteArray) (R:Nat→Option (DT×Nat)):Prop:=∀ i d j,R i=some (d,j)→i<j∧j≤s.size
theorem runEnd_ge (lo hi:Nat) (s:ByteArray):∀ n i,s.size-i≤n→i≤runEnd lo hi s i∧(i≤s.size→runEnd lo hi s i≤s.size):=by
 intro n
 induction n with
 | zero=>intro i h;rw[runEnd,dif_neg (by omega)];exact⟨Nat.le_refl _,fun h=>h⟩
 | succ n ih=>
  intro i h
  rw[runEnd]
  split
  ·split
   ·have:=ih (i+1) (by omega)
    exact⟨by omega,fun _=>this.2 (by omega)⟩
   ·exact⟨Nat.le_refl _,fun h=>h⟩
  ·exact⟨Nat.le_refl _,fun h=>h⟩
theorem letEnd_ge (s:ByteArray) (i:Nat):i≤letEnd s i:=(runEnd_ge 97 122 s _ i (Nat.le_refl _)).1
theorem rdKey_goes {s:ByteArray}{keyed:Bool}{last:Option ByteArray}{i:Nat}{k:ByteArray}{j:Nat}(h:rdKey s keyed last i=some (k,j)):i≤j:=by
 unfold rdKey at h
 split at h
 ·split at h
  ·simp only[Option.some.injEq,Prod.mk.injEq] at h
   have:=letEnd_ge s i
   omega
  ·simp at h
 ·simp only[Option.some.injEq,Prod.mk.injEq] at h;omega
theorem rdItems_goes {s:ByteArray}{R:Nat→Option (DT×Nat)}(hR:Goes s R){fin:Nat}(hf:0<fin){keyed:Bool}:∀ (n:Nat) (last:Option ByteArray) (i:Nat) (l:List (ByteArray×DT)) (j:Nat),rdItems R s fin keyed n last i=some (l,j)→i<j∧j≤s.size:=by
 intro n
 induction n with
 | zero=>intro last i l j h;simp[rdItems] at h
 | succ n ih=>
  intro last i l j h
  unfold rdItems at h
  split at h
  ·simp at h
  ·rename_i k i1 hk
   have h1:=rdKey_goes hk
   split at h
   ·simp at h
   ·rename_i d j1 hd
    have h2:=hR _ _ _ hd
    split at h
    ·rename_i hb
     have:=bt_pos (s:=s) (i:=j1) (by omega)
     simp only[Option.some.injEq,Prod.mk.injEq] at h;omega
    ·split at h
     ·split at h
      ·simp at h
      ·rename_i l' e he
       have:=ih _ _ _ _ he
       simp only[Option.some.injEq,Prod.mk.injEq] at h;omega
     ·simp at h
theorem rdFields_goes {s:ByteArray}{R:PT→Nat→Option (DT×Nat)}(hR:∀ t,Goes s (R t)):∀ (ts:List PT) (first:Bool) (i:Nat) (l:List DT) (j:Nat),i≤s.size→rdFields R s first ts i=some (l,j)→i≤j∧j≤s.size:=by
 intro ts
 induction ts with
 | nil=>intro first i l j hi h;simp[rdFields] at h;omega
 | cons t r ih=>
  intro first i l j hi h
  unfold rdFields at h
  split at h
  ·split at h
   ·simp at h
   ·rename_i d j1 hd
    have h2:=hR _ _ _ _ hd
    split at h
    ·simp at h
    ·rename_i l' e he
     have:=ih _ _ _ _ h2.2 he
     simp only[Option.some.injEq,Prod.mk.injEq] at h;omega
  ·split at h
   ·split at h
    ·simp at h
    ·rename_i d j1 hd
     have h2:=hR _ _ _ _ hd
     split at h
     ·simp at h
     ·rename_i l' e he
      have:=ih _ _ _ _ h2.2 he
      simp only[Option.some.injEq,Prod.mk.injEq] at h;omega
   ·simp at h
theorem rdNamed_goes {s:ByteArray}{R:PT→Nat→Option (DT×Nat)}(hR:∀ t,Goes s (R t)) (pb:PB):Goes s (rdNamed R s pb):=by
 intro i d j h
 unfold rdNamed at h
 split at h
 ·split at h
  ·rename_i hb
   have h0:=bt_pos (s:=s) (i:=i) (by omega)
   split at h
   ·simp at h
   ·rename_i ds j1 hd
    have h1:=rdFields_goes hR _ _ _ _ _ (by omega) hd
    split at h
    ·rename_i hc
     have:=bt_pos (s:=s) (i:=j1) (by omega)
     simp only[Option.some.injEq,Prod.mk.injEq] at h;omega
    ·simp at h
  ·simp at h
 ·split at h
  ·split at h
   ·simp at h
   ·simp only[Option.some.injEq,Prod.mk.injEq] at h;omega
  ·simp at h
 ·split at h
  ·rename_i hb
   have:=bt_pos (s:=s) (i:=letEnd s (i+1)) (by omega)
   have:=letEnd_ge s (i+1)
   simp only[Option.some.injEq,Prod.mk.injEq] at h;omega
  ·simp at h
theorem closing_pos (c:Nat):0<closing c:=by unfold closing;split <;> omega
theorem rdNum_goes {s:ByteArray}{kd i:Nat}{n:Int}{j:Nat}(h:rdNum s kd i=some (n,j)):i<j∧j≤s.size:=by
 unfold rdNum at h
 split at h
 ·rename_i hn
  simp only[Option.some.injEq,Prod.mk.injEq] at h
  have h0:=hn.1
  have hs:i≤sgn s i:=by unfold sgn;split <;> omega
  unfold numTx at h0
  rw[ByteArray.size_extract] at h0
  have hg:=runEnd_ge 48 57 s _ (sgn s i) (Nat.le_refl _)
  unfold numEnd at *
  rw[← h.2]
  refine⟨by omega,hg.2 (by omega)⟩
 ·simp at h
theorem rdT_goes (s:ByteArray) (env:Nat→Option PB) (pl:Bool) (f:Nat):∀ t,Goes s (rdT s env pl f t):=by
 induction f with
 | zero=>intro t i d j h;simp[rdT] at h
 | succ f ih=>
  intro t i d j h
  cases t with
  | leaf c p=>
   simp only[rdT] at h
   unfold rdLeaf at h
   have one:∀ {k x},bt s i=k→0<k→some (x,i+1)=some (d,j)→i<j∧j≤s.size:=fun hb h0 h=>by
    have:=bt_pos (s:=s) (i:=i) (by omega)
    simp only[Option.some.injEq,Prod.mk.injEq] at h;omega
   split at h
   ·split at h
    ·rename_i hb;exact one hb (by omega) h
    ·simp at h
   ·split at h
    ·split at h
     ·rename_i hb;exact one hb (by omega) h
     ·split at h
      ·rename_i hb;exact one hb (by omega) h
      ·simp at h
    ·split at h
     ·split at h
      ·simp at h
      ·rename_i n j1 hn
       have:=rdNum_goes hn
       simp only[Option.some.injEq,Prod.mk.injEq] at h;omega
     ·split at h
      ·split at h
       ·rename_i hb
        have:=bt_pos (s:=s) (i:=letEnd s (i+1)) (by omega)
        have:=letEnd_ge s (i+1)
        simp only[Option.some.injEq,Prod.mk.injEq] at h;omega
       ·simp at h
      ·split at h
       ·simp at h
       ·exact rdNamed_goes ih _ _ _ _ h
  | wrap c p t=>
   simp only[rdT] at h
   unfold rdWrap at h
   split at h
   ·split at h
    ·simp at h
    ·rename_i l j1 hl
     simp only[Option.some.injEq,Prod.mk.injEq] at h
     unfold rdList at hl
     have hc:=closing_pos c
     split at hl
     ·rename_i hb
      have:=bt_pos (s:=s) (i:=i+1) (by omega)
      simp only[Option.some.injEq,Prod.mk.injEq] at hl;omega
     ·have:=rdItems_goes (ih t) hc _ _ _ _ _ hl
      omega
   ·simp at h
  | alts p ts=>
   simp only[rdT] at h
   unfold rdBranch at h
   split at h
   ·split at h
    ·simp at h
    ·split at h
     ·simp at h
     ·rename_i d1 j1 hd
      have:=ih _ _ _ _ hd
      simp only[Option.some.injEq,Prod.mk.injEq] at h;omega
   ·split at h
    ·rename_i hb
     have hg:=(runEnd_ge 48 57 s _ (i+1) (Nat.le_refl _)).1
     have hbe:i+1≤brEnd s (i+1):=by unfold brEnd;omega
     split at h
     ·simp at h
     ·split at h
      ·simp at h
      ·rename_i d1 j1 hd
       have h1:=ih _ _ _ _ hd
       split at h
       ·rename_i hc
        have:=bt_pos (s:=s) (i:=j1) (by omega)
        simp only[Option.some.injEq,Prod.mk.injEq] at h;omega
       ·simp at h
    ·simp at h
end Go.Proofs.YtiifagiebikmdaaGreatDoor
