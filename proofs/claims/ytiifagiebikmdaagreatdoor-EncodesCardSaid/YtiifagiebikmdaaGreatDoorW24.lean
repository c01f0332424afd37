import Derived.Test.YtiifagiebikmdaaGreatDoorW22
namespace Go.Proofs.YtiifagiebikmdaaGreatDoor
open Go.RowKit
def Fits (R:Nat→Option (DT×Nat)):Prop:=∀ i d j,R i=some (d,j)→i+ndT d≤j
theorem ndT_flat {k:Nat}{n:Int}{tx:ByteArray}{ks:List ByteArray}:ndT (.mk k n tx ks [])=1:=by unfold ndT;simp[ndTs]
theorem rdItems_fits {s:ByteArray}{R:Nat→Option (DT×Nat)}(hR:Fits R){fin:Nat}{keyed:Bool}:∀ (n:Nat) (last:Option ByteArray) (i:Nat) (l:List (ByteArray×DT)) (j:Nat),rdItems R s fin keyed n last i=some (l,j)→i+ndTs (l.map Prod.snd)≤j:=by
 intro n
 induction n with
 | zero=>intro last i l j h;simp[rdItems] at h
 | succ n ih=>
  intro last i l j h
  unfold rdItems at h
  split at h
  ·simp at h
  ·rename_i k i1 hk
   have h1:=rdKey_goes hk
   split at h
   ·simp at h
   ·rename_i d j1 hd
    have h2:=hR _ _ _ hd
    split at h
    ·simp only[Option.some.injEq,Prod.mk.injEq] at h
     obtain⟨rfl,rfl⟩:=h
     simp only[List.map_cons,List.map_nil,ndTs];omega
    ·split at h
     ·split at h
      ·simp at h
      ·rename_i l' e he
       have:=ih _ _ _ _ he
       simp only[Option.some.injEq,Prod.mk.injEq] at h
       obtain⟨rfl,rfl⟩:=h
       simp only[List.map_cons,ndTs];omega
     ·simp at h
theorem rdFields_fits {s:ByteArray}{R:PT→Nat→Option (DT×Nat)}(hR:∀ t,Fits (R t)):∀ (ts:List PT) (first:Bool) (i:Nat) (l:List DT) (j:Nat),rdFields R s first ts i=some (l,j)→i+ndTs l≤j:=by
 intro ts
 induction ts with
 | nil=>
  intro first i l j h
  simp only[rdFields,Option.some.injEq,Prod.mk.injEq] at h
  obtain⟨rfl,rfl⟩:=h
  simp only[ndTs];omega
 | cons t r ih=>
  intro first i l j h
  unfold rdFields at h
  split at h
  ·split at h
   ·simp at h
   ·rename_i d j1 hd
    have h2:=hR _ _ _ _ hd
    split at h
    ·simp at h
    ·rename_i l' e he
     have:=ih _ _ _ _ he
     simp only[Option.some.injEq,Prod.mk.injEq] at h
     obtain⟨rfl,rfl⟩:=h
     simp only[ndTs];omega
  ·split at h
   ·split at h
    ·simp at h
    ·rename_i d j1 hd
     have h2:=hR _ _ _ _ hd
     split at h
     ·simp at h
     ·rename_i l' e he
      have:=ih _ _ _ _ he
      simp only[Option.some.injEq,Prod.mk.injEq] at h
      obtain⟨rfl,rfl⟩:=h
      simp only[ndTs];omega
   ·simp at h
theorem rdNamed_fits {s:ByteArray}{R:PT→Nat→Option (DT×Nat)}(hR:∀ t,Fits (R t)) (pb:PB):Fits (rdNamed R s pb):=by
 intro i d j h
 unfold rdNamed at h
 split at h
 ·split at h
  ·split at h
   ·simp at h
   ·rename_i ds j1 hd
    have h1:=rdFields_fits hR _ _ _ _ _ hd
    split at h
    ·simp only[Option.some.injEq,Prod.mk.injEq] at h
     obtain⟨rfl,rfl⟩:=h
     unfold ndT;omega
    ·simp at h
  ·simp at h
 ·split at h
  ·split at h
   ·simp at h
   ·simp only[Option.some.injEq,Prod.mk.injEq] at h
    obtain⟨rfl,rfl⟩:=h
    rw[ndT_flat];omega
  ·simp at h
 ·split at h
  ·have:=letEnd_ge s (i+1)
   simp only[Option.some.injEq,Prod.mk.injEq] at h
   obtain⟨rfl,rfl⟩:=h
   rw[ndT_flat];omega
  ·simp at h
theorem rdT_fits (s:ByteArray) (env:Nat→Option PB) (f:Nat):∀ t,Fits (rdT s env false f t):=by
 induction f with
 | zero=>intro t i d j h;simp[rdT] at h
 | succ f ih=>
  intro t i d j h
  cases t with
  | leaf c p=>
   simp only[rdT] at h
   unfold rdLeaf at h
   have one:∀ {k n tx q},i<q→some (DT.mk k n tx [] [],q)=some (d,j)→i+ndT d≤j:=fun hq h=>by
    simp only[Option.some.injEq,Prod.mk.injEq] at h
    obtain⟨rfl,rfl⟩:=h
    rw[ndT_flat];omega
   split at h
   ·split at h
    ·exact one (by omega) h
    ·simp at h
   ·split at h
    ·split at h
     ·exact one (by omega) h
     ·split at h
      ·exact one (by omega) h
      ·simp at h
    ·split at h
     ·split at h
      ·simp at h
      ·rename_i n j1 hn
       have:=rdNum_goes hn
       exact one this.1 h
     ·split at h
      ·split at h
       ·have:=letEnd_ge s (i+1)
        exact one (by omega) h
       ·simp at h
      ·split at h
       ·simp at h
       ·exact rdNamed_fits ih _ _ _ _ h
  | wrap c p t=>
   simp only[rdT] at h
   unfold rdWrap at h
   split at h
   ·split at h
    ·simp at h
    ·rename_i l j1 hl
     simp only[Option.some.injEq,Prod.mk.injEq] at h
     obtain⟨rfl,rfl⟩:=h
     unfold rdList at hl
     unfold ndT
     split at hl
     ·simp only[Option.some.injEq,Prod.mk.injEq] at hl
      obtain⟨rfl,rfl⟩:=hl
      simp only[List.map_nil,ndTs];omega
     ·have:=rdItems_fits (ih t) _ _ _ _ _ hl
      omega
   ·simp at h
  | alts p ts=>
   simp only[rdT] at h
   unfold rdBranch at h
   rw[if_neg (by decide)] at h
   split at h
   ·have hg:=(runEnd_ge 48 57 s _ (i+1) (Nat.le_refl _)).1
    have hbe:i+1≤brEnd s (i+1):=by unfold brEnd;omega
    split at h
    ·simp at h
    ·split at h
     ·simp at h
     ·rename_i d1 j1 hd
      have:=ih _ _ _ _ hd
      split at h
      ·simp only[Option.some.injEq,Prod.mk.injEq] at h
       obtain⟨rfl,rfl⟩:=h
       unfold ndT
       simp only[ndTs];omega
      ·simp at h
   ·simp at h
theorem readT_nodes {env:Nat→Option PB}{t:PT}{s:ByteArray}{d:DT}(h:readT env false t s=some d):ndT d≤s.size:=by
 unfold readT at h
 split at h
 ·simp at h
 ·rename_i d1 j hd
  have h1:=rdT_fits s env _ t _ _ _ hd
  have h2:=(rdT_goes s env _ _ t _ _ _ hd).2
  split at h
  ·simp only[Option.some.injEq] at h
   subst h
   omega
  ·simp at h
end Go.Proofs.YtiifagiebikmdaaGreatDoor
