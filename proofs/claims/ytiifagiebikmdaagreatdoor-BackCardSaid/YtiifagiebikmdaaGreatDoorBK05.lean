import Derived.Test.YtiifagiebikmdaaGreatDoorBK04
namespace Go.Proofs.YtiifagiebikmdaaGreatDoor
open Go.RowKit
def lebD (s:ByteArray):Nat→Nat→Option (Nat×Nat)
 | 0,_=>none
 | f+1,i=>
  if i<s.size then
   if bt s i<128 then some (bt s i,i+1)
   else match lebD s f (i+1) with
    | none=>none
    | some (z,j)=>if z=0 then none else some (bt s i-128+128*z,j)
  else none
def unfI (z:Nat):Int:=if z % 2=1 then -((z / 2:Nat):Int)-1 else ((z / 2:Nat):Int)
def bL (s:ByteArray) (i:Nat):Option (Int×Nat):=
 match lebD s 10 i with
 | none=>none
 | some (z,j)=>if z<18446744073709551616 then some (unfI z,j) else none
def bNum (s:ByteArray) (lo hi:Int) (i:Nat):Option (Int×Nat):=
 match bL s i with
 | none=>none
 | some (n,j)=>if lo≤n∧n≤hi then some (n,j) else none
def bSize (s:ByteArray) (i:Nat):Option (Int×Nat):=bNum s 0 9223372036854775807 i
def bText (s:ByteArray) (i n:Nat):Option (ByteArray×Nat):=if i+n≤letEnd s i then some (s.extract i (i+n),i+n) else none
def bSized (s:ByteArray) (i:Nat):Option (ByteArray×Nat):=
 match bSize s i with
 | none=>none
 | some (n,j)=>bText s j n.toNat
def bKey (s:ByteArray) (keyed:Bool) (last:Option ByteArray) (i:Nat):Option (ByteArray×Nat):=
 if keyed=true then
  match bSized s i with
  | none=>none
  | some (k,j)=>if rises last k=true then some (k,j) else none
 else some (noB,i)
def bItems (R:Nat→Nat→Except Nat (DT×Nat×Nat)) (s:ByteArray) (keyed:Bool):Nat→Option ByteArray→Nat→Nat→Except Nat (List (ByteArray×DT)×Nat×Nat)
 | 0,_,i,n=>.ok ([],i,n)
 | c+1,last,i,n=>
  match bKey s keyed last i with
  | none=>.error 6
  | some (k,i1)=>
   match R i1 n with
   | .error e=>.error e
   | .ok (d,j,m)=>
    match bItems R s keyed c (some k) j m with
    | .error e=>.error e
    | .ok (l,j',m')=>.ok ((k,d)::l,j',m')
def bFields (R:PT→Nat→Nat→Except Nat (DT×Nat×Nat)):List PT→Nat→Nat→Except Nat (List DT×Nat×Nat)
 | [],i,n=>.ok ([],i,n)
 | t::r,i,n=>
  match R t i n with
  | .error e=>.error e
  | .ok (d,j,m)=>
   match bFields R r j m with
   | .error e=>.error e
   | .ok (ds,j',m')=>.ok (d::ds,j',m')
def bNamed (R:PT→Nat→Nat→Except Nat (DT×Nat×Nat)) (s:ByteArray) (pb:PB) (i n:Nat):Except Nat (DT×Nat×Nat):=
 match pb with
 | .recd fs=>match bFields R (fs.map PF.ty) i n with | .error e=>.error e | .ok (ds,j,m)=>.ok (.mk 114 0 noB [] ds,j,m)
 | .enum l _=>match bNum s 0 ((l.length:Int)-1) i with|none=>.error 6|some (q,j)=>.ok (.mk 101 q noB [] [],j,n)
 | .bytes k=>match bText s i k with|none=>.error 6|some (tx,j)=>.ok (.mk 102 0 tx [] [],j,n)
def bLeaf (R:PT→Nat→Nat→Except Nat (DT×Nat×Nat)) (s:ByteArray) (env:Nat→Option PB) (c i n:Nat):Except Nat (DT×Nat×Nat):=
 if c=110 then .ok (.mk 110 0 noB [] [],i,n)
 else if c=116 then (if i<s.size∧bt s i≤1 then .ok (.mk 116 (bt s i:Int) noB [] [],i+1,n) else .error 6)
 else if c=105 then (match bNum s (-2147483648) 2147483647 i with|none=>.error 6|some (q,j)=>.ok (.mk 105 q noB [] [],j,n))
 else if c=108 then (match bL s i with|none=>.error 6|some (q,j)=>.ok (.mk 108 q noB [] [],j,n))
 else if c=115 then (match bSized s i with|none=>.error 6|some (tx,j)=>.ok (.mk 115 0 tx [] [],j,n))
 else match env c with|none=>.error 6|some pb=>bNamed R s pb i n
def bWrap (R:Nat→Nat→Except Nat (DT×Nat×Nat)) (s:ByteArray) (c i n:Nat):Except Nat (DT×Nat×Nat):=
 match bSize s i with
 | none=>.error 6
 | some (q,j)=>
  match bItems R s (c==123) q.toNat none j n with
  | .error e=>.error e
  | .ok (l,j',m)=>.ok (.mk c 0 noB (if (c==123)=true then l.map Prod.fst else []) (l.map Prod.snd),j',m)
def bBranch (R:PT→Nat→Nat→Except Nat (DT×Nat×Nat)) (s:ByteArray) (ts:List PT) (i n:Nat):Except Nat (DT×Nat×Nat):=
 match bNum s 0 ((ts.length:Int)-1) i with
 | none=>.error 6
 | some (q,j)=>
  match ts[q.toNat]? with
  | none=>.error 6
  | some t=>match R t j n with | .error e=>.error e | .ok (d,j',m)=>.ok (.mk 40 q noB [] [d],j',m)
def rdB (s:ByteArray) (env:Nat→Option PB):Nat→PT→Nat→Nat→Except Nat (DT×Nat×Nat)
 | 0,_,_,_=>.error 7
 | f+1,t,i,n=>
  if 300≤n then .error 7
  else match t with
   | .leaf c _=>bLeaf (rdB s env f) s env c i (n+1)
   | .wrap c _ t=>bWrap (rdB s env f t) s c i (n+1)
   | .alts _ ts=>bBranch (rdB s env f) s ts i (n+1)
theorem lebD_goes {s:ByteArray}:∀ (f i z j:Nat),lebD s f i=some (z,j)→i<j∧j≤s.size∧j≤i+f∧z<128 ^ f
 | 0,i,z,j,h=>by simp[lebD] at h
 | f+1,i,z,j,h=>by
  unfold lebD at h
  have hp:128 ^ (f+1)=128 ^ f*128:=Nat.pow_succ 128 f
  have h1:1≤128 ^ f:=Nat.one_le_pow _ _ (by decide)
  split at h
  ·split at h
   ·simp only[Option.some.injEq,Prod.mk.injEq] at h
    omega
   ·split at h
    ·simp at h
    ·rename_i z' j' he
     have:=lebD_goes f _ _ _ he
     have hb:=bt_lt s i
     split at h
     ·simp at h
     ·simp only[Option.some.injEq,Prod.mk.injEq] at h
      omega
  ·simp at h
theorem bL_goes {s:ByteArray}{i:Nat}{n:Int}{j:Nat}(h:bL s i=some (n,j)):i<j∧j≤s.size∧-9223372036854775808≤n∧n≤9223372036854775807:=by
 unfold bL at h
 split at h
 ·simp at h
 ·rename_i z j' he
  have:=lebD_goes _ _ _ _ he
  split at h
  ·simp only[Option.some.injEq,Prod.mk.injEq] at h
   obtain⟨h1,h2⟩:=h
   unfold unfI at h1
   split at h1 <;> omega
  ·simp at h
theorem bNum_goes {s:ByteArray}{lo hi:Int}{i:Nat}{n:Int}{j:Nat}(h:bNum s lo hi i=some (n,j)):i<j∧j≤s.size∧lo≤n∧n≤hi∧-9223372036854775808≤n∧n≤9223372036854775807:=by
 unfold bNum at h
 split at h
 ·simp at h
 ·rename_i z j' he
  have:=bL_goes he
  split at h
  ·simp only[Option.some.injEq,Prod.mk.injEq] at h
   omega
  ·simp at h
theorem letEnd_top {s:ByteArray}{i:Nat}(h:i≤s.size):letEnd s i≤s.size:=(runEnd_ge 97 122 s _ i (Nat.le_refl _)).2 h
theorem bText_goes {s:ByteArray}{i n:Nat}{tx:ByteArray}{j:Nat}(hi:i≤s.size) (h:bText s i n=some (tx,j)):i≤j∧j≤s.size∧j=i+n∧tx.size=n:=by
 unfold bText at h
 have hl:=letEnd_top hi
 split at h
 ·simp only[Option.some.injEq,Prod.mk.injEq] at h
  obtain⟨rfl,rfl⟩:=h
  rw[ByteArray.size_extract]
  omega
 ·simp at h
theorem bSized_goes {s:ByteArray}{i:Nat}{tx:ByteArray}{j:Nat}(h:bSized s i=some (tx,j)):i<j∧j≤s.size∧tx.size≤s.size:=by
 unfold bSized at h
 split at h
 ·simp at h
 ·rename_i n j' he
  have h1:=bNum_goes he
  have h2:=bText_goes (by omega) h
  omega
theorem bKey_goes {s:ByteArray}{keyed:Bool}{last:Option ByteArray}{i:Nat}{k:ByteArray}{j:Nat}(hi:i≤s.size) (h:bKey s keyed last i=some (k,j)):i≤j∧j≤s.size∧k.size≤s.size:=by
 unfold bKey at h
 split at h
 ·split at h
  ·simp at h
  ·rename_i k' j' he
   have:=bSized_goes he
   split at h
   ·simp only[Option.some.injEq,Prod.mk.injEq] at h
    obtain⟨rfl,rfl⟩:=h
    omega
   ·simp at h
 ·simp only[Option.some.injEq,Prod.mk.injEq] at h
  obtain⟨rfl,rfl⟩:=h
  exact⟨Nat.le_refl _,hi,Nat.zero_le _⟩
def GoesB (s:ByteArray) (R:Nat→Nat→Except Nat (DT×Nat×Nat)):Prop:=∀ i n d j m,i≤s.size→n≤300→R i n=.ok (d,j,m)→i≤j∧j≤s.size∧n<m∧m≤300
theorem bItems_goes {s:ByteArray}{R:Nat→Nat→Except Nat (DT×Nat×Nat)}(hR:GoesB s R){keyed:Bool}:∀ (c:Nat) (last:Option ByteArray) (i n:Nat) (l:List (ByteArray×DT)) (j m:Nat),i≤s.size→n≤300→bItems R s keyed c last i n=.ok (l,j,m)→i≤j∧j≤s.size∧n+l.length≤m∧m≤300∧l.length=c
 | 0,last,i,n,l,j,m,hi,hn,h=>by
  simp only[bItems,Except.ok.injEq,Prod.mk.injEq] at h
  obtain⟨rfl,rfl,rfl⟩:=h
  simp;omega
 | c+1,last,i,n,l,j,m,hi,hn,h=>by
  unfold bItems at h
  split at h
  ·simp at h
  ·rename_i k i1 hk
   have h1:=bKey_goes hi hk
   split at h
   ·simp at h
   ·rename_i d j1 m1 hd
    have h2:=hR _ _ _ _ _ h1.2.1 hn hd
    split at h
    ·simp at h
    ·rename_i l' j' m' he
     have:=bItems_goes hR c _ _ _ _ _ _ h2.2.1 h2.2.2.2 he
     simp only[Except.ok.injEq,Prod.mk.injEq] at h
     obtain⟨rfl,rfl,rfl⟩:=h
     simp only[List.length_cons]
     omega
theorem bFields_goes {s:ByteArray}{R:PT→Nat→Nat→Except Nat (DT×Nat×Nat)}(hR:∀ t,GoesB s (R t)):∀ (ts:List PT) (i n:Nat) (l:List DT) (j m:Nat),i≤s.size→n≤300→bFields R ts i n=.ok (l,j,m)→i≤j∧j≤s.size∧n+l.length≤m∧m≤300∧l.length=ts.length
 | [],i,n,l,j,m,hi,hn,h=>by
  simp only[bFields,Except.ok.injEq,Prod.mk.injEq] at h
  obtain⟨rfl,rfl,rfl⟩:=h
  simp;omega
 | t::r,i,n,l,j,m,hi,hn,h=>by
  unfold bFields at h
  split at h
  ·simp at h
  ·rename_i d j1 m1 hd
   have h2:=hR t _ _ _ _ _ hi hn hd
   split at h
   ·simp at h
   ·rename_i l' j' m' he
    have:=bFields_goes hR r _ _ _ _ _ h2.2.1 h2.2.2.2 he
    simp only[Except.ok.injEq,Prod.mk.injEq] at h
    obtain⟨rfl,rfl,rfl⟩:=h
    simp only[List.length_cons]
    omega
theorem rdB_goes (s:ByteArray) (env:Nat→Option PB):∀ (f:Nat) (t:PT),GoesB s (rdB s env f t):=by
 intro f
 induction f with
 | zero=>intro t i n d j m _ _ h;simp[rdB] at h
 | succ f ih=>
  intro t i n d j m hi hn h
  unfold rdB at h
  split at h
  ·simp at h
  ·rename_i hn3
   split at h
   ·rename_i c p
    unfold bLeaf at h
    split at h
    ·simp only[Except.ok.injEq,Prod.mk.injEq] at h;omega
    ·split at h
     ·split at h
      ·simp only[Except.ok.injEq,Prod.mk.injEq] at h;omega
      ·simp at h
     ·split at h
      ·split at h
       ·simp at h
       ·rename_i q j1 he
        have:=bNum_goes he
        simp only[Except.ok.injEq,Prod.mk.injEq] at h;omega
      ·split at h
       ·split at h
        ·simp at h
        ·rename_i q j1 he
         have:=bL_goes he
         simp only[Except.ok.injEq,Prod.mk.injEq] at h;omega
       ·split at h
        ·split at h
         ·simp at h
         ·rename_i q j1 he
          have:=bSized_goes he
          simp only[Except.ok.injEq,Prod.mk.injEq] at h;omega
        ·split at h
         ·simp at h
         ·rename_i pb hpb
          unfold bNamed at h
          split at h
          ·split at h
           ·simp at h
           ·rename_i ds j1 m1 he
            have:=bFields_goes ih _ _ _ _ _ _ hi (by omega) he
            simp only[Except.ok.injEq,Prod.mk.injEq] at h;omega
          ·split at h
           ·simp at h
           ·rename_i q j1 he
            have:=bNum_goes he
            simp only[Except.ok.injEq,Prod.mk.injEq] at h;omega
          ·split at h
           ·simp at h
           ·rename_i q j1 he
            have:=bText_goes hi he
            simp only[Except.ok.injEq,Prod.mk.injEq] at h;omega
   ·rename_i c p t
    unfold bWrap at h
    split at h
    ·simp at h
    ·rename_i q j1 he
     have h1:=bNum_goes he
     split at h
     ·simp at h
     ·rename_i l j2 m2 hl
      have:=bItems_goes (ih t) _ _ _ _ _ _ _ h1.2.1 (by omega) hl
      simp only[Except.ok.injEq,Prod.mk.injEq] at h;omega
   ·rename_i p ts
    unfold bBranch at h
    split at h
    ·simp at h
    ·rename_i q j1 he
     have h1:=bNum_goes he
     split at h
     ·simp at h
     ·rename_i t ht
      split at h
      ·simp at h
      ·rename_i d1 j2 m2 hd
       have:=ih t _ _ _ _ _ h1.2.1 (by omega) hd
       simp only[Except.ok.injEq,Prod.mk.injEq] at h;omega
end Go.Proofs.YtiifagiebikmdaaGreatDoor
