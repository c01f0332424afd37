import Derived.Test.YtiifagiebikmdaaGreatDoorBK42
namespace Go.Proofs.YtiifagiebikmdaaGreatDoor
open Go.RowKit
def stp (s:ByteArray) (j:Nat):Prop:=¬ (48≤bt s j∧bt s j≤57)
theorem jn_succ:∀ (l:List ByteArray) (i:Nat),jn (i+1) l=jn 1 l
 | [],_=>by simp[jn]
 | a::r,i=>by
  simp only[jn]
  rw[jn_succ r (i+1),jn_succ r 1,if_neg (by omega),if_neg (by omega)]
theorem jn_zero (x:ByteArray) (l:List ByteArray):jn 0 (x::l)=x++jn 1 l:=by
 rw[jn,if_pos rfl,noB_app]
theorem jn_one (x:ByteArray) (l:List ByteArray):jn 1 (x::l)=bts [44]++jn 0 (x::l):=by
 rw[jn_zero,jn,if_neg (by decide),jn_succ]
theorem jn_one_nil:jn 1 []=noB:=by rw[jn]
def keyT (keyed:Bool) (k:ByteArray):ByteArray:=if keyed=true then k++bts [58] else noB
theorem txTs_cons (env:Nat→Option PB) (t:PT) (n i:Nat) (keyed:Bool) (k:ByteArray) (ks:List ByteArray) (d:DT) (ds:List DT) :
 txTs env t n i keyed (k::ks) (d::ds)=(keyT keyed k++txT env d (subTy env t n i))::txTs env t n (i+1) keyed ks ds:=by
 rw[txTs];rfl
theorem txTs_nil (env:Nat→Option PB) (t:PT) (n i:Nat) (keyed:Bool) (ks:List ByteArray):txTs env t n i keyed ks []=[]:=by rw[txTs]
theorem txTs_false (env:Nat→Option PB) (t:PT) (n:Nat):∀ (ds:List DT) (i:Nat) (ks ks':List ByteArray),txTs env t n i false ks ds=txTs env t n i false ks' ds
 | [],_,_,_=>by rw[txTs_nil,txTs_nil]
 | d::r,i,ks,ks'=>by
  rw[txTs,txTs,txTs_false env t n r (i+1) ks.tail ks'.tail]
  simp
theorem rdKey_of {s:ByteArray}{keyed:Bool}{last:Option ByteArray}{i:Nat}{k:ByteArray}(h:At s i (keyT keyed k)) (hk:keyed=true→rises last k=true∧Lets k) :
 rdKey s keyed last i=some (if keyed=true then k else noB,i+(keyT keyed k).size):=by
 unfold rdKey
 unfold keyT at h⊢
 cases keyed with
 | false=>simp only[Bool.false_eq_true,if_false];rfl
 | true=>
  simp only[if_true] at h⊢
  obtain⟨a,b⟩:=hk rfl
  obtain⟨h1,h2⟩:=At.app.1 h
  obtain⟨h3,h4⟩:=(At.one (by decide)).1 h2
  have hE:letEnd s i=i+k.size:=by rw[letEnd_run h1 b];exact runEnd_off (by omega)
  have hX:s.extract i (i+k.size)=k:=(At.ext (by omega) h1.1).eq h1 (by rw[ByteArray.size_extract];have:=h1.1;omega)
  rw[hE,hX,if_pos ⟨h4,a⟩,ByteArray.size_append,bts_size]
  rfl
def RdsT (env:Nat→Option PB) (s:ByteArray) (F:Nat) (R:Nat→Option (DT×Nat)) (u:PT) (d:DT):Prop:=
 ∀ i,At s i (txT env d u)→stp s (i+(txT env d u).size)→(txT env d u).size<F→R i=some (d,i+(txT env d u).size)
theorem rdItems_of {env:Nat→Option PB}{s:ByteArray}{R:Nat→Option (DT×Nat)}{keyed:Bool}{fin F c p n:Nat}{u:PT}(hf:fin=93∨fin=125):∀ (ds:List DT) (d:DT) (k:ByteArray) (ks:List ByteArray) (last:Option ByteArray) (i q fuel:Nat),ks.length=ds.length→(keyed=true→Rise last (k::ks))→
 (∀ e∈d::ds,RdsT env s F R u e)→At s i (jn 0 (txTs env (.wrap c p u) n q keyed (k::ks) (d::ds))++bts [fin])→(jn 0 (txTs env (.wrap c p u) n q keyed (k::ks) (d::ds))).size<F→ds.length<fuel→
 ∃ l,rdItems R s fin keyed fuel last i=some (l,i+(jn 0 (txTs env (.wrap c p u) n q keyed (k::ks) (d::ds))).size+1)∧l.map Prod.snd=d::ds∧(keyed=true→l.map Prod.fst=k::ks):=by
 intro ds
 induction ds with
 | nil=>
  intro d k ks last i q fuel hl hr hR hA hF hfu
  obtain rfl:ks=[]:=List.eq_nil_of_length_eq_zero (by simpa using hl)
  obtain⟨fuel,rfl⟩:∃ m,fuel=m+1:=⟨fuel-1,by simp at hfu;omega⟩
  rw[txTs_cons,txTs_nil,jn_zero,jn_one_nil,app_noB,subTy] at hA hF⊢
  rw[ByteArray.size_append] at hF
  obtain⟨h12,h3⟩:=At.app.1 hA
  obtain⟨h1,h2⟩:=At.app.1 h12
  obtain⟨h4,h5⟩:=(At.one (by omega)).1 h3
  rw[ByteArray.size_append,← Nat.add_assoc] at h5
  have hd:=hR d (List.mem_cons_self ..) _ h2 (by unfold stp;omega) (by omega)
  refine⟨[(if keyed=true then k else noB,d)],?_,rfl,fun hk=>by subst hk;rfl⟩
  unfold rdItems
  rw[rdKey_of h1 (fun hk=>⟨(hr hk).1,(hr hk).2.1⟩)]
  simp only
  rw[hd]
  simp only
  rw[if_pos h5,ByteArray.size_append,Nat.add_assoc i]
 | cons d2 ds ih=>
  intro d k ks last i q fuel hl hr hR hA hF hfu
  cases ks with
  | nil=>simp at hl
  | cons k2 ks=>
   obtain⟨fuel,rfl⟩:∃ m,fuel=m+1:=⟨fuel-1,by omega⟩
   rw[txTs_cons,jn_zero,txTs_cons,jn_one,← txTs_cons,subTy] at hA hF⊢
   rw[ByteArray.size_append,ByteArray.size_append,ByteArray.size_append,bts_size] at hF
   rw[ByteArray.append_assoc] at hA
   obtain⟨h12,h34⟩:=At.app.1 hA
   rw[ByteArray.append_assoc] at h34
   obtain⟨h1,h2⟩:=At.app.1 h12
   obtain⟨h3,h4⟩:=At.app.1 h34
   obtain⟨h5,h6⟩:=(At.one (by omega)).1 h3
   rw[ByteArray.size_append,← Nat.add_assoc] at h6 h4
   rw[bts_size] at h4
   have hd:=hR d (List.mem_cons_self ..) _ h2 (by unfold stp;omega) (by omega)
   have e1:[44].length=1:=rfl
   rw[e1] at h4 hF
   obtain⟨l,e2,e3,e4⟩:=ih d2 k2 ks (some (if keyed=true then k else noB)) _ (q+1) fuel (by simpa using hl) (fun hk=>by subst hk;exact(hr rfl).2.2.2) (fun e he=>hR e (List.mem_cons_of_mem _ he)) h4 (by omega) (by simp at hfu;omega)
   refine⟨(if keyed=true then k else noB,d)::l,?_,by simp[e3],fun hk=>by subst hk;simp[e4]⟩
   unfold rdItems
   rw[rdKey_of h1 (fun hk=>⟨(hr hk).1,(hr hk).2.1⟩)]
   simp only
   rw[hd]
   simp only
   rw[if_neg (by omega),if_pos h6,e2]
   simp only[Option.some.injEq,Prod.mk.injEq,true_and,ByteArray.size_append,bts_size,e1]
   omega
theorem rdFields_of {env:Nat→Option PB}{s:ByteArray}{R:PT→Nat→Option (DT×Nat)}{F c p n:Nat}{T:List PT}(hT:∀ q,subTy env (.leaf c p) n q=T.getD q (.leaf 0 0)):∀ (ds:List DT) (q i:Nat) (first:Bool),q+ds.length=T.length→
 (∀ (k:Nat) (e:DT) (u:PT),ds[k]?=some e→T[q+k]?=some u→RdsT env s F (R u) u e)→At s i (jn (if first=true then 0 else 1) (txTs env (.leaf c p) n q false [] ds))→stp s (i+(jn (if first=true then 0 else 1) (txTs env (.leaf c p) n q false [] ds)).size)→(jn (if first=true then 0 else 1) (txTs env (.leaf c p) n q false [] ds)).size<F→
 rdFields R s first (T.drop q) i=some (ds,i+(jn (if first=true then 0 else 1) (txTs env (.leaf c p) n q false [] ds)).size):=by
 intro ds
 induction ds with
 | nil=>
  intro q i first hl hR hA hs hF
  rw[List.drop_eq_nil_of_le (by simp at hl;omega),txTs_nil]
  unfold rdFields
  have:jn (if first=true then 0 else 1) []=noB:=by cases first <;> simp[jn]
  rw[this]
  rfl
 | cons d ds ih=>
  intro q i first hl hR hA hs hF
  have hq:q<T.length:=by simp at hl;omega
  have hu:T[q]?=some T[q]:=List.getElem?_eq_getElem hq
  have hsub:subTy env (.leaf c p) n q=T[q]:=by rw[hT,List.getD_eq_getElem?_getD,hu];rfl
  have ex:txTs env (.leaf c p) n q false [] (d::ds)=txT env d T[q]::txTs env (.leaf c p) n (q+1) false [] ds:=by
   rw[txTs_false _ _ _ _ _ [] [noB],txTs_cons,hsub]
   simp[keyT,noB_app]
  rw[ex] at hA hs hF⊢
  rw[List.drop_eq_getElem_cons hq]
  have rest:∀ i',At s i' (jn 0 (txT env d T[q]::txTs env (.leaf c p) n (q+1) false [] ds))→stp s (i'+(jn 0 (txT env d T[q]::txTs env (.leaf c p) n (q+1) false [] ds)).size)→(jn 0 (txT env d T[q]::txTs env (.leaf c p) n (q+1) false [] ds)).size<F→
   R T[q] i'=some (d,i'+(txT env d T[q]).size)∧rdFields R s false (T.drop (q+1)) (i'+(txT env d T[q]).size)=some (ds,i'+(jn 0 (txT env d T[q]::txTs env (.leaf c p) n (q+1) false [] ds)).size):=by
   intro i' hA hs hF
   rw[jn_zero,ByteArray.size_append] at hs hF
   rw[jn_zero] at hA
   obtain⟨h1,h2⟩:=At.app.1 hA
   have hst:stp s (i'+(txT env d T[q]).size):=by
    cases ds with
    | nil=>
     rw[txTs_nil,jn_one_nil,noB_size] at hs
     rw[← Nat.add_assoc,Nat.add_zero] at hs
     exact hs
    | cons d2 ds=>
     rw[txTs_false _ _ _ _ _ [] [noB],txTs_cons,jn_one] at h2
     have:=((At.one (by decide)).1 (At.app.1 h2).1).2
     unfold stp
     omega
   have h3:=hR 0 d T[q] rfl hu i' h1 hst (by omega)
   have h4:=ih (q+1) (i'+(txT env d T[q]).size) false (by simp at hl;omega) (fun k e u he hu'=>hR (k+1) e u (by simpa using he) (by rw[show q+(k+1)=q+1+k by omega];exact hu')) (by simpa using h2) (by simpa[Nat.add_assoc] using hs) (by simp;omega)
   refine⟨h3,?_⟩
   rw[h4,jn_zero,ByteArray.size_append]
   simp[Nat.add_assoc]
  cases first with
  | true=>
   simp only[if_true] at hA hs hF⊢
   obtain⟨h3,h4⟩:=rest i hA hs hF
   unfold rdFields
   rw[if_pos rfl,h3]
   simp only
   rw[h4]
  | false=>
   simp only[Bool.false_eq_true,if_false] at hA hs hF⊢
   rw[jn_one] at hA hs hF⊢
   rw[ByteArray.size_append,bts_size] at hs hF
   have e1:[44].length=1:=rfl
   rw[e1] at hs hF
   obtain⟨h1,h2⟩:=At.app.1 hA
   rw[bts_size,e1] at h2
   obtain⟨h3,h4⟩:=rest (i+1) h2 (by rw[Nat.add_assoc];exact hs) (by omega)
   unfold rdFields
   rw[if_neg (by decide),if_pos ((At.one (by decide)).1 h1).2,h3]
   simp only
   rw[h4,ByteArray.size_append,bts_size,e1,Nat.add_assoc]
theorem jn_len:∀ (l:List ByteArray) (i:Nat),l.length≤(jn i l).size+1∧(i≠0→l.length≤(jn i l).size)
 | [],i=>by simp
 | a::r,i=>by
  have h:=(jn_len r (i+1)).2 (by omega)
  rw[jn]
  simp only[ByteArray.size_append,List.length_cons]
  refine⟨by omega,fun hi=>?_⟩
  rw[if_neg hi,bts_size]
  simp only[List.length_singleton]
  omega
theorem br_of {s:ByteArray}{i q:Nat}(hq:q<1000) (hA:At s i (decB (q:Int))) (h58:bt s (i+(decB (q:Int)).size)=58) :
 brEnd s i=i+(decB (q:Int)).size∧brEnd s i≠i∧¬ (bt s i=48∧brEnd s i-i > 1)∧brNum s i (brEnd s i-i)=q:=by
 obtain⟨r1,r2,r3,r4,r5⟩:=run_dec hA (by omega)
 obtain⟨f1,f2,c,r,f3,f4,f5⟩:=dec_facts _ q (Nat.le_refl _)
 have hsz:(decB (q:Int)).size=r.length+1:=by rw[size_list,decB_nat,f3];rfl
 have h3:(decB (q:Int)).size≤3:=by
  by_cases h0:q=0
  ·rw[(f4 h0).1] at hsz;rw[hsz];decide
  ·have h1:=dv_ge (r:=r) (f5 h0)
   rw[← f3,f2] at h1
   have:r.length<3:=(Nat.pow_lt_pow_iff_right (show 1<10 by decide)).1 (Nat.lt_of_le_of_lt h1 (by omega))
   omega
 have hE:brEnd s i=i+(decB (q:Int)).size:=by unfold brEnd;rw[r1];omega
 refine⟨hE,by omega,?_,?_⟩
 ·rintro⟨h1,h2⟩
  have h0:=dec_zero (r5▸h1)
  subst h0
  rw[hE,dec_zero_size] at h2
  omega
 ·rw[hE,Nat.add_sub_cancel_left,brNum_dv _ hA.1,r2,decB_nat,f2]
section
variable {env:Nat→Option PB}
theorem tx_null (p:Nat):txT env (.mk 110 0 noB [] []) (.leaf 110 p)=bts [78]:=by simp[txT]
theorem tx_bool (p q:Nat):txT env (.mk 116 (q:Int) noB [] []) (.leaf 116 p)=if q=1 then bts [84] else bts [70]:=by
 rw[txT]
 simp only[show ¬ ((116:Nat)=110) by decide,if_false,if_true]
 by_cases h:q=1
 ·rw[if_pos h,if_pos (by omega)]
 ·rw[if_neg h,if_neg (by omega)]
theorem tx_num (p:Nat) (q:Int):txT env (.mk 105 q noB [] []) (.leaf 105 p)=decB q:=by simp[txT]
theorem tx_long (p:Nat) (q:Int):txT env (.mk 108 q noB [] []) (.leaf 108 p)=decB q:=by simp[txT]
theorem tx_text (p:Nat) (x:ByteArray):txT env (.mk 115 0 x [] []) (.leaf 115 p)=bts [34]++(x++bts [34]):=by simp[txT]
theorem tx_bytes (c p:Nat) (x:ByteArray):txT env (.mk 102 0 x [] []) (.leaf c p)=bts [39]++(x++bts [39]):=by simp[txT]
theorem tx_sym {c p q:Nat}{l:List (Nat×Nat)}{o:Option (Nat×Nat)}{x:Nat}(he:env c=some (.enum l o)) (hx:(l.map Prod.fst)[q]?=some x):txT env (.mk 101 (q:Int) noB [] []) (.leaf c p)=bts [x]:=by
 rw[txT]
 simp only[Int.toNat_natCast,symL,he,List.getD_eq_getElem?_getD,hx]
 simp
theorem tx_recd (c p:Nat) (ds:List DT):txT env (.mk 114 0 noB [] ds) (.leaf c p)=bts [40]++(jn 0 (txTs env (.leaf c p) 0 0 false [] ds)++bts [41]):=by
 rw[txT]
 simp[aroundB]
theorem tx_list (p:Nat) (u:PT) (ks:List ByteArray) (ds:List DT):txT env (.mk 91 0 noB [] ds) (.wrap 91 p u)=bts [91]++(jn 0 (txTs env (.wrap 91 p u) 0 0 false ks ds)++bts [93]):=by
 rw[txTs_false env (.wrap 91 p u) 0 ds 0 ks [],txT]
 simp[aroundB]
theorem tx_map (p:Nat) (u:PT) (ks:List ByteArray) (ds:List DT):txT env (.mk 123 0 noB ks ds) (.wrap 123 p u)=bts [123]++(jn 0 (txTs env (.wrap 123 p u) 0 0 true ks ds)++bts [125]):=by
 rw[txT]
 simp[aroundB]
theorem tx_alts {p q:Nat}{l:List PT}{u:PT}(d:DT) (hl:l[q]?=some u):txT env (.mk 40 (q:Int) noB [] [d]) (.alts p l)=bts [60]++(decB q++(bts [58]++(txT env d u++bts [62]))):=by
 have hsub:subTy env (.alts p l) q 0=u:=by simp only[subTy,List.getD_eq_getElem?_getD,hl];rfl
 rw[txT]
 simp only[Int.toNat_natCast]
 rw[txTs_false _ _ _ _ _ [] [noB],txTs_cons,txTs_nil,jn_zero,jn_one_nil,app_noB,hsub]
 simp[keyT,noB_app]
end
def symE (env:Nat→Option PB):Prop:=∀ c l o,env c=some (.enum l o)→(l.map Prod.fst).Nodup∧∀ x∈l.map Prod.fst,97≤x∧x≤122
theorem dec_first {s:ByteArray}{i:Nat}{n:Int}(h:At s i (decB n)):bt s i=45∨(48≤bt s i∧bt s i≤57):=by
 by_cases hn:n<0
 ·obtain⟨u,hu,rfl⟩:∃ u:Nat,1≤u∧n = -(u:Int):=⟨n.natAbs,by omega,by omega⟩
  rw[decB_min u hu] at h
  exact .inl ((At.one (by decide)).1 (At.app.1 h).1).2
 ·obtain⟨u,rfl⟩:∃ u:Nat,n=(u:Int):=⟨n.toNat,by omega⟩
  obtain⟨f1,f2,c,r,f3,f4,f5⟩:=dec_facts _ u (Nat.le_refl _)
  have hd:digs (decB (u:Int)).data.toList:=by rw[decB_nat];exact f1
  have hp:0<(decB (u:Int)).size:=by rw[size_list,decB_nat,f3];simp
  have h0:=h.2 0 hp
  rw[Nat.add_zero] at h0
  rw[h0]
  exact .inr (digs_bt hd hp)
theorem dat_first {env:Nat→Option PB}(hS:symE env){s:ByteArray}{i:Nat}{d:DT}{t:PT}(hd:Dat env d t) (hA:At s i (txT env d t)):bt s i≠93∧bt s i≠125∧bt s i≠41:=by
 have one:∀ {c:Nat} {b:ByteArray},c<256→At s i (bts [c]++b)→bt s i=c:=fun hc h=>((At.one hc).1 (At.app.1 h).1).2
 cases hd with
 | null=>rw[tx_null] at hA;have:=((At.one (by decide)).1 hA).2;omega
 | bool hb=>
  rw[tx_bool] at hA
  split at hA
  ·have:=((At.one (by decide)).1 hA).2;omega
  ·have:=((At.one (by decide)).1 hA).2;omega
 | num=>rw[tx_num] at hA;have:=dec_first hA;omega
 | long=>rw[tx_long] at hA;have:=dec_first hA;omega
 | text=>rw[tx_text] at hA;have:=one (by decide) hA;omega
 | bytes=>rw[tx_bytes] at hA;have:=one (by decide) hA;omega
 | sym he hb hn=>
  rename_i c p q l o
  have hq:q<(l.map Prod.fst).length:=by simpa using hn
  rw[tx_sym he (List.getElem?_eq_getElem hq)] at hA
  have h9:=(hS c l o he).2 _ (List.getElem_mem hq)
  have:=((At.one (by omega)).1 hA).2
  omega
 | recd=>rw[tx_recd] at hA;have:=one (by decide) hA;omega
 | list=>rw[tx_list _ _ []] at hA;have:=one (by decide) hA;omega
 | map=>rw[tx_map] at hA;have:=one (by decide) hA;omega
 | alts hn hl=>rw[tx_alts _ hl] at hA;have:=one (by decide) hA;omega
theorem idx_of {L:List Nat}(hN:L.Nodup){q x:Nat}(hx:L[q]?=some x):L.findIdx? (fun c=>c==x)=some q:=by
 obtain⟨hq,rfl⟩:=List.getElem?_eq_some_iff.1 hx
 rw[List.findIdx?_eq_some_iff_getElem]
 refine⟨hq,by simp,fun j hj=>?_⟩
 simp only[beq_iff_eq]
 intro e
 have:=(List.getElem_inj hN).1 e
 omega
theorem rdT_of {env:Nat→Option PB}(hS:symE env) (hW:fewE env) (s:ByteArray):∀ (f:Nat) (d:DT) (t:PT),Dat env d t→fewT t→RdsT env s f (rdT s env false f t) t d:=by
 intro f
 induction f with
 | zero=>intro d t _ _ i _ _ h;omega
 | succ f ih=>
  intro d t hd hw i hA hs hF
  cases hd with
  | null=>
   rename_i p
   have e:=tx_null (env:=env) p
   rw[e] at hA⊢
   unfold rdT rdLeaf
   rw[if_pos rfl,if_pos ((At.one (by decide)).1 hA).2,bts_size]
   rfl
  | bool hb=>
   rename_i p q
   have hq:q=1∨q=0:=by omega
   unfold rdT rdLeaf
   rw[if_neg (by decide),if_pos rfl]
   have e:=tx_bool (env:=env) p q
   rcases hq with rfl|rfl
   ·rw[if_pos rfl] at e
    rw[e] at hA⊢
    rw[if_pos ((At.one (by decide)).1 hA).2,bts_size]
    rfl
   ·rw[if_neg (by decide)] at e
    rw[e] at hA⊢
    have:=((At.one (by decide)).1 hA).2
    rw[if_neg (by omega),if_pos this,bts_size]
    rfl
  | num h0 h1=>
   rename_i p q
   have e:=tx_num (env:=env) p q
   rw[e] at hA hs⊢
   unfold rdT rdLeaf
   rw[if_neg (by decide),if_neg (by decide),if_pos (.inl rfl),rdNum_of (.inl rfl) h0 h1 hA hs]
  | long h0 h1=>
   rename_i p q
   have e:=tx_long (env:=env) p q
   rw[e] at hA hs⊢
   unfold rdT rdLeaf
   rw[if_neg (by decide),if_neg (by decide),if_pos (.inr rfl),rdNum_of (.inr rfl) h0 h1 hA hs]
  | text hx h1=>
   rename_i p x
   have e:=tx_text (env:=env) p x
   rw[e] at hA⊢
   obtain⟨a1,a23⟩:=At.app.1 hA
   obtain⟨a2,a3⟩:=At.app.1 a23
   rw[bts_size,show[34].length=1 from rfl] at a2 a3
   have b1:=((At.one (by decide)).1 a1).2
   have b3:=((At.one (by decide)).1 a3).2
   have hE:letEnd s (i+1)=i+1+x.size:=by rw[letEnd_run a2 hx];exact runEnd_off (by omega)
   have hX:s.extract (i+1) (i+1+x.size)=x:=(At.ext (by omega) a2.1).eq a2 (by rw[ByteArray.size_extract];have:=a2.1;omega)
   unfold rdT rdLeaf
   rw[if_neg (by decide),if_neg (by decide),if_neg (by decide),if_pos rfl,hE,if_pos ⟨b1,b3⟩,hX]
   simp only[ByteArray.size_append,bts_size,Option.some.injEq,Prod.mk.injEq,true_and,List.length_singleton]
   omega
  | bytes he hb hx=>
   rename_i c p x
   obtain⟨b1,b2,b3,b4,b5⟩:=base_no hb
   have e:=tx_bytes (env:=env) c p x
   rw[e] at hA⊢
   obtain⟨a1,a23⟩:=At.app.1 hA
   obtain⟨a2,a3⟩:=At.app.1 a23
   rw[bts_size,show[39].length=1 from rfl] at a2 a3
   have c1:=((At.one (by decide)).1 a1).2
   have c3:=((At.one (by decide)).1 a3).2
   have hE:letEnd s (i+1)=i+1+x.size:=by rw[letEnd_run a2 hx];exact runEnd_off (by omega)
   have hX:s.extract (i+1) (i+1+x.size)=x:=(At.ext (by omega) a2.1).eq a2 (by rw[ByteArray.size_extract];have:=a2.1;omega)
   unfold rdT rdLeaf
   rw[if_neg b1,if_neg b2,if_neg (by omega),if_neg b5,he]
   simp only[rdNamed]
   rw[hE,if_pos ⟨c1,by omega,c3⟩,hX]
   simp only[ByteArray.size_append,bts_size,Option.some.injEq,Prod.mk.injEq,true_and,List.length_singleton]
   omega
  | sym he hb hn=>
   rename_i c p q l o
   obtain⟨b1,b2,b3,b4,b5⟩:=base_no hb
   obtain⟨hN,h256⟩:=hS c l o he
   have hq:q<(l.map Prod.fst).length:=by simpa using hn
   have hx:(l.map Prod.fst)[q]?=some (l.map Prod.fst)[q]:=List.getElem?_eq_getElem hq
   have e:=tx_sym (p:=p) he hx
   have h9:=h256 _ (List.getElem_mem hq)
   rw[e] at hA⊢
   obtain⟨a1,a2⟩:=(At.one (by omega)).1 hA
   unfold rdT rdLeaf
   rw[if_neg b1,if_neg b2,if_neg (by omega),if_neg b5,he]
   simp only[rdNamed]
   rw[if_pos a1,a2,idx_of hN hx,bts_size]
   rfl
  | recd he hb hl h=>
   rename_i c p fs ds
   obtain⟨b1,b2,b3,b4,b5⟩:=base_no hb
   have e:=tx_recd (env:=env) c p ds
   rw[e] at hA hF⊢
   rw[ByteArray.size_append,ByteArray.size_append,bts_size,bts_size,List.length_singleton,List.length_singleton] at hF
   obtain⟨a1,a23⟩:=At.app.1 hA
   obtain⟨a2,a3⟩:=At.app.1 a23
   rw[bts_size,List.length_singleton] at a2 a3
   have c1:=((At.one (by decide)).1 a1).2
   have c3:=((At.one (by decide)).1 a3).2
   have hf:=rdFields_of (env:=env) (s:=s) (R:=rdT s env false f) (F:=f) (c:=c) (p:=p) (n:=0) (T:=fs.map PF.ty) (fun q=>by simp only[subTy,he]) ds 0 (i+1) true (by simpa using hl) (fun k x u hx hu=>ih x u (h k x u hx (by rwa[Nat.zero_add] at hu)) (by
    rw[Nat.zero_add] at hu
    obtain⟨g,hg,rfl⟩:=List.mem_map.1 (List.mem_of_getElem? hu)
    exact(hW c fs he).2 g hg)) (by simpa using a2) (by simp only[if_true];unfold stp;omega) (by simp only[if_true];omega)
   simp only[if_true,List.drop_zero] at hf
   unfold rdT rdLeaf
   rw[if_neg b1,if_neg b2,if_neg (by omega),if_neg b5,he]
   simp only[rdNamed]
   rw[if_pos c1,hf]
   simp only
   rw[if_pos c3]
   simp only[ByteArray.size_append,bts_size,Option.some.injEq,Prod.mk.injEq,true_and,List.length_singleton]
   omega
  | list hl h=>
   rename_i p u ds
   unfold fewT at hw
   have e:=tx_list (env:=env) p u (ds.map fun _=>noB) ds
   rw[e] at hA hF⊢
   rw[ByteArray.size_append,ByteArray.size_append,bts_size,bts_size,List.length_singleton,List.length_singleton] at hF
   obtain⟨a1,a23⟩:=At.app.1 hA
   rw[bts_size,List.length_singleton] at a23
   have c1:=((At.one (by decide)).1 a1).2
   unfold rdT rdWrap
   rw[if_pos c1]
   unfold rdList
   simp only[show closing 91=93 from rfl,show((91:Nat)==123)=false from rfl]
   cases ds with
   | nil=>
    rw[List.map_nil,txTs_nil,show jn 0 []=noB by rw[jn],noB_app] at a23⊢
    have c3:=((At.one (by decide)).1 a23).2
    rw[if_pos c3]
    simp only[ByteArray.size_append,bts_size,Bool.false_eq_true,if_false,List.map_nil,List.length_singleton]
   | cons d ds=>
    obtain⟨l,e1,e2,e3⟩:=rdItems_of (env:=env) (s:=s) (R:=rdT s env false f u) (keyed:=false) (fin:=93) (F:=f) (c:=91) (p:=p) (n:=0) (u:=u) (.inl rfl) ds d noB (ds.map fun _=>noB) none (i+1) 0 (s.size+2) (by simp) (fun hk=>by cases hk) (fun x hx=>ih x u (h x hx) hw) a23 (by simp only[List.map_cons] at hF;omega) (by
     have h1:=a23.1
     rw[ByteArray.size_append] at h1
     have h2:=(jn_len (txTs env (.wrap 91 p u) 0 0 false ((d::ds).map fun _=>noB) (d::ds)) 0).1
     rw[txTs_len,List.length_cons] at h2
     omega)
    have hne:bt s (i+1)≠93:=by
     rw[List.map_cons,txTs_cons,jn_zero] at a23
     have hk0:=(At.app.1 (At.app.1 (At.app.1 a23).1).1).2
     simp only[keyT,Bool.false_eq_true,if_false,noB_size,Nat.add_zero] at hk0
     exact(dat_first hS (h d (List.mem_cons_self ..)) hk0).1
    rw[if_neg hne]
    simp only[List.map_cons]
    rw[e1]
    simp only[Bool.false_eq_true,if_false,e2,ByteArray.size_append,bts_size,Option.some.injEq,Prod.mk.injEq,true_and,List.length_singleton]
    omega
  | map hl hk hr h=>
   rename_i p u ks ds
   unfold fewT at hw
   have e:=tx_map (env:=env) p u ks ds
   rw[e] at hA hF⊢
   rw[ByteArray.size_append,ByteArray.size_append,bts_size,bts_size,List.length_singleton,List.length_singleton] at hF
   obtain⟨a1,a23⟩:=At.app.1 hA
   rw[bts_size,List.length_singleton] at a23
   have c1:=((At.one (by decide)).1 a1).2
   unfold rdT rdWrap
   rw[if_pos c1]
   unfold rdList
   simp only[show closing 123=125 from rfl,show((123:Nat)==123)=true from rfl]
   cases ds with
   | nil=>
    obtain rfl:ks=[]:=List.eq_nil_of_length_eq_zero (by simpa using hk)
    rw[txTs_nil,show jn 0 []=noB by rw[jn],noB_app] at a23⊢
    have c3:=((At.one (by decide)).1 a23).2
    rw[if_pos c3]
    simp only[ByteArray.size_append,bts_size,if_true,List.map_nil,List.length_singleton]
   | cons d ds=>
    cases ks with
    | nil=>simp at hk
    | cons k ks=>
     obtain⟨l,e1,e2,e3⟩:=rdItems_of (env:=env) (s:=s) (R:=rdT s env false f u) (keyed:=true) (fin:=125) (F:=f) (c:=123) (p:=p) (n:=0) (u:=u) (.inr rfl) ds d k ks none (i+1) 0 (s.size+2) (by simpa using hk) (fun _=>hr) (fun x hx=>ih x u (h x hx) hw) a23 (by omega) (by
      have h1:=a23.1
      rw[ByteArray.size_append] at h1
      have h2:=(jn_len (txTs env (.wrap 123 p u) 0 0 true (k::ks) (d::ds)) 0).1
      rw[txTs_len,List.length_cons] at h2
      omega)
     have hne:bt s (i+1)≠125:=by
      rw[txTs_cons,jn_zero] at a23
      have hk0:=(At.app.1 (At.app.1 (At.app.1 a23).1).1).1
      unfold keyT at hk0
      rw[if_pos rfl] at hk0
      obtain⟨q1,q2⟩:=At.app.1 hk0
      have q3:=((At.one (by decide)).1 q2).2
      by_cases hz:k.size=0
      ·rw[hz,Nat.add_zero] at q3;omega
      ·have:=q1.2 0 (by omega)
       have:=hr.2.1 0 (by omega)
       rw[Nat.add_zero] at *
       omega
     rw[if_neg hne]
     rw[e1]
     simp only[if_true,e2,e3,ByteArray.size_append,bts_size,Option.some.injEq,Prod.mk.injEq,true_and,List.length_singleton]
     omega
  | alts hn hl h=>
   rename_i q p l u d
   unfold fewT at hw
   have hlt:q<l.length:=(List.getElem?_eq_some_iff.1 hl).1
   have e:=tx_alts (env:=env) (p:=p) d hl
   rw[e] at hA hF⊢
   simp only[ByteArray.size_append,bts_size,List.length_singleton] at hF
   obtain⟨a1,a2345⟩:=At.app.1 hA
   obtain⟨a2,a345⟩:=At.app.1 a2345
   obtain⟨a3,a45⟩:=At.app.1 a345
   obtain⟨a4,a5⟩:=At.app.1 a45
   simp only[bts_size,List.length_singleton] at a2 a3 a4 a5
   have c1:=((At.one (by decide)).1 a1).2
   have c3:=((At.one (by decide)).1 a3).2
   have c5:=((At.one (by decide)).1 a5).2
   obtain⟨g1,g2,g3,g4⟩:=br_of (by omega) a2 c3
   have hd:=ih d u h (fewTs_at hw.2 u (List.mem_of_getElem? hl)) _ a4 (by unfold stp;omega) (by omega)
   unfold rdT rdBranch
   rw[if_neg (by decide),if_pos ⟨c1,g2,g3,by rw[g1];exact c3⟩,g4,hl]
   simp only
   rw[g1,hd]
   simp only
   rw[if_pos c5]
   simp only[ByteArray.size_append,bts_size,Option.some.injEq,Prod.mk.injEq,true_and,List.length_singleton]
   omega
open Go.RowKit
def TdAt (env:Nat→Option PB) (s:ByteArray) (R:Nat→Option (DT×Nat)) (t:PT):Prop:=
 ∀ i d j,i≤s.size→R i=some (d,j)→Dat env d t∧At s i (txT env d t)∧j=i+(txT env d t).size
theorem rdKey_at {s:ByteArray}(hs:s.size≤9223372036854775807){keyed:Bool}{last:Option ByteArray}{i:Nat}{k:ByteArray}{j:Nat}(hi:i≤s.size) (h:rdKey s keyed last i=some (k,j)) :
 At s i (keyT keyed k)∧j=i+(keyT keyed k).size∧(keyed=true→rises last k=true∧Lets k∧k.size≤9223372036854775807):=by
 unfold rdKey at h
 unfold keyT
 cases keyed with
 | false=>
  simp only[Bool.false_eq_true,if_false,Option.some.injEq,Prod.mk.injEq] at h⊢
  obtain⟨rfl,rfl⟩:=h
  exact⟨At.nil hi,rfl,fun h=>h.elim⟩
 | true=>
  simp only[if_true] at h⊢
  split at h
  ·rename_i hb
   simp only[Option.some.injEq,Prod.mk.injEq] at h
   obtain⟨rfl,rfl⟩:=h
   have hl:letEnd s i<s.size:=bt_pos (by omega)
   have hg:=(runEnd_ge 97 122 s _ i (Nat.le_refl _)).1
   have hg':i≤letEnd s i:=hg
   have hsz:(s.extract i (letEnd s i)).size=letEnd s i-i:=by rw[ByteArray.size_extract];omega
   rw[At.app,ByteArray.size_append,bts_size,hsz]
   refine⟨⟨At.ext hg' (by omega),(At.one (by decide)).2 ⟨by omega,?_⟩⟩,?_,fun _=>⟨hb.2,fun q hq=>?_,by omega⟩⟩
   ·rw[show i+(letEnd s i-i)=letEnd s i by omega];exact hb.1
   ·simp only[List.length_singleton];omega
   ·rw[bt_ext (by omega) (by omega)]
    exact runEnd_in 97 122 s _ i (Nat.le_refl _) (i+q) (by omega) (by unfold letEnd at hsz hq;omega)
  ·simp at h
theorem rdItems_at {env:Nat→Option PB}{s:ByteArray}(hs:s.size≤9223372036854775807){R:Nat→Option (DT×Nat)}{keyed:Bool}{fin c p n:Nat}{u:PT}(hf:fin=93∨fin=125) (hR:TdAt env s R u):∀ (fuel:Nat) (last:Option ByteArray) (i q:Nat) (l:List (ByteArray×DT)) (e:Nat),i≤s.size→rdItems R s fin keyed fuel last i=some (l,e)→
 l≠[]∧(∀ x∈l,Dat env x.2 u)∧(keyed=true→Rise last (l.map Prod.fst))∧At s i (jn 0 (txTs env (.wrap c p u) n q keyed (l.map Prod.fst) (l.map Prod.snd))++bts [fin])∧e=i+(jn 0 (txTs env (.wrap c p u) n q keyed (l.map Prod.fst) (l.map Prod.snd))).size+1:=by
 intro fuel
 induction fuel with
 | zero=>intro last i q l e _ h;simp[rdItems] at h
 | succ fuel ih=>
  intro last i q l e hi h
  unfold rdItems at h
  split at h
  ·simp at h
  ·rename_i k i1 hk
   obtain⟨k1,k2,k3⟩:=rdKey_at hs hi hk
   have:=k1.1
   split at h
   ·simp at h
   ·rename_i d j hd
    obtain⟨d1,d2,d3⟩:=hR _ _ _ (by omega) hd
    have:=d2.1
    split at h
    ·rename_i hfin
     simp only[Option.some.injEq,Prod.mk.injEq] at h
     obtain⟨rfl,rfl⟩:=h
     simp only[List.map_cons,List.map_nil]
     rw[txTs_cons,txTs_nil,jn_zero,jn_one_nil,app_noB,subTy,At.app,At.app,ByteArray.size_append]
     refine⟨by simp,fun x hx=>?_,fun h=>⟨(k3 h).1,(k3 h).2.1,(k3 h).2.2,trivial⟩,⟨⟨k1,by rw[← k2];exact d2⟩,?_⟩,by omega⟩
     ·rw[List.mem_singleton] at hx;subst hx;exact d1
     ·rw[← Nat.add_assoc,← k2,← d3]
      exact(At.one (by omega)).2 ⟨bt_pos (by omega),hfin⟩
    ·split at h
     ·rename_i h44
      split at h
      ·simp at h
      ·rename_i l' e' he
       simp only[Option.some.injEq,Prod.mk.injEq] at h
       obtain⟨rfl,rfl⟩:=h
       have hj:j<s.size:=bt_pos (by omega)
       obtain⟨a1,a2,a3,a4,a5⟩:=ih (some k) (j+1) (q+1) l' e' (by omega) he
       cases l' with
       | nil=>exact absurd rfl a1
       | cons x l'=>
        simp only[List.map_cons] at a3 a4 a5⊢
        rw[txTs_cons,jn_zero,txTs_cons,jn_one,← txTs_cons,subTy]
        refine⟨by simp,fun y hy=>?_,fun h=>⟨(k3 h).1,(k3 h).2.1,(k3 h).2.2,a3 h⟩,?_,?_⟩
        ·rcases List.mem_cons.1 hy with rfl|hy
         ·exact d1
         ·exact a2 y hy
        ·rw[ByteArray.append_assoc,At.app,At.app,ByteArray.append_assoc,At.app,ByteArray.size_append]
         refine⟨⟨k1,by rw[← k2];exact d2⟩,?_,?_⟩
         ·rw[← Nat.add_assoc,← k2,← d3]
          exact(At.one (by decide)).2 ⟨hj,h44⟩
         ·rw[← Nat.add_assoc,← k2,← d3,bts_size]
          exact a4
        ·simp only[ByteArray.size_append,bts_size,List.length_singleton] at a5⊢
         omega
     ·simp at h
theorem rdFields_at {env:Nat→Option PB}{s:ByteArray}{R:PT→Nat→Option (DT×Nat)}{c p n:Nat}{T:List PT}(hT:∀ q,subTy env (.leaf c p) n q=T.getD q (.leaf 0 0)) (hR:∀ u∈T,TdAt env s (R u) u):∀ (m q i:Nat) (first:Bool) (ds:List DT) (e:Nat),T.length≤q+m→i≤s.size→rdFields R s first (T.drop q) i=some (ds,e)→
 (q≤T.length→q+ds.length=T.length)∧(∀ (k:Nat) (x:DT) (u:PT),ds[k]?=some x→T[q+k]?=some u→Dat env x u)∧At s i (jn (if first=true then 0 else 1) (txTs env (.leaf c p) n q false [] ds))∧e=i+(jn (if first=true then 0 else 1) (txTs env (.leaf c p) n q false [] ds)).size:=by
 intro m
 induction m with
 | zero=>
  intro q i first ds e hm hi h
  rw[List.drop_eq_nil_of_le (by omega)] at h
  simp only[rdFields,Option.some.injEq,Prod.mk.injEq] at h
  obtain⟨rfl,rfl⟩:=h
  have hj:jn (if first=true then 0 else 1) []=noB:=by cases first <;> simp[jn]
  rw[txTs_nil,hj]
  exact⟨fun h=>by simp;omega,fun k x u hx=>by simp at hx,At.nil hi,rfl⟩
 | succ m ih=>
  intro q i first ds e hm hi h
  by_cases hq:q<T.length
  ·have hu:T[q]?=some T[q]:=List.getElem?_eq_getElem hq
   have hsub:subTy env (.leaf c p) n q=T[q]:=by rw[hT,List.getD_eq_getElem?_getD,hu];rfl
   rw[List.drop_eq_getElem_cons hq] at h
   have main:∀ i' d j ds' e',i'≤s.size→R T[q] i'=some (d,j)→rdFields R s false (T.drop (q+1)) j=some (ds',e')→
    (q+(d::ds').length=T.length)∧(∀ (k:Nat) (x:DT) (u:PT),(d::ds')[k]?=some x→T[q+k]?=some u→Dat env x u)∧At s i' (jn 0 (txTs env (.leaf c p) n q false [] (d::ds')))∧e'=i'+(jn 0 (txTs env (.leaf c p) n q false [] (d::ds'))).size:=by
    intro i' d j ds' e' hi' hd he
    obtain⟨d1,d2,d3⟩:=hR _ (List.getElem_mem hq) _ _ _ hi' hd
    have:=d2.1
    obtain⟨a1,a2,a3,a4⟩:=ih (q+1) j false ds' e' (by omega) (by omega) he
    simp only[Bool.false_eq_true,if_false] at a3 a4
    have ex:txTs env (.leaf c p) n q false [] (d::ds')=txT env d T[q]::txTs env (.leaf c p) n (q+1) false [] ds':=by
     rw[txTs_false _ _ _ _ _ [] [noB],txTs_cons,hsub]
     simp[keyT,noB_app]
    rw[ex,jn_zero,At.app,ByteArray.size_append]
    refine⟨by have:=a1 (by omega);simp only[List.length_cons];omega,fun k x u hx hu'=>?_,⟨d2,by rw[← d3];exact a3⟩,by omega⟩
    cases k with
    | zero=>
     simp only[List.getElem?_cons_zero,Option.some.injEq] at hx
     subst hx
     rw[Nat.add_zero,hu] at hu'
     cases hu'
     exact d1
    | succ k=>exact a2 k x u (by simpa using hx) (by rw[show q+1+k=q+(k+1) by omega];exact hu')
   unfold rdFields at h
   cases first with
   | true=>
    simp only[if_true] at h⊢
    split at h
    ·simp at h
    ·rename_i d j hd
     split at h
     ·simp at h
     ·rename_i ds' e' he
      simp only[Option.some.injEq,Prod.mk.injEq] at h
      obtain⟨rfl,rfl⟩:=h
      obtain⟨b1,b2,b3,b4⟩:=main i d j ds' _ hi hd he
      exact⟨fun _=>b1,b2,b3,b4⟩
   | false=>
    simp only[Bool.false_eq_true,if_false] at h⊢
    split at h
    ·rename_i h44
     have hl:i<s.size:=bt_pos (by omega)
     split at h
     ·simp at h
     ·rename_i d j hd
      split at h
      ·simp at h
      ·rename_i ds' e' he
       simp only[Option.some.injEq,Prod.mk.injEq] at h
       obtain⟨rfl,rfl⟩:=h
       obtain⟨b1,b2,b3,b4⟩:=main (i+1) d j ds' _ (by omega) hd he
       have ex:txTs env (.leaf c p) n q false [] (d::ds')=(keyT false noB++txT env d (subTy env (.leaf c p) n q))::txTs env (.leaf c p) n (q+1) false [] ds':=by rw[txTs_false _ _ _ _ _ [] [noB],txTs_cons]
       rw[ex] at b3 b4⊢
       rw[jn_one,At.app,ByteArray.size_append,bts_size]
       exact⟨fun _=>b1,b2,⟨(At.one (by decide)).2 ⟨hl,h44⟩,b3⟩,by simp only[List.length_singleton];omega⟩
    ·simp at h
  ·rw[List.drop_eq_nil_of_le (by omega)] at h
   simp only[rdFields,Option.some.injEq,Prod.mk.injEq] at h
   obtain⟨rfl,rfl⟩:=h
   have hj:jn (if first=true then 0 else 1) []=noB:=by cases first <;> simp[jn]
   rw[txTs_nil,hj]
   exact⟨fun h=>by simp;omega,fun k x u hx=>by simp at hx,At.nil hi,rfl⟩
theorem letX {s:ByteArray}{i:Nat}(hi:i≤s.size):At s i (s.extract i (letEnd s i))∧(s.extract i (letEnd s i)).size=letEnd s i-i∧i≤letEnd s i∧Lets (s.extract i (letEnd s i)):=by
 have hg:=(runEnd_ge 97 122 s _ i (Nat.le_refl _))
 have hg1:i≤letEnd s i:=hg.1
 have hg2:letEnd s i≤s.size:=hg.2 hi
 have hsz:(s.extract i (letEnd s i)).size=letEnd s i-i:=by rw[ByteArray.size_extract];omega
 refine⟨At.ext hg1 hg2,hsz,hg1,fun q hq=>?_⟩
 rw[bt_ext (by omega) (by omega)]
 exact runEnd_in 97 122 s _ i (Nat.le_refl _) (i+q) (by omega) (by unfold letEnd at hsz hq;omega)
theorem rdT_at {env:Nat→Option PB}(hE:okEnv env){s:ByteArray}(hs:s.size≤9223372036854775807):∀ (f:Nat) (t:PT),okT env t→TdAt env s (rdT s env false f t) t:=by
 intro f
 induction f with
 | zero=>intro t _ i d j _ h;simp[rdT] at h
 | succ f ih=>
  intro t ht i d j hi h
  cases t with
  | leaf c p=>
   unfold rdT rdLeaf at h
   split at h
   ·rename_i hc
    subst hc
    split at h
    ·rename_i hb
     simp only[Option.some.injEq,Prod.mk.injEq] at h
     obtain⟨rfl,rfl⟩:=h
     rw[tx_null,bts_size]
     exact⟨.null,(At.one (by decide)).2 ⟨bt_pos (by omega),hb⟩,rfl⟩
    ·simp at h
   ·split at h
    ·rename_i hc
     subst hc
     split at h
     ·rename_i hb
      simp only[Option.some.injEq,Prod.mk.injEq] at h
      obtain⟨rfl,rfl⟩:=h
      have e:=tx_bool (env:=env) p 1
      rw[if_pos rfl] at e
      refine⟨Dat.bool (n:=1) (by decide),?_⟩
      rw[show((1:Nat):Int)=1 from rfl] at e
      rw[e,bts_size]
      exact⟨(At.one (by decide)).2 ⟨bt_pos (by omega),hb⟩,rfl⟩
     ·split at h
      ·rename_i hb
       simp only[Option.some.injEq,Prod.mk.injEq] at h
       obtain⟨rfl,rfl⟩:=h
       have e:=tx_bool (env:=env) p 0
       rw[if_neg (by decide)] at e
       refine⟨Dat.bool (n:=0) (by decide),?_⟩
       rw[show((0:Nat):Int)=0 from rfl] at e
       rw[e,bts_size]
       exact⟨(At.one (by decide)).2 ⟨bt_pos (by omega),hb⟩,rfl⟩
      ·simp at h
    ·split at h
     ·rename_i hc
      split at h
      ·simp at h
      ·rename_i n j' hn
       simp only[Option.some.injEq,Prod.mk.injEq] at h
       obtain⟨rfl,rfl⟩:=h
       obtain⟨a1,a2,a3,a4⟩:=rdNum_at hc hn
       rcases hc with rfl|rfl
       ·rw[tx_num];exact⟨.num a1 a2,a3,a4⟩
       ·rw[tx_long];exact⟨.long a1 a2,a3,a4⟩
     ·split at h
      ·rename_i hc
       subst hc
       split at h
       ·rename_i hb
        simp only[Option.some.injEq,Prod.mk.injEq] at h
        obtain⟨rfl,rfl⟩:=h
        have h1:i<s.size:=bt_pos (by omega)
        have h2:letEnd s (i+1)<s.size:=bt_pos (by omega)
        obtain⟨x1,x2,x3,x4⟩:=letX (s:=s) (i:=i+1) (by omega)
        rw[tx_text,At.app,At.app]
        simp only[ByteArray.size_append,bts_size,List.length_singleton,x2]
        refine⟨.text x4 (by omega),⟨(At.one (by decide)).2 ⟨h1,hb.1⟩,x1,(At.one (by decide)).2 ⟨by omega,?_⟩⟩,by omega⟩
        rw[show i+1+(letEnd s (i+1)-(i+1))=letEnd s (i+1) by omega]
        exact hb.2
       ·simp at h
      ·rename_i h1 h2 h3 h4
       have hb:isBase c=false:=by
        simp[isBase,h1,h2,h4]
        omega
       split at h
       ·simp at h
       ·rename_i pb he
        have hok:=hE c pb he
        unfold rdNamed at h
        split at h
        ·rename_i fs
         split at h
         ·rename_i h40
          have hl:i<s.size:=bt_pos (by omega)
          split at h
          ·simp at h
          ·rename_i ds j' hd
           split at h
           ·rename_i h41
            simp only[Option.some.injEq,Prod.mk.injEq] at h
            obtain⟨rfl,rfl⟩:=h
            obtain⟨a1,a2,a3,a4⟩:=rdFields_at (env:=env) (s:=s) (R:=rdT s env false f) (c:=c) (p:=p) (n:=0) (T:=fs.map PF.ty) (fun q=>by simp only[subTy,he]) (fun u hu=>by
             obtain⟨g,hg,rfl⟩:=List.mem_map.1 hu
             exact ih g.ty (hok g hg)) (fs.map PF.ty).length 0 (i+1) true ds j' (by omega) (by omega) (by simpa using hd)
            simp only[if_true] at a3 a4
            have:=a1 (by omega)
            rw[tx_recd,At.app,At.app]
            simp only[ByteArray.size_append,bts_size,List.length_singleton]
            refine⟨.recd he hb (by simpa using this) (fun k x u hx hu=>a2 k x u hx (by rw[Nat.zero_add];exact hu)),⟨(At.one (by decide)).2 ⟨hl,h40⟩,a3,?_⟩,by omega⟩
            rw[← a4]
            exact(At.one (by decide)).2 ⟨bt_pos (by omega),h41⟩
           ·simp at h
         ·simp at h
        ·rename_i l o
         split at h
         ·rename_i hlt
          split at h
          ·simp at h
          ·rename_i q hq
           simp only[Option.some.injEq,Prod.mk.injEq] at h
           obtain⟨rfl,rfl⟩:=h
           obtain⟨hq1,hq2,_⟩:=List.findIdx?_eq_some_iff_getElem.1 hq
           simp only[beq_iff_eq] at hq2
           have hx:(l.map Prod.fst)[q]?=some (bt s i):=by rw[List.getElem?_eq_getElem hq1,hq2]
           rw[tx_sym he hx,bts_size]
           exact⟨.sym he hb (by simpa using hq1),(At.one (bt_lt s i)).2 ⟨hlt,rfl⟩,rfl⟩
         ·simp at h
        ·rename_i n
         split at h
         ·rename_i hc
          simp only[Option.some.injEq,Prod.mk.injEq] at h
          obtain⟨rfl,rfl⟩:=h
          have h1':i<s.size:=bt_pos (by omega)
          have h2':letEnd s (i+1)<s.size:=bt_pos (by omega)
          obtain⟨x1,x2,x3,x4⟩:=letX (s:=s) (i:=i+1) (by omega)
          rw[tx_bytes,At.app,At.app]
          refine⟨.bytes (by rw[x2,hc.2.1];exact he) hb x4,?_⟩
          simp only[ByteArray.size_append,bts_size,List.length_singleton,x2]
          refine⟨⟨(At.one (by decide)).2 ⟨h1',hc.1⟩,x1,(At.one (by decide)).2 ⟨by omega,?_⟩⟩,by omega⟩
          rw[show i+1+(letEnd s (i+1)-(i+1))=letEnd s (i+1) by omega]
          exact hc.2.2
         ·simp at h
  | wrap c p u=>
   unfold okT at ht
   unfold rdT rdWrap at h
   split at h
   ·rename_i hc
    have hl:i<s.size:=bt_pos (by omega)
    split at h
    ·simp at h
    ·rename_i l j' hL
     simp only[Option.some.injEq,Prod.mk.injEq] at h
     obtain⟨rfl,rfl⟩:=h
     have key:∀ (fin:Nat) (keyed:Bool),closing c=fin→(c==123)=keyed→(fin=93∨fin=125)→
      (∀ x∈l,Dat env x.2 u)∧(keyed=true→Rise none (l.map Prod.fst))∧At s (i+1) (jn 0 (txTs env (.wrap c p u) 0 0 keyed (l.map Prod.fst) (l.map Prod.snd))++bts [fin])∧j'=i+1+(jn 0 (txTs env (.wrap c p u) 0 0 keyed (l.map Prod.fst) (l.map Prod.snd))).size+1:=by
      intro fin keyed h1 h2 h3
      rw[h1,h2] at hL
      unfold rdList at hL
      split at hL
      ·rename_i hfin
       simp only[Option.some.injEq,Prod.mk.injEq] at hL
       obtain⟨rfl,rfl⟩:=hL
       simp only[List.map_nil,txTs_nil,show jn 0 []=noB by rw[jn],noB_app,noB_size]
       exact⟨fun x hx=>(by cases hx),fun _=>trivial,(At.one (by omega)).2 ⟨bt_pos (by omega),hfin⟩,trivial⟩
      ·obtain⟨_,a2,a3,a4,a5⟩:=rdItems_at (c:=c) (p:=p) (n:=0) hs h3 (ih u ht.2) _ _ _ 0 _ _ (by omega) hL
       exact⟨a2,a3,a4,a5⟩
     rcases ht.1 with rfl|rfl
     ·obtain⟨b1,b2,b3,b4⟩:=key 93 false rfl rfl (.inl rfl)
      simp only[show((91:Nat)==123)=false from rfl,Bool.false_eq_true,if_false]
      have hlen:(l.map Prod.snd).length≤9223372036854775807:=by
       have h1:=(jn_len (txTs env (.wrap 91 p u) 0 0 false (l.map Prod.fst) (l.map Prod.snd)) 0).1
       rw[txTs_len] at h1
       have h2:=b3.1
       rw[ByteArray.size_append] at h2
       omega
      rw[tx_list p u (l.map Prod.fst),At.app]
      refine⟨.list hlen (fun d hd=>?_),⟨(At.one (by decide)).2 ⟨hl,hc⟩,by rw[bts_size];exact b3⟩,?_⟩
      ·obtain⟨x,hx,rfl⟩:=List.mem_map.1 hd
       exact b1 x hx
      ·simp only[ByteArray.size_append,bts_size,List.length_singleton]
       omega
     ·obtain⟨b1,b2,b3,b4⟩:=key 125 true rfl rfl (.inr rfl)
      simp only[show((123:Nat)==123)=true from rfl,if_true]
      have hlen:(l.map Prod.snd).length≤9223372036854775807:=by
       have h1:=(jn_len (txTs env (.wrap 123 p u) 0 0 true (l.map Prod.fst) (l.map Prod.snd)) 0).1
       rw[txTs_len] at h1
       have h2:=b3.1
       rw[ByteArray.size_append] at h2
       omega
      rw[tx_map p u (l.map Prod.fst),At.app]
      refine⟨.map hlen (by simp) (b2 rfl) (fun d hd=>?_),⟨(At.one (by decide)).2 ⟨hl,hc⟩,by rw[bts_size];exact b3⟩,?_⟩
      ·obtain⟨x,hx,rfl⟩:=List.mem_map.1 hd
       exact b1 x hx
      ·simp only[ByteArray.size_append,bts_size,List.length_singleton]
       omega
   ·simp at h
  | alts p ts=>
   unfold okT at ht
   unfold rdT rdBranch at h
   rw[if_neg (by decide)] at h
   split at h
   ·rename_i hc
    obtain⟨c1,c2,c3,c4⟩:=hc
    have hl:i<s.size:=bt_pos (by omega)
    have hbe:brEnd s (i+1)<s.size:=bt_pos (by omega)
    have hg:=(runEnd_ge 48 57 s _ (i+1) (Nat.le_refl _)).1
    have hge:i+1≤brEnd s (i+1):=by unfold brEnd;omega
    have hrun:decB ((dv (s.extract (i+1) (brEnd s (i+1))).data.toList:Nat):Int)=s.extract (i+1) (brEnd s (i+1)):=
     run_of (by omega) (by omega) (fun k k1 k2=>runEnd_in 48 57 s _ (i+1) (Nat.le_refl _) k k1 (by unfold brEnd at k2;omega)) (fun hh=>c3 ⟨hh.1,by omega⟩)
    have hnum:brNum s (i+1) (brEnd s (i+1)-(i+1))=dv (s.extract (i+1) (brEnd s (i+1))).data.toList:=by
     rw[brNum_dv _ (by omega),show i+1+(brEnd s (i+1)-(i+1))=brEnd s (i+1) by omega]
    have hsz:(s.extract (i+1) (brEnd s (i+1))).size=brEnd s (i+1)-(i+1):=by rw[ByteArray.size_extract];omega
    rw[hnum] at h
    generalize dv (s.extract (i+1) (brEnd s (i+1))).data.toList=q at h hrun
    split at h
    ·simp at h
    ·rename_i u hu
     split at h
     ·simp at h
     ·rename_i d' j' hd
      split at h
      ·rename_i h62
       simp only[Option.some.injEq,Prod.mk.injEq] at h
       obtain⟨rfl,rfl⟩:=h
       obtain⟨b1,b2,b3⟩:=ih u (okTs_at ht.2 u (List.mem_of_getElem? hu)).2 _ _ _ (by omega) hd
       have hj:j'<s.size:=bt_pos (by omega)
       have hq:q≤9223372036854775807:=by
        have:(decB (q:Int)).size≤3:=by rw[hrun,hsz];unfold brEnd;omega
        obtain⟨f1,f2,_⟩:=dec_facts _ q (Nat.le_refl _)
        have h1:=dv_lt f1
        rw[f2,← decB_nat,← size_list] at h1
        have h2:10 ^ (decB (q:Int)).size≤10 ^ 3:=Nat.pow_le_pow_right (by decide) this
        omega
       rw[tx_alts d' hu,hrun]
       simp only[At.app,ByteArray.size_append,bts_size,List.length_singleton,hsz]
       refine⟨.alts hq hu b1,⟨(At.one (by decide)).2 ⟨hl,c1⟩,At.ext hge (by omega),?_,?_,?_⟩,by omega⟩
       ·rw[show i+1+(brEnd s (i+1)-(i+1))=brEnd s (i+1) by omega]
        exact(At.one (by decide)).2 ⟨hbe,c4⟩
       ·rw[show i+1+(brEnd s (i+1)-(i+1))+1=brEnd s (i+1)+1 by omega]
        exact b2
       ·rw[show i+1+(brEnd s (i+1)-(i+1))+1+(txT env d' u).size=j' by omega]
        exact(At.one (by decide)).2 ⟨hj,h62⟩
      ·simp at h
   ·simp at h
end Go.Proofs.YtiifagiebikmdaaGreatDoor
