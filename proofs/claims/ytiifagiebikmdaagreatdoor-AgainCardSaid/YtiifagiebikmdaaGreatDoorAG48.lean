import Derived.Test.YtiifagiebikmdaaGreatDoorAG47
import Derived.Test.YtiifagiebikmdaaGreatDoorAG46
import Derived.Test.YtiifagiebikmdaaGreatDoorAG45
namespace Go.Proofs.YtiifagiebikmdaaGreatDoor
open Go.RowKit
def stp (s:ByteArray) (j:Nat):Prop:=¬ (48≤bt s j∧bt s j≤57)
theorem jn_succ:∀ (l:List ByteArray) (i:Nat),jn (i+1) l=jn 1 l
 | [],_=>by simp[jn]
 | a::r,i=>by
  simp only[jn]
  rw[jn_succ r (i+1),jn_succ r 1,if_neg (by omega),if_neg (by omega)]
theorem jn_zero (x:ByteArray) (l:List ByteArray):jn 0 (x::l)=x++jn 1 l:=by
 rw[jn,if_pos rfl,noB_app]
theorem jn_one (x:ByteArray) (l:List ByteArray):jn 1 (x::l)=bts [44]++jn 0 (x::l):=by
 rw[jn_zero,jn,if_neg (by decide),jn_succ]
theorem jn_one_nil:jn 1 []=noB:=by rw[jn]
def keyT (keyed:Bool) (k:ByteArray):ByteArray:=if keyed=true then k++bts [58] else noB
theorem txTs_cons (env:Nat→Option PB) (t:PT) (n i:Nat) (keyed:Bool) (k:ByteArray) (ks:List ByteArray) (d:DT) (ds:List DT) :
 txTs env t n i keyed (k::ks) (d::ds)=(keyT keyed k++txT env d (subTy env t n i))::txTs env t n (i+1) keyed ks ds:=by
 rw[txTs];rfl
theorem txTs_nil (env:Nat→Option PB) (t:PT) (n i:Nat) (keyed:Bool) (ks:List ByteArray):txTs env t n i keyed ks []=[]:=by rw[txTs]
theorem txTs_false (env:Nat→Option PB) (t:PT) (n:Nat):∀ (ds:List DT) (i:Nat) (ks ks':List ByteArray),txTs env t n i false ks ds=txTs env t n i false ks' ds
 | [],_,_,_=>by rw[txTs_nil,txTs_nil]
 | d::r,i,ks,ks'=>by
  rw[txTs,txTs,txTs_false env t n r (i+1) ks.tail ks'.tail]
  simp
theorem rdKey_of {s:ByteArray}{keyed:Bool}{last:Option ByteArray}{i:Nat}{k:ByteArray}(h:At s i (keyT keyed k)) (hk:keyed=true→rises last k=true∧Lets k) :
 rdKey s keyed last i=some (if keyed=true then k else noB,i+(keyT keyed k).size):=by
 unfold rdKey
 unfold keyT at h⊢
 cases keyed with
 | false=>simp only[Bool.false_eq_true,if_false];rfl
 | true=>
  simp only[if_true] at h⊢
  obtain⟨a,b⟩:=hk rfl
  obtain⟨h1,h2⟩:=At.app.1 h
  obtain⟨h3,h4⟩:=(At.one (by decide)).1 h2
  have hE:letEnd s i=i+k.size:=by rw[letEnd_run h1 b];exact runEnd_off (by omega)
  have hX:s.extract i (i+k.size)=k:=(At.ext (by omega) h1.1).eq h1 (by rw[ByteArray.size_extract];have:=h1.1;omega)
  rw[hE,hX,if_pos ⟨h4,a⟩,ByteArray.size_append,bts_size]
  rfl
def RdsT (env:Nat→Option PB) (s:ByteArray) (F:Nat) (R:Nat→Option (DT×Nat)) (u:PT) (d:DT):Prop:=
 ∀ i,At s i (txT env d u)→stp s (i+(txT env d u).size)→(txT env d u).size<F→R i=some (d,i+(txT env d u).size)
theorem rdItems_of {env:Nat→Option PB}{s:ByteArray}{R:Nat→Option (DT×Nat)}{keyed:Bool}{fin F c p n:Nat}{u:PT}(hf:fin=93∨fin=125):∀ (ds:List DT) (d:DT) (k:ByteArray) (ks:List ByteArray) (last:Option ByteArray) (i q fuel:Nat),ks.length=ds.length→(keyed=true→Rise last (k::ks))→
 (∀ e∈d::ds,RdsT env s F R u e)→At s i (jn 0 (txTs env (.wrap c p u) n q keyed (k::ks) (d::ds))++bts [fin])→(jn 0 (txTs env (.wrap c p u) n q keyed (k::ks) (d::ds))).size<F→ds.length<fuel→
 ∃ l,rdItems R s fin keyed fuel last i=some (l,i+(jn 0 (txTs env (.wrap c p u) n q keyed (k::ks) (d::ds))).size+1)∧l.map Prod.snd=d::ds∧(keyed=true→l.map Prod.fst=k::ks):=by
 intro ds
 induction ds with
 | nil=>
  intro d k ks last i q fuel hl hr hR hA hF hfu
  obtain rfl:ks=[]:=List.eq_nil_of_length_eq_zero (by simpa using hl)
  obtain⟨fuel,rfl⟩:∃ m,fuel=m+1:=⟨fuel-1,by simp at hfu;omega⟩
  rw[txTs_cons,txTs_nil,jn_zero,jn_one_nil,app_noB,subTy] at hA hF⊢
  rw[ByteArray.size_append] at hF
  obtain⟨h12,h3⟩:=At.app.1 hA
  obtain⟨h1,h2⟩:=At.app.1 h12
  obtain⟨h4,h5⟩:=(At.one (by omega)).1 h3
  rw[ByteArray.size_append,← Nat.add_assoc] at h5
  have hd:=hR d (List.mem_cons_self ..) _ h2 (by unfold stp;omega) (by omega)
  refine⟨[(if keyed=true then k else noB,d)],?_,rfl,fun hk=>by subst hk;rfl⟩
  unfold rdItems
  rw[rdKey_of h1 (fun hk=>⟨(hr hk).1,(hr hk).2.1⟩)]
  simp only
  rw[hd]
  simp only
  rw[if_pos h5,ByteArray.size_append,Nat.add_assoc i]
 | cons d2 ds ih=>
  intro d k ks last i q fuel hl hr hR hA hF hfu
  cases ks with
  | nil=>simp at hl
  | cons k2 ks=>
   obtain⟨fuel,rfl⟩:∃ m,fuel=m+1:=⟨fuel-1,by omega⟩
   rw[txTs_cons,jn_zero,txTs_cons,jn_one,← txTs_cons,subTy] at hA hF⊢
   rw[ByteArray.size_append,ByteArray.size_append,ByteArray.size_append,bts_size] at hF
   rw[ByteArray.append_assoc] at hA
   obtain⟨h12,h34⟩:=At.app.1 hA
   rw[ByteArray.append_assoc] at h34
   obtain⟨h1,h2⟩:=At.app.1 h12
   obtain⟨h3,h4⟩:=At.app.1 h34
   obtain⟨h5,h6⟩:=(At.one (by omega)).1 h3
   rw[ByteArray.size_append,← Nat.add_assoc] at h6 h4
   rw[bts_size] at h4
   have hd:=hR d (List.mem_cons_self ..) _ h2 (by unfold stp;omega) (by omega)
   have e1:[44].length=1:=rfl
   rw[e1] at h4 hF
   obtain⟨l,e2,e3,e4⟩:=ih d2 k2 ks (some (if keyed=true then k else noB)) _ (q+1) fuel (by simpa using hl) (fun hk=>by subst hk;exact(hr rfl).2.2.2) (fun e he=>hR e (List.mem_cons_of_mem _ he)) h4 (by omega) (by simp at hfu;omega)
   refine⟨(if keyed=true then k else noB,d)::l,?_,by simp[e3],fun hk=>by subst hk;simp[e4]⟩
   unfold rdItems
   rw[rdKey_of h1 (fun hk=>⟨(hr hk).1,(hr hk).2.1⟩)]
   simp only
   rw[hd]
   simp only
   rw[if_neg (by omega),if_pos h6,e2]
   simp only[Option.some.injEq,Prod.mk.injEq,true_and,ByteArray.size_append,bts_size,e1]
   omega
theorem rdFields_of {env:Nat→Option PB}{s:ByteArray}{R:PT→Nat→Option (DT×Nat)}{F c p n:Nat}{T:List PT}(hT:∀ q,subTy env (.leaf c p) n q=T.getD q (.leaf 0 0)):∀ (ds:List DT) (q i:Nat) (first:Bool),q+ds.length=T.length→
 (∀ (k:Nat) (e:DT) (u:PT),ds[k]?=some e→T[q+k]?=some u→RdsT env s F (R u) u e)→At s i (jn (if first=true then 0 else 1) (txTs env (.leaf c p) n q false [] ds))→stp s (i+(jn (if first=true then 0 else 1) (txTs env (.leaf c p) n q false [] ds)).size)→(jn (if first=true then 0 else 1) (txTs env (.leaf c p) n q false [] ds)).size<F→
 rdFields R s first (T.drop q) i=some (ds,i+(jn (if first=true then 0 else 1) (txTs env (.leaf c p) n q false [] ds)).size):=by
 intro ds
 induction ds with
 | nil=>
  intro q i first hl hR hA hs hF
  rw[List.drop_eq_nil_of_le (by simp at hl;omega),txTs_nil]
  unfold rdFields
  have:jn (if first=true then 0 else 1) []=noB:=by cases first <;> simp[jn]
  rw[this]
  rfl
 | cons d ds ih=>
  intro q i first hl hR hA hs hF
  have hq:q<T.length:=by simp at hl;omega
  have hu:T[q]?=some T[q]:=List.getElem?_eq_getElem hq
  have hsub:subTy env (.leaf c p) n q=T[q]:=by rw[hT,List.getD_eq_getElem?_getD,hu];rfl
  have ex:txTs env (.leaf c p) n q false [] (d::ds)=txT env d T[q]::txTs env (.leaf c p) n (q+1) false [] ds:=by
   rw[txTs_false _ _ _ _ _ [] [noB],txTs_cons,hsub]
   simp[keyT,noB_app]
  rw[ex] at hA hs hF⊢
  rw[List.drop_eq_getElem_cons hq]
  have rest:∀ i',At s i' (jn 0 (txT env d T[q]::txTs env (.leaf c p) n (q+1) false [] ds))→stp s (i'+(jn 0 (txT env d T[q]::txTs env (.leaf c p) n (q+1) false [] ds)).size)→(jn 0 (txT env d T[q]::txTs env (.leaf c p) n (q+1) false [] ds)).size<F→
   R T[q] i'=some (d,i'+(txT env d T[q]).size)∧rdFields R s false (T.drop (q+1)) (i'+(txT env d T[q]).size)=some (ds,i'+(jn 0 (txT env d T[q]::txTs env (.leaf c p) n (q+1) false [] ds)).size):=by
   intro i' hA hs hF
   rw[jn_zero,ByteArray.size_append] at hs hF
   rw[jn_zero] at hA
   obtain⟨h1,h2⟩:=At.app.1 hA
   have hst:stp s (i'+(txT env d T[q]).size):=by
    cases ds with
    | nil=>
     rw[txTs_nil,jn_one_nil,noB_size] at hs
     rw[← Nat.add_assoc,Nat.add_zero] at hs
     exact hs
    | cons d2 ds=>
     rw[txTs_false _ _ _ _ _ [] [noB],txTs_cons,jn_one] at h2
     have:=((At.one (by decide)).1 (At.app.1 h2).1).2
     unfold stp
     omega
   have h3:=hR 0 d T[q] rfl hu i' h1 hst (by omega)
   have h4:=ih (q+1) (i'+(txT env d T[q]).size) false (by simp at hl;omega) (fun k e u he hu'=>hR (k+1) e u (by simpa using he) (by rw[show q+(k+1)=q+1+k by omega];exact hu')) (by simpa using h2) (by simpa[Nat.add_assoc] using hs) (by simp;omega)
   refine⟨h3,?_⟩
   rw[h4,jn_zero,ByteArray.size_append]
   simp[Nat.add_assoc]
  cases first with
  | true=>
   simp only[if_true] at hA hs hF⊢
   obtain⟨h3,h4⟩:=rest i hA hs hF
   unfold rdFields
   rw[if_pos rfl,h3]
   simp only
   rw[h4]
  | false=>
   simp only[Bool.false_eq_true,if_false] at hA hs hF⊢
   rw[jn_one] at hA hs hF⊢
   rw[ByteArray.size_append,bts_size] at hs hF
   have e1:[44].length=1:=rfl
   rw[e1] at hs hF
   obtain⟨h1,h2⟩:=At.app.1 hA
   rw[bts_size,e1] at h2
   obtain⟨h3,h4⟩:=rest (i+1) h2 (by rw[Nat.add_assoc];exact hs) (by omega)
   unfold rdFields
   rw[if_neg (by decide),if_pos ((At.one (by decide)).1 h1).2,h3]
   simp only
   rw[h4,ByteArray.size_append,bts_size,e1,Nat.add_assoc]
theorem jn_len:∀ (l:List ByteArray) (i:Nat),l.length≤(jn i l).size+1∧(i≠0→l.length≤(jn i l).size)
 | [],i=>by simp
 | a::r,i=>by
  have h:=(jn_len r (i+1)).2 (by omega)
  rw[jn]
  simp only[ByteArray.size_append,List.length_cons]
  refine⟨by omega,fun hi=>?_⟩
  rw[if_neg hi,bts_size]
  simp only[List.length_singleton]
  omega
theorem br_of {s:ByteArray}{i q:Nat}(hq:q<1000) (hA:At s i (decB (q:Int))) (h58:bt s (i+(decB (q:Int)).size)=58) :
 brEnd s i=i+(decB (q:Int)).size∧brEnd s i≠i∧¬ (bt s i=48∧brEnd s i-i > 1)∧brNum s i (brEnd s i-i)=q:=by
 obtain⟨r1,r2,r3,r4,r5⟩:=run_dec hA (by omega)
 obtain⟨f1,f2,c,r,f3,f4,f5⟩:=dec_facts _ q (Nat.le_refl _)
 have hsz:(decB (q:Int)).size=r.length+1:=by rw[size_list,decB_nat,f3];rfl
 have h3:(decB (q:Int)).size≤3:=by
  by_cases h0:q=0
  ·rw[(f4 h0).1] at hsz;rw[hsz];decide
  ·have h1:=dv_ge (r:=r) (f5 h0)
   rw[← f3,f2] at h1
   have:r.length<3:=(Nat.pow_lt_pow_iff_right (show 1<10 by decide)).1 (Nat.lt_of_le_of_lt h1 (by omega))
   omega
 have hE:brEnd s i=i+(decB (q:Int)).size:=by unfold brEnd;rw[r1];omega
 refine⟨hE,by omega,?_,?_⟩
 ·rintro⟨h1,h2⟩
  have h0:=dec_zero (r5▸h1)
  subst h0
  rw[hE,dec_zero_size] at h2
  omega
 ·rw[hE,Nat.add_sub_cancel_left,brNum_dv _ hA.1,r2,decB_nat,f2]
section
variable {env:Nat→Option PB}
theorem tx_null (p:Nat):txT env (.mk 110 0 noB [] []) (.leaf 110 p)=bts [78]:=by simp[txT]
theorem tx_bool (p q:Nat):txT env (.mk 116 (q:Int) noB [] []) (.leaf 116 p)=if q=1 then bts [84] else bts [70]:=by
 rw[txT]
 simp only[show ¬ ((116:Nat)=110) by decide,if_false,if_true]
 by_cases h:q=1
 ·rw[if_pos h,if_pos (by omega)]
 ·rw[if_neg h,if_neg (by omega)]
theorem tx_num (p:Nat) (q:Int):txT env (.mk 105 q noB [] []) (.leaf 105 p)=decB q:=by simp[txT]
theorem tx_long (p:Nat) (q:Int):txT env (.mk 108 q noB [] []) (.leaf 108 p)=decB q:=by simp[txT]
theorem tx_text (p:Nat) (x:ByteArray):txT env (.mk 115 0 x [] []) (.leaf 115 p)=bts [34]++(x++bts [34]):=by simp[txT]
theorem tx_bytes (c p:Nat) (x:ByteArray):txT env (.mk 102 0 x [] []) (.leaf c p)=bts [39]++(x++bts [39]):=by simp[txT]
theorem tx_sym {c p q:Nat}{l:List (Nat×Nat)}{o:Option (Nat×Nat)}{x:Nat}(he:env c=some (.enum l o)) (hx:(l.map Prod.fst)[q]?=some x):txT env (.mk 101 (q:Int) noB [] []) (.leaf c p)=bts [x]:=by
 rw[txT]
 simp only[Int.toNat_natCast,symL,he,List.getD_eq_getElem?_getD,hx]
 simp
theorem tx_recd (c p:Nat) (ds:List DT):txT env (.mk 114 0 noB [] ds) (.leaf c p)=bts [40]++(jn 0 (txTs env (.leaf c p) 0 0 false [] ds)++bts [41]):=by
 rw[txT]
 simp[aroundB]
theorem tx_list (p:Nat) (u:PT) (ks:List ByteArray) (ds:List DT):txT env (.mk 91 0 noB [] ds) (.wrap 91 p u)=bts [91]++(jn 0 (txTs env (.wrap 91 p u) 0 0 false ks ds)++bts [93]):=by
 rw[txTs_false env (.wrap 91 p u) 0 ds 0 ks [],txT]
 simp[aroundB]
theorem tx_map (p:Nat) (u:PT) (ks:List ByteArray) (ds:List DT):txT env (.mk 123 0 noB ks ds) (.wrap 123 p u)=bts [123]++(jn 0 (txTs env (.wrap 123 p u) 0 0 true ks ds)++bts [125]):=by
 rw[txT]
 simp[aroundB]
theorem tx_alts {p q:Nat}{l:List PT}{u:PT}(d:DT) (hl:l[q]?=some u):txT env (.mk 40 (q:Int) noB [] [d]) (.alts p l)=bts [60]++(decB q++(bts [58]++(txT env d u++bts [62]))):=by
 have hsub:subTy env (.alts p l) q 0=u:=by simp only[subTy,List.getD_eq_getElem?_getD,hl];rfl
 rw[txT]
 simp only[Int.toNat_natCast]
 rw[txTs_false _ _ _ _ _ [] [noB],txTs_cons,txTs_nil,jn_zero,jn_one_nil,app_noB,hsub]
 simp[keyT,noB_app]
end
def symE (env:Nat→Option PB):Prop:=∀ c l o,env c=some (.enum l o)→(l.map Prod.fst).Nodup∧∀ x∈l.map Prod.fst,97≤x∧x≤122
theorem dec_first {s:ByteArray}{i:Nat}{n:Int}(h:At s i (decB n)):bt s i=45∨(48≤bt s i∧bt s i≤57):=by
 by_cases hn:n<0
 ·obtain⟨u,hu,rfl⟩:∃ u:Nat,1≤u∧n = -(u:Int):=⟨n.natAbs,by omega,by omega⟩
  rw[decB_min u hu] at h
  exact .inl ((At.one (by decide)).1 (At.app.1 h).1).2
 ·obtain⟨u,rfl⟩:∃ u:Nat,n=(u:Int):=⟨n.toNat,by omega⟩
  obtain⟨f1,f2,c,r,f3,f4,f5⟩:=dec_facts _ u (Nat.le_refl _)
  have hd:digs (decB (u:Int)).data.toList:=by rw[decB_nat];exact f1
  have hp:0<(decB (u:Int)).size:=by rw[size_list,decB_nat,f3];simp
  have h0:=h.2 0 hp
  rw[Nat.add_zero] at h0
  rw[h0]
  exact .inr (digs_bt hd hp)
theorem dat_first {env:Nat→Option PB}(hS:symE env){s:ByteArray}{i:Nat}{d:DT}{t:PT}(hd:Dat env d t) (hA:At s i (txT env d t)):bt s i≠93∧bt s i≠125∧bt s i≠41:=by
 have one:∀ {c:Nat} {b:ByteArray},c<256→At s i (bts [c]++b)→bt s i=c:=fun hc h=>((At.one hc).1 (At.app.1 h).1).2
 cases hd with
 | null=>rw[tx_null] at hA;have:=((At.one (by decide)).1 hA).2;omega
 | bool hb=>
  rw[tx_bool] at hA
  split at hA
  ·have:=((At.one (by decide)).1 hA).2;omega
  ·have:=((At.one (by decide)).1 hA).2;omega
 | num=>rw[tx_num] at hA;have:=dec_first hA;omega
 | long=>rw[tx_long] at hA;have:=dec_first hA;omega
 | text=>rw[tx_text] at hA;have:=one (by decide) hA;omega
 | bytes=>rw[tx_bytes] at hA;have:=one (by decide) hA;omega
 | sym he hb hn=>
  rename_i c p q l o
  have hq:q<(l.map Prod.fst).length:=by simpa using hn
  rw[tx_sym he (List.getElem?_eq_getElem hq)] at hA
  have h9:=(hS c l o he).2 _ (List.getElem_mem hq)
  have:=((At.one (by omega)).1 hA).2
  omega
 | recd=>rw[tx_recd] at hA;have:=one (by decide) hA;omega
 | list=>rw[tx_list _ _ []] at hA;have:=one (by decide) hA;omega
 | map=>rw[tx_map] at hA;have:=one (by decide) hA;omega
 | alts hn hl=>rw[tx_alts _ hl] at hA;have:=one (by decide) hA;omega
theorem idx_of {L:List Nat}(hN:L.Nodup){q x:Nat}(hx:L[q]?=some x):L.findIdx? (fun c=>c==x)=some q:=by
 obtain⟨hq,rfl⟩:=List.getElem?_eq_some_iff.1 hx
 rw[List.findIdx?_eq_some_iff_getElem]
 refine⟨hq,by simp,fun j hj=>?_⟩
 simp only[beq_iff_eq]
 intro e
 have:=(List.getElem_inj hN).1 e
 omega
theorem rdT_of {env:Nat→Option PB}(hS:symE env) (hW:fewE env) (s:ByteArray):∀ (f:Nat) (d:DT) (t:PT),Dat env d t→fewT t→RdsT env s f (rdT s env false f t) t d:=by
 intro f
 induction f with
 | zero=>intro d t _ _ i _ _ h;omega
 | succ f ih=>
  intro d t hd hw i hA hs hF
  cases hd with
  | null=>
   rename_i p
   have e:=tx_null (env:=env) p
   rw[e] at hA⊢
   unfold rdT rdLeaf
   rw[if_pos rfl,if_pos ((At.one (by decide)).1 hA).2,bts_size]
   rfl
  | bool hb=>
   rename_i p q
   have hq:q=1∨q=0:=by omega
   unfold rdT rdLeaf
   rw[if_neg (by decide),if_pos rfl]
   have e:=tx_bool (env:=env) p q
   rcases hq with rfl|rfl
   ·rw[if_pos rfl] at e
    rw[e] at hA⊢
    rw[if_pos ((At.one (by decide)).1 hA).2,bts_size]
    rfl
   ·rw[if_neg (by decide)] at e
    rw[e] at hA⊢
    have:=((At.one (by decide)).1 hA).2
    rw[if_neg (by omega),if_pos this,bts_size]
    rfl
  | num h0 h1=>
   rename_i p q
   have e:=tx_num (env:=env) p q
   rw[e] at hA hs⊢
   unfold rdT rdLeaf
   rw[if_neg (by decide),if_neg (by decide),if_pos (.inl rfl),rdNum_of (.inl rfl) h0 h1 hA hs]
  | long h0 h1=>
   rename_i p q
   have e:=tx_long (env:=env) p q
   rw[e] at hA hs⊢
   unfold rdT rdLeaf
   rw[if_neg (by decide),if_neg (by decide),if_pos (.inr rfl),rdNum_of (.inr rfl) h0 h1 hA hs]
  | text hx h1=>
   rename_i p x
   have e:=tx_text (env:=env) p x
   rw[e] at hA⊢
   obtain⟨a1,a23⟩:=At.app.1 hA
   obtain⟨a2,a3⟩:=At.app.1 a23
   rw[bts_size,show[34].length=1 from rfl] at a2 a3
   have b1:=((At.one (by decide)).1 a1).2
   have b3:=((At.one (by decide)).1 a3).2
   have hE:letEnd s (i+1)=i+1+x.size:=by rw[letEnd_run a2 hx];exact runEnd_off (by omega)
   have hX:s.extract (i+1) (i+1+x.size)=x:=(At.ext (by omega) a2.1).eq a2 (by rw[ByteArray.size_extract];have:=a2.1;omega)
   unfold rdT rdLeaf
   rw[if_neg (by decide),if_neg (by decide),if_neg (by decide),if_pos rfl,hE,if_pos ⟨b1,b3⟩,hX]
   simp only[ByteArray.size_append,bts_size,Option.some.injEq,Prod.mk.injEq,true_and,List.length_singleton]
   omega
  | bytes he hb hx=>
   rename_i c p x
   obtain⟨b1,b2,b3,b4,b5⟩:=base_no hb
   have e:=tx_bytes (env:=env) c p x
   rw[e] at hA⊢
   obtain⟨a1,a23⟩:=At.app.1 hA
   obtain⟨a2,a3⟩:=At.app.1 a23
   rw[bts_size,show[39].length=1 from rfl] at a2 a3
   have c1:=((At.one (by decide)).1 a1).2
   have c3:=((At.one (by decide)).1 a3).2
   have hE:letEnd s (i+1)=i+1+x.size:=by rw[letEnd_run a2 hx];exact runEnd_off (by omega)
   have hX:s.extract (i+1) (i+1+x.size)=x:=(At.ext (by omega) a2.1).eq a2 (by rw[ByteArray.size_extract];have:=a2.1;omega)
   unfold rdT rdLeaf
   rw[if_neg b1,if_neg b2,if_neg (by omega),if_neg b5,he]
   simp only[rdNamed]
   rw[hE,if_pos ⟨c1,by omega,c3⟩,hX]
   simp only[ByteArray.size_append,bts_size,Option.some.injEq,Prod.mk.injEq,true_and,List.length_singleton]
   omega
  | sym he hb hn=>
   rename_i c p q l o
   obtain⟨b1,b2,b3,b4,b5⟩:=base_no hb
   obtain⟨hN,h256⟩:=hS c l o he
   have hq:q<(l.map Prod.fst).length:=by simpa using hn
   have hx:(l.map Prod.fst)[q]?=some (l.map Prod.fst)[q]:=List.getElem?_eq_getElem hq
   have e:=tx_sym (p:=p) he hx
   have h9:=h256 _ (List.getElem_mem hq)
   rw[e] at hA⊢
   obtain⟨a1,a2⟩:=(At.one (by omega)).1 hA
   unfold rdT rdLeaf
   rw[if_neg b1,if_neg b2,if_neg (by omega),if_neg b5,he]
   simp only[rdNamed]
   rw[if_pos a1,a2,idx_of hN hx,bts_size]
   rfl
  | recd he hb hl h=>
   rename_i c p fs ds
   obtain⟨b1,b2,b3,b4,b5⟩:=base_no hb
   have e:=tx_recd (env:=env) c p ds
   rw[e] at hA hF⊢
   rw[ByteArray.size_append,ByteArray.size_append,bts_size,bts_size,List.length_singleton,List.length_singleton] at hF
   obtain⟨a1,a23⟩:=At.app.1 hA
   obtain⟨a2,a3⟩:=At.app.1 a23
   rw[bts_size,List.length_singleton] at a2 a3
   have c1:=((At.one (by decide)).1 a1).2
   have c3:=((At.one (by decide)).1 a3).2
   have hf:=rdFields_of (env:=env) (s:=s) (R:=rdT s env false f) (F:=f) (c:=c) (p:=p) (n:=0) (T:=fs.map PF.ty) (fun q=>by simp only[subTy,he]) ds 0 (i+1) true (by simpa using hl) (fun k x u hx hu=>ih x u (h k x u hx (by rwa[Nat.zero_add] at hu)) (by
    rw[Nat.zero_add] at hu
    obtain⟨g,hg,rfl⟩:=List.mem_map.1 (List.mem_of_getElem? hu)
    exact(hW c fs he).2 g hg)) (by simpa using a2) (by simp only[if_true];unfold stp;omega) (by simp only[if_true];omega)
   simp only[if_true,List.drop_zero] at hf
   unfold rdT rdLeaf
   rw[if_neg b1,if_neg b2,if_neg (by omega),if_neg b5,he]
   simp only[rdNamed]
   rw[if_pos c1,hf]
   simp only
   rw[if_pos c3]
   simp only[ByteArray.size_append,bts_size,Option.some.injEq,Prod.mk.injEq,true_and,List.length_singleton]
   omega
  | list hl h=>
   rename_i p u ds
   unfold fewT at hw
   have e:=tx_list (env:=env) p u (ds.map fun _=>noB) ds
   rw[e] at hA hF⊢
   rw[ByteArray.size_append,ByteArray.size_append,bts_size,bts_size,List.length_singleton,List.length_singleton] at hF
   obtain⟨a1,a23⟩:=At.app.1 hA
   rw[bts_size,List.length_singleton] at a23
   have c1:=((At.one (by decide)).1 a1).2
   unfold rdT rdWrap
   rw[if_pos c1]
   unfold rdList
   simp only[show closing 91=93 from rfl,show((91:Nat)==123)=false from rfl]
   cases ds with
   | nil=>
    rw[List.map_nil,txTs_nil,show jn 0 []=noB by rw[jn],noB_app] at a23⊢
    have c3:=((At.one (by decide)).1 a23).2
    rw[if_pos c3]
    simp only[ByteArray.size_append,bts_size,Bool.false_eq_true,if_false,List.map_nil,List.length_singleton]
   | cons d ds=>
    obtain⟨l,e1,e2,e3⟩:=rdItems_of (env:=env) (s:=s) (R:=rdT s env false f u) (keyed:=false) (fin:=93) (F:=f) (c:=91) (p:=p) (n:=0) (u:=u) (.inl rfl) ds d noB (ds.map fun _=>noB) none (i+1) 0 (s.size+2) (by simp) (fun hk=>by cases hk) (fun x hx=>ih x u (h x hx) hw) a23 (by simp only[List.map_cons] at hF;omega) (by
     have h1:=a23.1
     rw[ByteArray.size_append] at h1
     have h2:=(jn_len (txTs env (.wrap 91 p u) 0 0 false ((d::ds).map fun _=>noB) (d::ds)) 0).1
     rw[txTs_len,List.length_cons] at h2
     omega)
    have hne:bt s (i+1)≠93:=by
     rw[List.map_cons,txTs_cons,jn_zero] at a23
     have hk0:=(At.app.1 (At.app.1 (At.app.1 a23).1).1).2
     simp only[keyT,Bool.false_eq_true,if_false,noB_size,Nat.add_zero] at hk0
     exact(dat_first hS (h d (List.mem_cons_self ..)) hk0).1
    rw[if_neg hne]
    simp only[List.map_cons]
    rw[e1]
    simp only[Bool.false_eq_true,if_false,e2,ByteArray.size_append,bts_size,Option.some.injEq,Prod.mk.injEq,true_and,List.length_singleton]
    omega
  | map hl hk hr h=>
   rename_i p u ks ds
   unfold fewT at hw
   have e:=tx_map (env:=env) p u ks ds
   rw[e] at hA hF⊢
   rw[ByteArray.size_append,ByteArray.size_append,bts_size,bts_size,List.length_singleton,List.length_singleton] at hF
   obtain⟨a1,a23⟩:=At.app.1 hA
   rw[bts_size,List.length_singleton] at a23
   have c1:=((At.one (by decide)).1 a1).2
   unfold rdT rdWrap
   rw[if_pos c1]
   unfold rdList
   simp only[show closing 123=125 from rfl,show((123:Nat)==123)=true from rfl]
   cases ds with
   | nil=>
    obtain rfl:ks=[]:=List.eq_nil_of_length_eq_zero (by simpa using hk)
    rw[txTs_nil,show jn 0 []=noB by rw[jn],noB_app] at a23⊢
    have c3:=((At.one (by decide)).1 a23).2
    rw[if_pos c3]
    simp only[ByteArray.size_append,bts_size,if_true,List.map_nil,List.length_singleton]
   | cons d ds=>
    cases ks with
    | nil=>simp at hk
    | cons k ks=>
     obtain⟨l,e1,e2,e3⟩:=rdItems_of (env:=env) (s:=s) (R:=rdT s env false f u) (keyed:=true) (fin:=125) (F:=f) (c:=123) (p:=p) (n:=0) (u:=u) (.inr rfl) ds d k ks none (i+1) 0 (s.size+2) (by simpa using hk) (fun _=>hr) (fun x hx=>ih x u (h x hx) hw) a23 (by omega) (by
      have h1:=a23.1
      rw[ByteArray.size_append] at h1
      have h2:=(jn_len (txTs env (.wrap 123 p u) 0 0 true (k::ks) (d::ds)) 0).1
      rw[txTs_len,List.length_cons] at h2
      omega)
     have hne:bt s (i+1)≠125:=by
      rw[txTs_cons,jn_zero] at a23
      have hk0:=(At.app.1 (At.app.1 (At.app.1 a23).1).1).1
      unfold keyT at hk0
      rw[if_pos rfl] at hk0
      obtain⟨q1,q2⟩:=At.app.1 hk0
      have q3:=((At.one (by decide)).1 q2).2
      by_cases hz:k.size=0
      ·rw[hz,Nat.add_zero] at q3;omega
      ·have:=q1.2 0 (by omega)
       have:=hr.2.1 0 (by omega)
       rw[Nat.add_zero] at *
       omega
     rw[if_neg hne]
     rw[e1]
     simp only[if_true,e2,e3,ByteArray.size_append,bts_size,Option.some.injEq,Prod.mk.injEq,true_and,List.length_singleton]
     omega
  | alts hn hl h=>
   rename_i q p l u d
   unfold fewT at hw
   have hlt:q<l.length:=(List.getElem?_eq_some_iff.1 hl).1
   have e:=tx_alts (env:=env) (p:=p) d hl
   rw[e] at hA hF⊢
   simp only[ByteArray.size_append,bts_size,List.length_singleton] at hF
   obtain⟨a1,a2345⟩:=At.app.1 hA
   obtain⟨a2,a345⟩:=At.app.1 a2345
   obtain⟨a3,a45⟩:=At.app.1 a345
   obtain⟨a4,a5⟩:=At.app.1 a45
   simp only[bts_size,List.length_singleton] at a2 a3 a4 a5
   have c1:=((At.one (by decide)).1 a1).2
   have c3:=((At.one (by decide)).1 a3).2
   have c5:=((At.one (by decide)).1 a5).2
   obtain⟨g1,g2,g3,g4⟩:=br_of (by omega) a2 c3
   have hd:=ih d u h (fewTs_at hw.2 u (List.mem_of_getElem? hl)) _ a4 (by unfold stp;omega) (by omega)
   unfold rdT rdBranch
   rw[if_neg (by decide),if_pos ⟨c1,g2,g3,by rw[g1];exact c3⟩,g4,hl]
   simp only
   rw[g1,hd]
   simp only
   rw[if_pos c5]
   simp only[ByteArray.size_append,bts_size,Option.some.injEq,Prod.mk.injEq,true_and,List.length_singleton]
   omega
open Go.RowKit
open Go.RowKit
theorem At.self (s:ByteArray):At s 0 s:=⟨by omega,fun k _=>by rw[Nat.zero_add]⟩
theorem Pre.app (a b:ByteArray):Pre a (a++b):=(At.app.1 (At.self (a++b))).1
theorem back_whole {env:Nat→Option PB}(hE:okEnv env){d:DT}{t:PT}(hd:Dat env d t) (hn:ndT d≤300) (x:ByteArray):rdB (byT d++x) env 301 t 0 0=.ok (d,(byT d).size,ndT d):=by
 have h:=rdB_of hE (byT d++x) 301 d t 0 0 hd (At.app.1 (At.self _)).1 (by omega) (by omega)
 rwa[Nat.zero_add,Nat.zero_add] at h
open Go.RowKit
theorem dupS_none:∀ (l:List (Nat×Nat)) (seen:List Nat),dupS seen l=[]→(∀ x∈l.map Prod.fst,x∉seen)∧(l.map Prod.fst).Nodup
 | [],_,_=>⟨fun x hx=>(by cases hx),List.nodup_nil⟩
 | q::r,seen,h=>by
  rw[dupS,List.append_eq_nil_iff] at h
  obtain⟨h1,h2⟩:=h
  have hq:q.1∉seen:=fun hh=>by rw[if_pos hh] at h1;cases h1
  obtain⟨a,b⟩:=dupS_none r _ h2
  rw[List.map_cons]
  refine⟨fun x hx=>?_,List.nodup_cons.2 ⟨fun hh=>?_,b⟩⟩
  ·rcases List.mem_cons.1 hx with rfl|hx
   ·exact hq
   ·exact fun hh=>a x hx (List.mem_append_left _ hh)
  ·exact a _ hh (List.mem_append_right _ (List.mem_singleton.2 rfl))
theorem defF_none (env:Nat→Option PB):∀ (ds:List PD) (seen:List Nat),defF env seen ds=[]→∀ d∈ds,bodyF env d.body=[]
 | [],_,_,d,hd=>by cases hd
 | x::r,seen,h,d,hd=>by
  rw[defF,List.append_eq_nil_iff,List.append_eq_nil_iff] at h
  rcases List.mem_cons.1 hd with rfl|hd
  ·exact h.2.1
  ·exact defF_none env r _ h.2.2 d hd
theorem fine_of {s:ByteArray}{ds:List PD}{t:PT}(h0:(parseAns s).1=0) (hp:pSchema s=.ok (ds,t)):s.size≤300∧nameF ds t=[]∧unionF ds t=[]:=by
 have hs:s.size≤300:=by
  by_cases h:300<s.size
  ·unfold parseAns at h0
   rw[if_pos h] at h0
   exact absurd h0 (by decide)
  ·omega
 rw[parseAns_first hs hp] at h0
 refine⟨hs,?_⟩
 split at h0
 ·simp at h0
 ·simp at h0
 ·simp at h0
 ·rename_i h1 h2 _;exact⟨h1,h2⟩
theorem sym_of {s:ByteArray}{ds:List PD}{t:PT}(h0:(parseAns s).1=0) (hp:pSchema s=.ok (ds,t)):symE (envOf ds)∧fewE (envOf ds)∧fewT t∧okT (envOf ds) t∧okEnv (envOf ds):=by
 obtain⟨hs,hn,hu⟩:=fine_of h0 hp
 obtain⟨f1,_,_,f4,f5⟩:=schema_fine hs hp hn hu
 refine⟨fun c l o e=>?_,few_env f1,fewT_few t (pSchema_all hs hp).2.1,f4,f5⟩
 unfold nameF at hn
 rw[List.append_eq_nil_iff] at hn
 have hsm:=f1.sm c l o e
 have e':=e
 unfold envOf at e'
 obtain⟨⟨pb,b⟩,hl,hpb⟩:=Option.map_eq_some_iff.1 e'
 simp only at hpb
 subst hpb
 obtain⟨d,hd,hb⟩:=look_mem hl
 have hF:=defF_none _ ds [] hn.1 d hd
 rw[hb] at hF
 unfold bodyF at hF
 rw[List.append_eq_nil_iff] at hF
 refine⟨(dupS_none l [] hF.1).2,fun x hx=>?_⟩
 obtain⟨q,hq,rfl⟩:=List.mem_map.1 hx
 have:=hsm q hq
 simp[isSmall] at this
 exact this
theorem decAns_bad {s bs:ByteArray}(h:(decAns s bs).2.2≠0):(decAns s bs).1=noB∧(decAns s bs).2.1=0:=by
 unfold decAns at h⊢
 split
 ·rename_i h0
  rw[if_pos h0] at h
  split
  ·exact⟨rfl,rfl⟩
  ·rename_i h4
   rw[if_neg h4] at h
   cases hp:pSchema s with
   | error k=>exact⟨rfl,rfl⟩
   | ok r=>
    obtain⟨ds,t⟩:=r
    rw[hp] at h
    simp only at h⊢
    cases hq:rdB bs (envOf ds) 301 t 0 0 with
    | error e=>exact⟨rfl,rfl⟩
    | ok y=>rw[hq] at h;exact absurd rfl h
 ·exact⟨rfl,rfl⟩
theorem dec_ok {s bs:ByteArray}(h:(decAns s bs).2.2=0):(parseAns s).1=0∧bs.size≤4000∧∃ ds t d j m,pSchema s=.ok (ds,t)∧rdB bs (envOf ds) 301 t 0 0=.ok (d,j,m)∧decAns s bs=(txT (envOf ds) d t,j,0):=by
 unfold decAns at h
 split at h
 ·rename_i h0
  split at h
  ·exact absurd h (by decide)
  ·rename_i h4
   refine⟨h0,by omega,?_⟩
   cases hp:pSchema s with
   | error k=>
    exfalso
    unfold parseAns at h0
    rw[hp] at h0
    split at h0 <;> simp at h0
   | ok r=>
    obtain⟨ds,t⟩:=r
    rw[hp] at h
    simp only at h
    cases hq:rdB bs (envOf ds) 301 t 0 0 with
    | error e=>
     rw[hq] at h
     have:=rdB_err bs (envOf ds) 301 t 0 0 e hq
     simp only at h
     omega
    | ok y=>
     obtain⟨d,j,m⟩:=y
     refine⟨ds,t,d,j,m,rfl,hq,?_⟩
     unfold decAns
     rw[if_pos h0,if_neg h4,hp]
     simp only[hq]
 ·rename_i h0;exact absurd h h0
theorem again_ans {s bs:ByteArray}(h:(decAns s bs).2.2=0):(decAns s bs).2.1≤bs.size∧((decAns s bs).1.size≤4000→encAns s (decAns s bs).1=(bs.extract 0 (decAns s bs).2.1,0)):=by
 obtain⟨h0,hb,ds,t,d,j,m,hp,hq,he⟩:=dec_ok h
 obtain⟨g1,g2,g3,g4,g5⟩:=sym_of h0 hp
 obtain⟨a1,a2,a3⟩:=rdB_at g5 bs 301 t g4 0 0 d j m (by omega) hq
 have hn:=(rdB_fits bs (envOf ds) 301 t 0 0 d j m hq).2
 have hg:=rdB_goes bs (envOf ds) 301 t 0 0 d j m (Nat.zero_le _) (by omega) hq
 have hj:=a2.1
 rw[he]
 refine⟨by simp only;omega,fun hz=>?_⟩
 simp only at hz⊢
 have hr:=rdT_of g1 g2 (txT (envOf ds) d t) (2*(txT (envOf ds) d t).size+2) d t a1 g3 0 (At.self _) (by unfold stp;rw[Nat.zero_add,bt_end (Nat.le_refl _)];omega) (by omega)
 rw[Nat.zero_add] at hr
 have hx:bs.extract 0 j=byT d:=(At.ext (by omega) (by omega)).eq a2 (by rw[ByteArray.size_extract];omega)
 unfold encAns readT
 rw[if_pos h0,if_neg (by omega),hp]
 simp only[hr,if_true]
 rw[if_neg (by omega),hx]
end Go.Proofs.YtiifagiebikmdaaGreatDoor
