import Derived.Test.YtiifagiebikmdaaGreatDoorBK43
import Derived.Test.YtiifagiebikmdaaGreatDoorBK41
import Derived.Test.YtiifagiebikmdaaGreatDoorBK40
namespace Go.Proofs.YtiifagiebikmdaaGreatDoor
open Go.RowKit
theorem lebD_pre {s s':ByteArray}(h:Pre s s'):∀ (f i:Nat) (x:Nat×Nat),lebD s f i=some x→lebD s' f i=some x
 | 0,i,x,hx=>by simp[lebD] at hx
 | f+1,i,x,hx=>by
  unfold lebD at hx⊢
  split at hx
  ·rename_i hi
   rw[if_pos (Nat.lt_of_lt_of_le hi h.size),h.bt hi]
   split at hx
   ·rename_i hb;rw[if_pos hb];exact hx
   ·rename_i hb
    rw[if_neg hb]
    cases hl:lebD s f (i+1) with
    | none=>rw[hl] at hx;simp at hx
    | some y=>
     rw[hl] at hx
     rw[lebD_pre h f (i+1) y hl]
     exact hx
  ·simp at hx
theorem bL_pre {s s':ByteArray}(h:Pre s s'){i:Nat}{x:Int×Nat}(hx:bL s i=some x):bL s' i=some x:=by
 unfold bL at hx⊢
 cases hl:lebD s 10 i with
 | none=>rw[hl] at hx;simp at hx
 | some y=>rw[hl] at hx;rw[lebD_pre h 10 i y hl];exact hx
theorem bNum_pre {s s':ByteArray}(h:Pre s s'){lo hi:Int}{i:Nat}{x:Int×Nat}(hx:bNum s lo hi i=some x):bNum s' lo hi i=some x:=by
 unfold bNum at hx⊢
 cases hl:bL s i with
 | none=>rw[hl] at hx;simp at hx
 | some y=>rw[hl] at hx;rw[bL_pre h hl];exact hx
theorem bText_pre {s s':ByteArray}(h:Pre s s'){i n:Nat}{x:ByteArray}{j:Nat}(hi:i≤s.size) (hx:bText s i n=some (x,j)):bText s' i n=some (x,j):=by
 obtain⟨a,b,c,d⟩:=bText_at hi hx
 subst b c
 exact bText_of d (h.at a)
theorem bSized_pre {s s':ByteArray}(h:Pre s s'){i:Nat}{x:ByteArray}{j:Nat}(hx:bSized s i=some (x,j)):bSized s' i=some (x,j):=by
 obtain⟨a,b,c,d⟩:=bSized_at hx
 subst b
 exact bSized_of c d (h.at a)
theorem bKey_pre {s s':ByteArray}(h:Pre s s'){keyed:Bool}{last:Option ByteArray}{i:Nat}{k:ByteArray}{j:Nat}(hx:bKey s keyed last i=some (k,j)):bKey s' keyed last i=some (k,j):=by
 unfold bKey at hx⊢
 cases keyed with
 | false=>exact hx
 | true=>
  simp only[if_true] at hx⊢
  cases hl:bSized s i with
  | none=>rw[hl] at hx;simp at hx
  | some y=>rw[hl] at hx;rw[bSized_pre h (x:=y.1) (j:=y.2) hl];exact hx
def Same6 (s:ByteArray) (R R':Nat→Nat→Except Nat (DT×Nat×Nat)):Prop:=∀ i n r,i≤s.size→R i n=r→r≠.error 6→R' i n=r
def In6 (s:ByteArray) (R:Nat→Nat→Except Nat (DT×Nat×Nat)):Prop:=∀ i n d j m,i≤s.size→R i n=.ok (d,j,m)→j≤s.size
theorem bItems_pre {s s':ByteArray}(h:Pre s s'){R R':Nat→Nat→Except Nat (DT×Nat×Nat)}(hR:Same6 s R R') (hI:In6 s R){keyed:Bool}:∀ (c:Nat) (last:Option ByteArray) (i n:Nat) (r:Except Nat (List (ByteArray×DT)×Nat×Nat)),i≤s.size→bItems R s keyed c last i n=r→r≠.error 6→bItems R' s' keyed c last i n=r
 | 0,last,i,n,r,hi,hr,h6=>by
  rw[← hr];simp[bItems]
 | c+1,last,i,n,r,hi,hr,h6=>by
  unfold bItems at hr⊢
  cases hk:bKey s keyed last i with
  | none=>rw[hk] at hr;exact absurd hr.symm h6
  | some y=>
   obtain⟨k,i1⟩:=y
   rw[hk] at hr
   rw[bKey_pre h hk]
   have h1:=bKey_at hi hk
   have h2:=h1.1.1
   simp only at hr⊢
   cases hd:R i1 n with
   | error e=>
    rw[hd] at hr
    simp only at hr
    have he:e≠6:=fun e6=>h6 (by rw[← hr,e6])
    rw[hR i1 n _ (by omega) hd (fun hh=>he (by cases hh;rfl))]
    exact hr
   | ok y=>
    obtain⟨d,j,m⟩:=y
    rw[hd] at hr
    rw[hR i1 n _ (by omega) hd (by simp)]
    simp only at hr⊢
    cases hl:bItems R s keyed c (some k) j m with
    | error e=>
     rw[hl] at hr
     simp only at hr
     have he:e≠6:=fun e6=>h6 (by rw[← hr,e6])
     rw[bItems_pre h hR hI c (some k) j m _ (hI _ _ _ _ _ (by omega) hd) hl (fun hh=>he (by cases hh;rfl))]
     exact hr
    | ok y=>
     rw[hl] at hr
     rw[bItems_pre h hR hI c (some k) j m _ (hI _ _ _ _ _ (by omega) hd) hl (by simp)]
     exact hr
theorem bFields_pre {s:ByteArray}{R R':PT→Nat→Nat→Except Nat (DT×Nat×Nat)}:∀ (ts:List PT),(∀ t∈ts,Same6 s (R t) (R' t)∧In6 s (R t))→∀ (i n:Nat) (r:Except Nat (List DT×Nat×Nat)),i≤s.size→bFields R ts i n=r→r≠.error 6→bFields R' ts i n=r
 | [],_,i,n,r,hi,hr,h6=>by rw[← hr];simp[bFields]
 | t::ts,hR,i,n,r,hi,hr,h6=>by
  unfold bFields at hr⊢
  obtain⟨h1,h2⟩:=hR t (List.mem_cons_self ..)
  cases hd:R t i n with
  | error e=>
   rw[hd] at hr
   simp only at hr
   have he:e≠6:=fun e6=>h6 (by rw[← hr,e6])
   rw[h1 i n _ hi hd (fun hh=>he (by cases hh;rfl))]
   exact hr
  | ok y=>
   obtain⟨d,j,m⟩:=y
   rw[hd] at hr
   rw[h1 i n _ hi hd (by simp)]
   simp only at hr⊢
   have hj:=h2 _ _ _ _ _ hi hd
   cases hl:bFields R ts j m with
   | error e=>
    rw[hl] at hr
    simp only at hr
    have he:e≠6:=fun e6=>h6 (by rw[← hr,e6])
    rw[bFields_pre ts (fun t ht=>hR t (List.mem_cons_of_mem _ ht)) j m _ hj hl (fun hh=>he (by cases hh;rfl))]
    exact hr
   | ok y=>
    rw[hl] at hr
    rw[bFields_pre ts (fun t ht=>hR t (List.mem_cons_of_mem _ ht)) j m _ hj hl (by simp)]
    exact hr
theorem rdB_pre {env:Nat→Option PB}(hE:okEnv env){s s':ByteArray}(h:Pre s s'):∀ (f:Nat) (t:PT),okT env t→Same6 s (rdB s env f t) (rdB s' env f t):=by
 intro f
 induction f with
 | zero=>intro t _ i n r _ hr _;rw[← hr];simp[rdB]
 | succ f ih=>
  have hin:∀ t,okT env t→In6 s (rdB s env f t):=fun t ht i n d j m hi hr=>by
   obtain⟨_,a,b⟩:=rdB_at hE s f t ht i n d j m hi hr
   have:=a.1
   omega
  intro t ht i n r hi hr h6
  unfold rdB at hr⊢
  by_cases hn:300≤n
  ·rw[if_pos hn] at hr⊢;exact hr
  ·rw[if_neg hn] at hr⊢
   cases t with
   | leaf c p=>
    simp only at hr⊢
    unfold bLeaf at hr⊢
    by_cases h1:c=110
    ·rw[if_pos h1] at hr⊢;exact hr
    ·rw[if_neg h1] at hr⊢
     by_cases h2:c=116
     ·rw[if_pos h2] at hr⊢
      by_cases hb:i<s.size∧bt s i≤1
      ·rw[if_pos hb] at hr
       rw[h.bt hb.1,if_pos ⟨Nat.lt_of_lt_of_le hb.1 h.size,hb.2⟩]
       exact hr
      ·rw[if_neg hb] at hr;exact absurd hr.symm h6
     ·rw[if_neg h2] at hr⊢
      by_cases h3:c=105
      ·rw[if_pos h3] at hr⊢
       cases hq:bNum s (-2147483648) 2147483647 i with
       | none=>rw[hq] at hr;exact absurd hr.symm h6
       | some y=>rw[hq] at hr;rw[bNum_pre h hq];exact hr
      ·rw[if_neg h3] at hr⊢
       by_cases h4:c=108
       ·rw[if_pos h4] at hr⊢
        cases hq:bL s i with
        | none=>rw[hq] at hr;exact absurd hr.symm h6
        | some y=>rw[hq] at hr;rw[bL_pre h hq];exact hr
       ·rw[if_neg h4] at hr⊢
        by_cases h5:c=115
        ·rw[if_pos h5] at hr⊢
         cases hq:bSized s i with
         | none=>rw[hq] at hr;exact absurd hr.symm h6
         | some y=>rw[hq] at hr;rw[bSized_pre h (x:=y.1) (j:=y.2) hq];exact hr
        ·rw[if_neg h5] at hr⊢
         cases he:env c with
         | none=>rw[he] at hr;exact absurd hr.symm h6
         | some pb=>
          rw[he] at hr
          simp only at hr⊢
          have hok:=hE c pb he
          cases pb with
          | recd fs=>
           simp only[bNamed] at hr⊢
           have hR:∀ t∈fs.map PF.ty,Same6 s (rdB s env f t) (rdB s' env f t)∧In6 s (rdB s env f t):=fun t ht=>by
            obtain⟨g,hg,rfl⟩:=List.mem_map.1 ht
            exact⟨ih g.ty (hok g hg),hin g.ty (hok g hg)⟩
           cases hq:bFields (rdB s env f) (fs.map PF.ty) i (n+1) with
           | error e=>
            rw[hq] at hr
            simp only at hr
            have he:e≠6:=fun e6=>h6 (by rw[← hr,e6])
            rw[bFields_pre _ hR i (n+1) _ hi hq (fun hh=>he (by cases hh;rfl))]
            exact hr
           | ok y=>rw[hq] at hr;rw[bFields_pre _ hR i (n+1) _ hi hq (by simp)];exact hr
          | enum l o=>
           simp only[bNamed] at hr⊢
           cases hq:bNum s 0 ((l.length:Int)-1) i with
           | none=>rw[hq] at hr;exact absurd hr.symm h6
           | some y=>rw[hq] at hr;rw[bNum_pre h hq];exact hr
          | bytes k=>
           simp only[bNamed] at hr⊢
           cases hq:bText s i k with
           | none=>rw[hq] at hr;exact absurd hr.symm h6
           | some y=>rw[hq] at hr;rw[bText_pre h (x:=y.1) (j:=y.2) hi hq];exact hr
   | wrap c p u=>
    unfold okT at ht
    simp only at hr⊢
    unfold bWrap at hr⊢
    cases hq:bSize s i with
    | none=>rw[hq] at hr;exact absurd hr.symm h6
    | some y=>
     obtain⟨q,j⟩:=y
     have ha:=bNum_at hq
     have hb:=ha.2.2.1.1
     rw[hq] at hr
     rw[show bSize s' i=some (q,j) from bNum_pre h hq]
     simp only at hr⊢
     cases hl:bItems (rdB s env f u) s (c==123) q.toNat none j (n+1) with
     | error e=>
      rw[hl] at hr
      simp only at hr
      have he:e≠6:=fun e6=>h6 (by rw[← hr,e6])
      rw[bItems_pre h (ih u ht.2) (hin u ht.2) _ _ _ _ _ (by omega) hl (fun hh=>he (by cases hh;rfl))]
      exact hr
     | ok y=>rw[hl] at hr;rw[bItems_pre h (ih u ht.2) (hin u ht.2) _ _ _ _ _ (by omega) hl (by simp)];exact hr
   | alts p ts=>
    unfold okT at ht
    simp only at hr⊢
    unfold bBranch at hr⊢
    cases hq:bNum s 0 ((ts.length:Int)-1) i with
    | none=>rw[hq] at hr;exact absurd hr.symm h6
    | some y=>
     obtain⟨q,j⟩:=y
     have ha:=bNum_at hq
     have hb:=ha.2.2.1.1
     rw[hq] at hr
     rw[bNum_pre h hq]
     simp only at hr⊢
     cases hu:ts[q.toNat]? with
     | none=>rw[hu] at hr;exact absurd hr.symm h6
     | some u=>
      rw[hu] at hr
      simp only at hr⊢
      have hou:=(okTs_at ht.2 u (List.mem_of_getElem? hu)).2
      cases hd:rdB s env f u j (n+1) with
      | error e=>
       rw[hd] at hr
       simp only at hr
       have he:e≠6:=fun e6=>h6 (by rw[← hr,e6])
       rw[ih u hou j (n+1) _ (by omega) hd (fun hh=>he (by cases hh;rfl))]
       exact hr
      | ok y=>rw[hd] at hr;rw[ih u hou j (n+1) _ (by omega) hd (by simp)];exact hr
theorem At.self (s:ByteArray):At s 0 s:=⟨by omega,fun k _=>by rw[Nat.zero_add]⟩
theorem Pre.app (a b:ByteArray):Pre a (a++b):=(At.app.1 (At.self (a++b))).1
theorem Pre.cut {s:ByteArray}{k:Nat}(h:k≤s.size):Pre (s.extract 0 k) s:=At.ext (by omega) h
theorem back_whole {env:Nat→Option PB}(hE:okEnv env){d:DT}{t:PT}(hd:Dat env d t) (hn:ndT d≤300) (x:ByteArray):rdB (byT d++x) env 301 t 0 0=.ok (d,(byT d).size,ndT d):=by
 have h:=rdB_of hE (byT d++x) 301 d t 0 0 hd (At.app.1 (At.self _)).1 (by omega) (by omega)
 rwa[Nat.zero_add,Nat.zero_add] at h
theorem back_cut {env:Nat→Option PB}(hE:okEnv env){d:DT}{t:PT}(ht:okT env t) (hd:Dat env d t) (hn:ndT d≤300){k:Nat}(hk:k<(byT d).size):rdB ((byT d).extract 0 k) env 301 t 0 0=.error 6:=by
 have hw:rdB (byT d) env 301 t 0 0=.ok (d,(byT d).size,ndT d):=by
  have h:=rdB_of hE (byT d) 301 d t 0 0 hd (At.self _) (by omega) (by omega)
  rwa[Nat.zero_add,Nat.zero_add] at h
 have hs:((byT d).extract 0 k).size=k:=by rw[ByteArray.size_extract];omega
 by_cases h6:rdB ((byT d).extract 0 k) env 301 t 0 0=.error 6
 ·exact h6
 ·have h:=rdB_pre hE (Pre.cut (s:=byT d) (k:=k) (by omega)) 301 t ht 0 0 _ (by omega) rfl h6
  rw[hw] at h
  obtain⟨_,a,b⟩:=rdB_at hE _ 301 t ht 0 0 d _ _ (by omega) h.symm
  have:=a.1
  omega
open Go.RowKit
theorem dupS_none:∀ (l:List (Nat×Nat)) (seen:List Nat),dupS seen l=[]→(∀ x∈l.map Prod.fst,x∉seen)∧(l.map Prod.fst).Nodup
 | [],_,_=>⟨fun x hx=>(by cases hx),List.nodup_nil⟩
 | q::r,seen,h=>by
  rw[dupS,List.append_eq_nil_iff] at h
  obtain⟨h1,h2⟩:=h
  have hq:q.1∉seen:=fun hh=>by rw[if_pos hh] at h1;cases h1
  obtain⟨a,b⟩:=dupS_none r _ h2
  rw[List.map_cons]
  refine⟨fun x hx=>?_,List.nodup_cons.2 ⟨fun hh=>?_,b⟩⟩
  ·rcases List.mem_cons.1 hx with rfl|hx
   ·exact hq
   ·exact fun hh=>a x hx (List.mem_append_left _ hh)
  ·exact a _ hh (List.mem_append_right _ (List.mem_singleton.2 rfl))
theorem defF_none (env:Nat→Option PB):∀ (ds:List PD) (seen:List Nat),defF env seen ds=[]→∀ d∈ds,bodyF env d.body=[]
 | [],_,_,d,hd=>by cases hd
 | x::r,seen,h,d,hd=>by
  rw[defF,List.append_eq_nil_iff,List.append_eq_nil_iff] at h
  rcases List.mem_cons.1 hd with rfl|hd
  ·exact h.2.1
  ·exact defF_none env r _ h.2.2 d hd
theorem fine_of {s:ByteArray}{ds:List PD}{t:PT}(h0:(parseAns s).1=0) (hp:pSchema s=.ok (ds,t)):s.size≤300∧nameF ds t=[]∧unionF ds t=[]:=by
 have hs:s.size≤300:=by
  by_cases h:300<s.size
  ·unfold parseAns at h0
   rw[if_pos h] at h0
   exact absurd h0 (by decide)
  ·omega
 rw[parseAns_first hs hp] at h0
 refine⟨hs,?_⟩
 split at h0
 ·simp at h0
 ·simp at h0
 ·simp at h0
 ·rename_i h1 h2 _;exact⟨h1,h2⟩
theorem sym_of {s:ByteArray}{ds:List PD}{t:PT}(h0:(parseAns s).1=0) (hp:pSchema s=.ok (ds,t)):symE (envOf ds)∧fewE (envOf ds)∧fewT t∧okT (envOf ds) t∧okEnv (envOf ds):=by
 obtain⟨hs,hn,hu⟩:=fine_of h0 hp
 obtain⟨f1,_,_,f4,f5⟩:=schema_fine hs hp hn hu
 refine⟨fun c l o e=>?_,few_env f1,fewT_few t (pSchema_all hs hp).2.1,f4,f5⟩
 unfold nameF at hn
 rw[List.append_eq_nil_iff] at hn
 have hsm:=f1.sm c l o e
 have e':=e
 unfold envOf at e'
 obtain⟨⟨pb,b⟩,hl,hpb⟩:=Option.map_eq_some_iff.1 e'
 simp only at hpb
 subst hpb
 obtain⟨d,hd,hb⟩:=look_mem hl
 have hF:=defF_none _ ds [] hn.1 d hd
 rw[hb] at hF
 unfold bodyF at hF
 rw[List.append_eq_nil_iff] at hF
 refine⟨(dupS_none l [] hF.1).2,fun x hx=>?_⟩
 obtain⟨q,hq,rfl⟩:=List.mem_map.1 hx
 have:=hsm q hq
 simp[isSmall] at this
 exact this
theorem encAns_bad {s dm:ByteArray}(h:(encAns s dm).2≠0):(encAns s dm).1=noB:=by
 unfold encAns at h⊢
 split
 ·rename_i h0
  rw[if_pos h0] at h
  split
  ·rfl
  ·rename_i h4
   rw[if_neg h4] at h
   cases hp:pSchema s with
   | error k=>rfl
   | ok r=>
    obtain⟨ds,t⟩:=r
    rw[hp] at h
    simp only at h⊢
    cases hq:readT (envOf ds) false t dm with
    | none=>rfl
    | some d=>
     rw[hq] at h
     simp only at h⊢
     split
     ·rfl
     ·rename_i hn
      rw[if_neg hn] at h
      exact absurd rfl h
 ·rfl
theorem enc_ok {s dm:ByteArray}(h:(encAns s dm).2=0):(parseAns s).1=0∧dm.size≤4000∧∃ ds t d,pSchema s=.ok (ds,t)∧rdT dm (envOf ds) false (2*dm.size+2) t 0=some (d,dm.size)∧ndT d≤300∧encAns s dm=(byT d,0):=by
 unfold encAns at h
 split at h
 ·rename_i h0
  split at h
  ·exact absurd h (by decide)
  ·rename_i h4
   refine⟨h0,by omega,?_⟩
   cases hp:pSchema s with
   | error k=>
    exfalso
    unfold parseAns at h0
    rw[hp] at h0
    split at h0 <;> simp at h0
   | ok r=>
    obtain⟨ds,t⟩:=r
    rw[hp] at h
    simp only at h
    cases hq:readT (envOf ds) false t dm with
    | none=>rw[hq] at h;exact absurd h (by decide)
    | some d=>
     rw[hq] at h
     simp only at h
     split at h
     ·exact absurd h (by decide)
     ·rename_i hn
      have hq':=hq
      unfold readT at hq'
      split at hq'
      ·cases hq'
      ·rename_i d' j hr
       split at hq'
       ·rename_i hj
        simp only[Option.some.injEq] at hq'
        subst hq' hj
        refine⟨ds,t,d',rfl,hr,by omega,?_⟩
        unfold encAns
        rw[if_pos h0,if_neg h4,hp]
        simp only[hq,if_neg hn]
       ·cases hq'
 ·rename_i h0;exact absurd h h0
theorem back_ans {s dm:ByteArray}(h:(encAns s dm).2=0) :
 (∀ x:ByteArray,((encAns s dm).1++x).size≤4000→decAns s ((encAns s dm).1++x)=(dm,(encAns s dm).1.size,0))∧
 (∀ k,k<(encAns s dm).1.size→(encAns s dm).1.size≤4000→decAns s ((encAns s dm).1.extract 0 k)=(noB,0,6)):=by
 obtain⟨h0,hb,ds,t,d,hp,hq,hn,he⟩:=enc_ok h
 obtain⟨g1,g2,g3,g4,g5⟩:=sym_of h0 hp
 obtain⟨a1,a2,a3⟩:=rdT_at g5 (by omega) _ t g4 0 d _ (by omega) hq
 rw[he]
 have hx:txT (envOf ds) d t=dm:=a2.eq (At.self dm) (by omega)
 refine⟨fun x hz=>?_,fun k hk hz=>?_⟩
 ·simp only at hz⊢
  unfold decAns
  rw[if_pos h0,if_neg (by omega),hp]
  simp only[back_whole g5 a1 hn x,hx]
 ·simp only at hk hz⊢
  have hs:((byT d).extract 0 k).size=k:=by rw[ByteArray.size_extract];omega
  unfold decAns
  rw[if_pos h0,if_neg (by omega),hp]
  simp only[back_cut g5 g4 a1 hn hk]
  rfl
end Go.Proofs.YtiifagiebikmdaaGreatDoor
