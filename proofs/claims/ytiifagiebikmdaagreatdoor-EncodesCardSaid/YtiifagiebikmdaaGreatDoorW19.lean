import Derived.Test.YtiifagiebikmdaaGreatDoorW18
import Derived.Deep.DeepCutAuto
namespace Go.Proofs.YtiifagiebikmdaaGreatDoor
open Go.RowKit
mutual
theorem uses_name:∀ (t:PT),shT t→∀ u∈usesOf t,isName u.1=true
 | .leaf c p,h,u,hu=>by
  simp only[usesOf] at hu
  cases hb:isBase c with
  | true=>rw[hb] at hu;simp at hu
  | false=>
   rw[hb] at hu
   simp only[Bool.false_eq_true,if_false,List.mem_singleton] at hu
   subst hu
   simp only[shT,hb] at h
   exact h.resolve_left (by decide)
 | .wrap c p t,h,u,hu=>uses_name t h.2 u hu
 | .alts p l,h,u,hu=>usesAll_name l h.2 u hu
theorem usesAll_name:∀ (l:List PT),shTs l→∀ u∈usesAll l,isName u.1=true
 | [],_,u,hu=>by simp[usesAll] at hu
 | t::r,h,u,hu=>by
  simp only[usesAll] at hu
  rcases List.mem_append.1 hu with hu|hu
  ·exact uses_name t h.1 u hu
  ·exact usesAll_name r h.2 u hu
end
theorem shTs_of:∀ (l:List PT),(∀ t∈l,shT t)→shTs l
 | [],_=>trivial
 | t::r,h=>⟨h t (by simp),shTs_of r (fun u hu=>h u (by simp[hu]))⟩
theorem accU_name {N:Nat}:∀ (ds:List PD),(∀ d∈ds,shB N d.body)→∀ u∈accU ds,isName u.1=true
 | [],_,u,hu=>by simp[accU] at hu
 | d::r,h,u,hu=>by
  simp only[accU] at hu
  rcases List.mem_append.1 hu with hu|hu
  ·have hb:=h d (by simp)
   cases hd:d.body with
   | recd fs=>
    rw[hd] at hb hu
    refine usesAll_name _ (shTs_of _ (fun t ht=>?_)) u hu
    obtain⟨f,hf,rfl⟩:=List.mem_map.1 ht
    exact hb.1 f hf
   | enum l o=>rw[hd] at hu;simp[PB.us] at hu
   | bytes n=>rw[hd] at hu;simp[PB.us] at hu
  ·exact accU_name r (fun d hd=>h d (by simp[hd])) u hu
theorem useCells_at {us:List (Nat×Nat)}{q:Nat}{p:Nat×Nat}(h:us[q]?=some p):(useCells us)[2*q]?=some (.int .u8 (p.1:Int))∧(useCells us)[2*q+1]?=some (.int .i64 (p.2:Int)):=by
 induction us generalizing q with
 | nil=>simp at h
 | cons x r ih=>
  cases q with
  | zero=>simp only[List.getElem?_cons_zero,Option.some.injEq] at h;subst h;exact⟨rfl,rfl⟩
  | succ q=>
   rw[List.getElem?_cons_succ] at h
   obtain⟨a,b⟩:=ih h
   refine⟨?_,?_⟩
   ·rw[show 2*(q+1)=2*q+1+1 by omega];exact a
   ·rw[show 2*(q+1)+1=2*q+1+1+1 by omega];exact b
theorem wrU_snoc {env:Nat→Option PB}{us:List (Nat×Nat)}{q:Nat}{u:Nat×Nat}(h:us[q]?=some u) (m:Int):wrU env (us.take (q+1)) m=if (env u.1).isNone=true then firstOf (u.2:Int) (wrU env (us.take q) m) else wrU env (us.take q) m:=by
 rw[List.take_add_one,h]
 unfold wrU
 rw[List.foldl_append]
 rfl
def parseAns (s:ByteArray):Int×Int:=
 if 300<s.size then (1,0)
 else match pSchema s with
  | .error k=>(2,(k:Int))
  | .ok (ds,t)=>
   if 0≤wrU (envOf ds) (accU ds++usesOf t) (accW [] ds (-1)) then (3,wrU (envOf ds) (accU ds++usesOf t) (accW [] ds (-1)))
   else if 0≤mix t (accM ds (-1)) then (4,mix t (accM ds (-1)))
   else if 0≤dflUpto s (envOf ds) 6 then (5,dflUpto s (envOf ds) 6)
   else (0,0)
def ParsedAt (W:World) (lo:Nat) (s:ByteArray) (zv:Value):Prop:=
 ∃ (bz:Nat) (ds:List PD) (t:PT) (ts:List TR) (root:Nat) (P1 P2:Nat→Prop),zv=.pointer (some ⟨bz,0,none⟩)∧pSchema s=.ok (ds,t)∧SZ W P1 P2 bz s ts (envOf ds) (.int .i64 (root:Int))∧isT ts root t∧okEnv (envOf ds)∧okT (envOf ds) t∧
  (∀ g,P1 g∨P2 g→g<W.heap.size)∧(∀ g,P2 g→lo≤g)
def ParsePost (w:World) (s:ByteArray) (e:Ending) (w':World):Prop:=
 ∃ zv,e=.returned (.tuple #[zv,.int .i64 (parseAns s).1,.int .i64 (parseAns s).2])∧Fr w w' (fun _=>False)∧if (parseAns s).1=0 then ParsedAt w' w.heap.size s zv else zv=.pointer none
def zeroZ:List Value:=zeroDef++zeroDef++zeroDef++zeroDef++zeroDef++zeroDef++[.int .i64 0]
def pw (w:World) (s:ByteArray):World:=
 (w.alloc (.cells (Value.slice none 0 0::zeroZ).toArray 47)).alloc (.cells #[.string s,.int .i64 0,.bool false,.pointer (some ⟨w.heap.size,0,none⟩),.slice none 0 0,.int .i64 (-1),.int .i64 (-1)] 66)
theorem pw_rep (w:World) (s:ByteArray) (hs:s.size≤300):Rep (pw w s) (fun _=>False) (w.heap.size+1) w.heap.size (w.heap.size+2) s 0 false (-1) (-1) [] [] zeroZ (.slice none 0 0) (.slice none 0 0):=by
 refine⟨?_,(Blk.new w _ _).alloc _,⟨[],World.ownsRow_nil _ _ _ _,fun k t ht=>by simp at ht⟩,World.ownsRow_nil _ _ _ _,fun g hg=>by simp[Value.ownBlock] at hg,by omega,by omega,by simp[pw],by omega,Nat.zero_le _,hs,Nat.zero_le _,Nat.zero_le _,fun g hg=>hg.elim⟩
 have:=Blk.new (w.alloc (.cells (Value.slice none 0 0::zeroZ).toArray 47)) #[.string s,.int .i64 0,.bool false,.pointer (some ⟨w.heap.size,0,none⟩),.slice none 0 0,.int .i64 (-1),.int .i64 (-1)] 66
 have e:(w.alloc (.cells (Value.slice none 0 0::zeroZ).toArray 47)).heap.size=w.heap.size+1:=by simp
 rw[e] at this
 exact this
theorem pw_defs (w:World) (s:ByteArray):DefsAt (pw w s) (fun _=>False) (w.heap.size+2) s zeroZ []:=by
 refine⟨rfl,fun k hk=>⟨0,.slice none 0 0,⟨#[]⟩,0,0,0,[],fun p hp=>?_,World.ownsRow_nil _ _ _ _,fun g hg=>by simp[Value.ownBlock] at hg,?_⟩⟩
 ·match k,hk with
  | 0,_=>match p,hp with|0,_=>rfl|1,_=>rfl|2,_=>rfl|3,_=>rfl|4,_=>rfl
  | 1,_=>match p,hp with|0,_=>rfl|1,_=>rfl|2,_=>rfl|3,_=>rfl|4,_=>rfl
  | 2,_=>match p,hp with|0,_=>rfl|1,_=>rfl|2,_=>rfl|3,_=>rfl|4,_=>rfl
  | 3,_=>match p,hp with|0,_=>rfl|1,_=>rfl|2,_=>rfl|3,_=>rfl|4,_=>rfl
  | 4,_=>match p,hp with|0,_=>rfl|1,_=>rfl|2,_=>rfl|3,_=>rfl|4,_=>rfl
  | 5,_=>match p,hp with|0,_=>rfl|1,_=>rfl|2,_=>rfl|3,_=>rfl|4,_=>rfl
 ·exact⟨rfl,rfl⟩
open Go.RowKit
theorem pw_fr {w w1:World}{s:ByteArray}{tv u:Value}(st:Step (pw w s) w1 (w.heap.size+1) w.heap.size (.slice none 0 0) (.slice none 0 0) tv u):Fr w w1 (fun _=>False):=
 (show Fr w (pw w s) (fun _=>False) from((Fr.refl w _).alloc _).alloc _).trans st.fr (fun x hx e=>by
  rcases e with e|e|e|e
  ·omega
  ·omega
  ·simp[Value.ownBlock] at e
  ·simp[Value.ownBlock] at e)
theorem parse_err {w w1 W:World}{s:ByteArray}{a b:Int}(h:parseAns s=(a,b)) (ha:a≠0) (hf:Fr w w1 (fun _=>False)) (hW:Still w1 W):ParsePost w s (.returned (.tuple #[.pointer none,.int .i64 a,.int .i64 b])) W:=by
 refine⟨.pointer none,by rw[h],hf.still hW,?_⟩
 rw[h]
 rw[if_neg ha]
set_option maxHeartbeats 16000000 in
set_option maxRecDepth 100000 in
theorem parse_ok {w:World}{s:ByteArray}:Calls Tryz.prog 11 #[.string s] w (ParsePost w s):=by
 obtain⟨POST,hPOST⟩:∃ Q,Hid (Q=ParsePost w s):=⟨_,rfl⟩
 rw[← hPOST.out]
 by_cases hl:300<s.size
 ·have hl':(300:Int)<(s.size:Int):=by omega
  go_enter Tryz.func11,Tryz.ntmps11
  go_wp2_with fail
  refine bodyPost_ret (v:=.tuple #[.pointer none,.int .i64 1,.int .i64 0]) (by simp[results,Tryz.results11,go_sem]) rfl ?_
  rw[hPOST.out]
  exact parse_err (by unfold parseAns;rw[if_pos hl]) (by decide) (Fr.refl _ _) (Still.refl _)
 ·have hl':¬ (300:Int)<(s.size:Int):=by omega
  have hs:s.size≤300:=by omega
  have R0:=hide (pw_rep w s hs)
  have D0:=hide (pw_defs w s)
  cases hp:pSchema s with
  | error k=>
   have hans:=hide (show parseAns s=(2,(k:Int)) by unfold parseAns;rw[if_neg hl,hp])
   replace hp:=hide hp
   go_enter Tryz.func11,Tryz.ntmps11
   go_wp2_with (go_at_call 23;refine(whole_rep R0.out D0.out).mono ?_;rintro e w1 ⟨rfl,hW⟩;unfold WholePost at hW;rw[hp.out] at hW;obtain⟨Xk,zs,tv,u,wg,MX,TS,US,R1,st1,_⟩:=hW;have c21:=R1.here.c2;have c11:=R1.here.c1;replace R1:=hide R1;replace st1:=hide st1)
   go_quiet (fail)
   go_wp2_with fail
   refine bodyPost_ret (v:=.tuple #[.pointer none,.int .i64 2,.int .i64 (k:Int)]) (by simp[results,Tryz.results11,go_sem]) rfl ?_
   rw[hPOST.out]
   exact parse_err hans.out (by decide) (pw_fr st1.out) (by first|exact Still.refl _|exact Still.drewN _ _|exact Still.drew _)
  | ok r=>
   obtain⟨ds,t⟩:=r
   obtain⟨us,hus⟩:∃ l,l=accU ds++usesOf t:=⟨_,rfl⟩
   have hsh:=pSchema_shape hp
   have hnm:∀ x∈us,isName x.1=true:=fun x hx=>by
    rw[hus] at hx
    rcases List.mem_append.1 hx with hx|hx
    ·exact accU_name ds hsh.1 x hx
    ·exact uses_name t hsh.2 x hx
   replace hp:=hide hp
   replace hus:=hide hus
   replace hnm:=hide hnm
   replace hsh:=hide hsh
   go_enter Tryz.func11,Tryz.ntmps11
   go_wp2_with (go_at_call 23;refine(whole_rep R0.out D0.out).mono ?_;rintro e w1 ⟨rfl,hW⟩;unfold WholePost at hW;rw[hp.out] at hW;obtain⟨Xk,zs,tv,u,M1,h30⟩:=hW;rw[← hus.out] at M1;have c21:=M1.R.here.c2;replace M1:=hide M1;replace h30:=hide h30)
   obtain⟨ua,uc,rfl⟩:=own_sl M1.out.R.uses
   obtain⟨w0_,hw0_⟩:∃ x,x=accW [] ds (-1):=⟨_,rfl⟩
   replace hw0_:=hide hw0_
   have hul:us.length≤300:=by have:=M1.out.R.ul;omega
   have start:∃ q:Nat,q≤us.length∧us.length+1-q≤us.length+1∧Value.int .i64 0=.int .i64 (q:Int)∧WM (pw w s) (fun x=>False) (w.heap.size+1) w.heap.size (w.heap.size+2) s (.slice none 0 0) (.slice none 0 0) ds s.size false (wrU (envOf ds) (us.take q) w0_) (mix t (accM ds (-1))) (accT 0 ds++flat (accT 0 ds).length t) us Xk zs tv (.slice ua us.length uc) w1:=⟨0,by omega,by omega,rfl,by rw[hw0_.out];exact M1.out⟩
   replace start:=hide start
   clear M1 c21
   go_loopg [6] (us.length+1) (fun mm v6 W=>∃ q:Nat,q≤us.length∧us.length+1-q≤mm∧v6=.int .i64 (q:Int)∧WM (pw w s) (fun x=>False) (w.heap.size+1) w.heap.size (w.heap.size+2) s (.slice none 0 0) (.slice none 0 0) ds s.size false (wrU (envOf ds) (us.take q) w0_) (mix t (accM ds (-1))) (accT 0 ds++flat (accT 0 ds).length t) us Xk zs tv (.slice ua us.length uc) W)
   case atStart=>exact start.out
   case round=>
    clear start
    obtain⟨q,hq,hmq,rfl,M⟩:=hrel
    obtain⟨m,hm⟩:∃ m,wrU (envOf ds) (us.take q) w0_=m:=⟨_,rfl⟩
    rw[hm] at M
    replace hm:=hide hm
    have c4:=M.R.here.c4
    have c3:=M.R.here.c3
    have c5:=M.R.here.c5
    have c6:=M.R.here.c6
    by_cases hql:q<us.length
    ·have hql':(q:Int)<(us.length:Int):=by omega
     obtain⟨x,hx⟩:∃ x,us[q]?=some x:=⟨_,List.getElem?_eq_getElem hql⟩
     have hnx:=hnm.out x (List.mem_of_getElem? hx)
     have hsn:=hide (wrU_snoc (env:=envOf ds) hx w0_)
     obtain⟨gu,cu,hgu⟩:=own_form M.R.uses (by omega)
     simp only[Value.slice.injEq,true_and] at hgu
     obtain⟨rfl,rfl⟩:=hgu
     have n0:=own_cell M.R.uses rfl (useCells_at hx).1
     have n1:=own_cell M.R.uses rfl (useCells_at hx).2
     rw[Nat.mul_comm] at n0 n1
     obtain⟨c,at_⟩:=x
     simp only at n0 n1 hnx hsn
     have hcr:65≤c∧c≤70:=by simpa[isName] using hnx
     obtain⟨kc,hkc⟩:∃ k,c=65+k:=⟨c-65,by omega⟩
     obtain⟨so,hso,hsb⟩:=M.D.sortAt (k:=kc) (by omega)
     have z0:wr.cell? ⟨w.heap.size,1+kc*5,none⟩=some (.int .u8 so):=by
      rw[M.R.z.cell,show 1+kc*5=5*kc+1 by omega,List.getElem?_cons_succ];exact hso
     rw[← hkc] at hsb
     have hwq:=wrap_name kc c hkc (by omega)
     have hk6':(kc:Int)<6:=by omega
     have hck:(c:Int)-65=(kc:Int):=by omega
     replace M:=hide M
     replace hkc:=hide hkc
     clear hx hnx hso
     cases hb:(envOf ds c).isNone with
     | true=>
      rw[hb] at hsb
      replace hb:=hide hb
      go_wp2_with fail
      go_quiet (fail)
      have M2:=hide (M.out.still (Still.drewN wr nq))
      have c42:=M2.out.R.here.c4
      have n12:(wr.drewN nq).cell? ⟨gu,q*2+1,none⟩=some (.int .i64 (at_:Int)):=n1
      clear c3 c4 c5 c6 n0 n1 z0
      generalize wr.drewN nq=W2 at *
      go_wp2_with (go_at_call 24;refine(wrong_rep M2.out.R).mono ?_;rintro e w3 ⟨rfl,hW3,st3⟩;have M3:=M2.out.call hW3 st3;replace M3:=hide M3;clear hW3 st3)
      go_roundg (us.length+1-(q+1))
      case measure=>omega
      case rel=>exact⟨q+1,by omega,Nat.le_refl _,by simp,by rw[hsn.out,hm.out,if_pos hb.out];exact M3.out⟩
     | false=>
      rw[hb] at hsb
      replace hb:=hide hb
      go_wp2_with fail
      go_quiet (fail)
      have M2:=hide (M.out.still (Still.drewN wr nq))
      clear c3 c4 c5 c6 n0 n1 z0
      generalize wr.drewN nq=W2 at *
      go_wp2_with fail
      go_roundg (us.length+1-(q+1))
      case measure=>omega
      case rel=>exact⟨q+1,by omega,Nat.le_refl _,by simp,by rw[hsn.out,hm.out,if_neg (by rw[hb.out];decide)];exact M2.out⟩
    ·have hql':¬ (q:Int)<(us.length:Int):=by omega
     have hmf:wrU (envOf ds) (accU ds++usesOf t) (accW [] ds (-1))=m:=by rw[← hus.out,← hw0_.out,← hm.out,List.take_of_length_le (by omega)]
     obtain⟨mx,hmx⟩:∃ x,x=mix t (accM ds (-1)):=⟨_,rfl⟩
     simp only[← hmx] at c6
     have hans:parseAns s=if 0≤m then (3,m) else if 0≤mx then (4,mx) else if 0≤dflUpto s (envOf ds) 6 then (5,dflUpto s (envOf ds) 6) else (0,0):=by
      unfold parseAns
      rw[if_neg hl,hp.out]
      simp only
      rw[hmf,← hmx]
     have hfr:=hide (pw_fr M.st)
     replace hmf:=hide hmf
     replace hmx:=hide hmx
     by_cases hm0:0≤m
     ·rw[if_pos hm0] at hans
      replace hans:=hide hans
      replace M:=hide M
      go_wp2_with fail
      go_quiet (fail)
      go_wp2_with fail
      refine bodyPost_ret (v:=.tuple #[.pointer none,.int .i64 3,.int .i64 m]) (by simp[results,Tryz.results11,go_sem]) rfl ?_
      rw[hPOST.out]
      exact parse_err hans.out (by decide) hfr.out (by first|exact Still.refl _|exact Still.drewN _ _|exact Still.drew _)
     ·rw[if_neg hm0] at hans
      by_cases hx0:0≤mx
      ·rw[if_pos hx0] at hans
       replace hans:=hide hans
       replace M:=hide M
       go_wp2_with fail
       go_quiet (fail)
       go_wp2_with fail
       refine bodyPost_ret (v:=.tuple #[.pointer none,.int .i64 4,.int .i64 mx]) (by simp[results,Tryz.results11,go_sem]) rfl ?_
       rw[hPOST.out]
       exact parse_err hans.out (by decide) hfr.out (by first|exact Still.refl _|exact Still.drewN _ _|exact Still.drew _)
      ·rw[if_neg hx0] at hans
       have hSO:=schema_ok (m0:=accW [] ds (-1)) (m1:=-1) hs hp.out (by rw[hmf.out];omega) (by rw[← hmx.out];omega)
       have Z:=whole_sz M h30.out
       have DM0:=hide (show DefsM wr _ _ w.heap.size s _ (envOf ds) _ wr from⟨Z,Fr.refl _ _,fun g hg=>hg.1,fun g hg=>(M.R.av g hg.1).1⟩)
       have hbrX:¬ (Xk (w.heap.size+1)∧w.heap.size+2≤w.heap.size+1):=fun h=>by omega
       obtain⟨dv,hdv⟩:∃ x,x=dflUpto s (envOf ds) 6:=⟨_,rfl⟩
       rw[← hdv] at hans
       replace hans:=hide hans
       replace hdv:=hide hdv
       have B3:=hide M.R.here
       replace M:=hide M
       replace hSO:=hide hSO
       clear Z
       by_cases hd0:0≤dv
       ·have hans':=hide (show parseAns s=(5,dv) by rw[hans.out,if_pos hd0])
        go_wp2_with (go_at_call 25;refine(defaults_ok DM0.out hs hSO.out.1 (fun k _=>hSO.out.2.2.1 k) (fun k f _ hf=>hSO.out.2.2.2 k f hf)).mono ?_;rintro e w2 ⟨rfl,M2⟩;rw[← hdv.out];have c32:=(M2.fr.blk B3.out hbrX).cell 3;simp only[RV.cells,List.getElem?_cons_zero,List.getElem?_cons_succ] at c32;replace M2:=hide M2)
        refine bodyPost_ret (v:=.tuple #[.pointer none,.int .i64 5,.int .i64 dv]) (by simp[results,Tryz.results11,go_sem]) rfl ?_
        rw[hPOST.out]
        exact parse_err hans'.out (by decide) (hfr.out.trans M2.out.fr (fun x hx e=>by have:=e.2;omega)) (Still.refl _)
       ·have hans':=hide (show parseAns s=(0,0) by rw[hans.out,if_neg hd0])
        go_wp2_with (go_at_call 25;refine(defaults_ok DM0.out hs hSO.out.1 (fun k _=>hSO.out.2.2.1 k) (fun k f _ hf=>hSO.out.2.2.2 k f hf)).mono ?_;rintro e w2 ⟨rfl,M2⟩;rw[← hdv.out];have c32:=(M2.fr.blk B3.out hbrX).cell 3;simp only[RV.cells,List.getElem?_cons_zero,List.getElem?_cons_succ] at c32;replace M2:=hide M2)
        refine bodyPost_ret (v:=.tuple #[.pointer (some ⟨w.heap.size,0,none⟩),.int .i64 0,.int .i64 0]) (by simp[results,Tryz.results11,go_sem]) rfl ?_
        rw[hPOST.out]
        refine⟨_,by rw[hans'.out],hfr.out.trans M2.out.fr (fun x hx e=>by have:=e.2;omega),?_⟩
        rw[hans'.out,if_pos rfl]
        have hsz:=M2.out.fr.size
        exact⟨w.heap.size,ds,t,_,_,_,_,rfl,hp.out,M2.out.Z,root_isT _ _,hSO.out.1,hSO.out.2.1,fun g hg=>by rcases hg with hg|hg;have:=M2.out.l1 g hg;omega;have:=M2.out.l2 g hg;omega,fun g hg=>by have:=hg.2;omega⟩
end Go.Proofs.YtiifagiebikmdaaGreatDoor
