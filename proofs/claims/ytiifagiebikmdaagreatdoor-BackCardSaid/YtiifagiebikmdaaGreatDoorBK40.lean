import Derived.Test.YtiifagiebikmdaaGreatDoorBK37
import Derived.Test.YtiifagiebikmdaaGreatDoorBK34
import Derived.Test.YtiifagiebikmdaaGreatDoorBK13
import Derived.Test.YtiifagiebikmdaaGreatDoorBK39
import Derived.Test.YtiifagiebikmdaaGreatDoorBK29
namespace Go.Proofs.YtiifagiebikmdaaGreatDoor
open Go.RowKit
def decAns (s bs:ByteArray):ByteArray×Nat×Int:=
 if (parseAns s).1=0 then
  if 4000<bs.size then (noB,0,1)
  else match pSchema s with
   | .error _=>(noB,0,0)
   | .ok (ds,t)=>match rdB bs (envOf ds) 301 t 0 0 with
    | .error e0=>(noB,0,(e0:Int))
    | .ok (d,j,_)=>(txT (envOf ds) d t,j,0)
 else (noB,0,(parseAns s).1)
def ErrsB (R:Nat→Nat→Except Nat (DT×Nat×Nat)):Prop:=∀ i n e,R i n=.error e→e=6∨e=7
theorem bItems_err {s:ByteArray}{R:Nat→Nat→Except Nat (DT×Nat×Nat)}(hR:ErrsB R){keyed:Bool}:∀ (c:Nat) (last:Option ByteArray) (i n e:Nat),bItems R s keyed c last i n=.error e→e=6∨e=7
 | 0,last,i,n,e,h=>by simp[bItems] at h
 | c+1,last,i,n,e,h=>by
  unfold bItems at h
  split at h
  ·cases h;exact .inl rfl
  ·split at h
   ·rename_i he
    cases h
    exact hR _ _ _ he
   ·split at h
    ·rename_i he
     cases h
     exact bItems_err hR c _ _ _ _ he
    ·cases h
theorem bFields_err {R:PT→Nat→Nat→Except Nat (DT×Nat×Nat)}(hR:∀ t,ErrsB (R t)):∀ (ts:List PT) (i n e:Nat),bFields R ts i n=.error e→e=6∨e=7
 | [],i,n,e,h=>by simp[bFields] at h
 | t::r,i,n,e,h=>by
  unfold bFields at h
  split at h
  ·rename_i he
   cases h
   exact hR _ _ _ _ he
  ·split at h
   ·rename_i he
    cases h
    exact bFields_err hR r _ _ _ he
   ·cases h
theorem rdB_err (s:ByteArray) (env:Nat→Option PB):∀ (f:Nat) (t:PT),ErrsB (rdB s env f t):=by
 intro f
 induction f with
 | zero=>intro t i n e h;simp only[rdB] at h;cases h;exact .inr rfl
 | succ f ih=>
  intro t i n e h
  unfold rdB at h
  split at h
  ·cases h;exact .inr rfl
  ·split at h
   ·unfold bLeaf at h
    split at h
    ·cases h
    ·split at h
     ·split at h
      ·cases h
      ·cases h;exact .inl rfl
     ·split at h
      ·split at h
       ·cases h;exact .inl rfl
       ·cases h
      ·split at h
       ·split at h
        ·cases h;exact .inl rfl
        ·cases h
       ·split at h
        ·split at h
         ·cases h;exact .inl rfl
         ·cases h
        ·split at h
         ·cases h;exact .inl rfl
         ·unfold bNamed at h
          split at h
          ·split at h
           ·rename_i he
            cases h
            exact bFields_err ih _ _ _ _ he
           ·cases h
          ·split at h
           ·cases h;exact .inl rfl
           ·cases h
          ·split at h
           ·cases h;exact .inl rfl
           ·cases h
   ·unfold bWrap at h
    split at h
    ·cases h;exact .inl rfl
    ·split at h
     ·rename_i he
      cases h
      exact bItems_err (ih _) _ _ _ _ _ he
     ·cases h
   ·unfold bBranch at h
    split at h
    ·cases h;exact .inl rfl
    ·split at h
     ·cases h;exact .inl rfl
     ·split at h
      ·rename_i he
       cases h
       exact ih _ _ _ _ he
      ·cases h
def werrOf (A:Nat→Addr):WErr:=⟨309,.pointer (some (A 4)),309,.pointer (some (A 5))⟩
theorem ErrD.chainOf {w:World}{lo:Nat}{a:Addr}{v:Value}(h:ErrD w lo 309 (.pointer (some a)) v):∃ n,Chain w a n v:=by
 induction h with
 | base=>exact⟨0,.leaf⟩
 | within g hg tx hb h ih=>
  obtain⟨n,ih⟩:=ih
  exact⟨n+1,.within g tx _ n hb ih⟩
theorem werr_numIs {A:Nat→Addr}{w:World}{lo e0:Nat}{ev:Value}(S:Sents A w) (he:e0=6∨e0=7) (h:ErrD w lo ((werrOf A).t e0) ((werrOf A).x e0) ev):NumIs w ev (e0:Int):=fun W hW=>by
 have h2:=h.fr hW (fun _ _ f=>f)
 rcases he with rfl|rfl
 ·obtain⟨n,hc⟩:=ErrD.chainOf h2
  exact number_wireErrData (S.fr hW) hc
 ·obtain⟨n,hc⟩:=ErrD.chainOf h2
  exact number_dataErrBig (S.fr hW) hc
mutual
theorem fewT_few:∀ t:PT,fewB t→fewT t
 | .leaf _ _,_=>by unfold fewT;trivial
 | .wrap _ _ t,h=>by unfold fewT;unfold fewB at h;exact fewT_few t h
 | .alts _ l,h=>by unfold fewT;unfold fewB at h;exact⟨h.1,fewTs_few l h.2⟩
theorem fewTs_few:∀ l:List PT,(∀ t∈l,fewB t)→fewTs l
 | [],_=>by unfold fewTs;trivial
 | t::r,h=>by unfold fewTs;exact⟨fewT_few t (h t (List.mem_cons_self ..)),fewTs_few r (fun u hu=>h u (List.mem_cons_of_mem _ hu))⟩
end
theorem few_env {ds:List PD}(hg:goodEnv ds):fewE (envOf ds):=fun c _ e=>⟨(hg c _ e).1.1,fun g hgm=>fewT_few _ ((hg c _ e).1.2.2 g hgm)⟩
def DecOK (s bs:ByteArray):Prop:=(parseAns s).1=0→bs.size≤4000→∀ ds t d j m,pSchema s=.ok (ds,t)→rdB bs (envOf ds) 301 t 0 0=.ok (d,j,m)→okD d
def DecdPost (w:World) (s bs:ByteArray) (e:Ending) (w':World):Prop:=∃ ev,e=.returned (.tuple #[.string (decAns s bs).1,.int .i64 ((decAns s bs).2.1:Int),ev])∧Fr w w' (fun _=>False)∧NumIs w' ev (decAns s bs).2.2∧DecOK s bs
theorem dec_read {A:Nat→Addr}{w w1:World}{s bs:ByteArray}{sv rv:Value}{ds:List PD}{t:PT}(S:Sents A w) (hI:ItoaOK w) (hQ:QuoteOK w) (hp:pSchema s=.ok (ds,t)) (hM:SchM w.heap.size w1 s sv rv) (hf:Fr w w1 (fun _=>False)) (hd:bs.size≤4000) :
 ∃ sa sn sc rT rx,sv=.slice sa sn sc∧rv=.iface rT rx∧∀ o,Calls Tryz.prog 36 #[.agg #[sv,rv],.string bs] (w1.alloc o) (WrPost (envOf ds) t (w1.alloc o) (werrOf A) (rdB bs (envOf ds) 301 t 0 0)):=by
 obtain⟨ds',t',xs,hs,hp',hn,hu,D,hT⟩:=hM
 rw[hp] at hp'
 cases hp'
 obtain⟨f1,f2,f3,f4,_⟩:=schema_fine hs hp hn hu
 obtain⟨sa,sc,rfl⟩:=own_sl D.row
 obtain⟨rT,rx,rfl⟩:=hT.iface
 refine⟨sa,_,sc,rT,rx,rfl,rfl,fun o=>?_⟩
 have hA:Fr w1 (w1.alloc o) (fun _=>False):=(Fr.refl w1 _).alloc o
 have hz:=hA.size
 exact wread_any (w0:=w) (D.fr hA (fun _ _ f=>f)) (hT.fr hA (fun _ _ f=>f)) ((SameG.refl w).fr (hf.trans hA (fun _ _ f=>f)) (Nat.le_refl _) (fun _ f=>f.elim)) (by have:=hf.size;omega) (fun g hg=>by omega) (S.var 4 (by decide)) (S.var 5 (by decide)) hd f4 (fewT_few t (pSchema_all hs hp).2.1) f1 (few_env f1) hI hQ
open Go.RowKit
set_option maxHeartbeats 8000000 in
set_option maxRecDepth 100000 in
theorem decode_any {A:Nat→Addr}{w:World}{s bs:ByteArray}(S:Sents A w) (hI:ItoaOK w) (hQ:QuoteOK w) (hPar:ParseOK w) (hA:AppIntOK w) :
 Calls Tryz.prog 22 #[.string s,.string bs] w (DecdPost w s bs):=by
 obtain⟨POST,hPOST⟩:∃ Q,Hid (Q=DecdPost w s bs):=⟨_,rfl⟩
 rw[← hPOST.out]
 have hR:=hide (pRead_any (s:=s) S.errs hI hQ (num_all hPar))
 by_cases h0:(parseAns s).1=0
 ·cases hp:pSchema s with
  | error k=>
   exfalso
   unfold parseAns at h0
   rw[hp] at h0
   split at h0 <;> simp at h0
  | ok r=>
   obtain⟨ds,t⟩:=r
   by_cases hd:4000<bs.size
   ·have hans:=hide (show decAns s bs=(noB,0,1) by unfold decAns;rw[if_pos h0,if_pos hd])
    have hlong:=hide (fun (W:World) (sa sn sc rT rx) (hW:Fr w W (fun _=>False))=>wread_long (w:=W) (sa:=sa) (sn:=sn) (sc:=sc) (rT:=rT) (rx:=rx) (s:=bs) ((S.fr hW).var 9 (by decide)) hd)
    replace h0:=hide h0
    replace S:=hide S
    replace hp:=hide hp
    replace hd:=hide hd
    clear hI hQ hPar hA
    go_enter Tryz.func22,Tryz.ntmps22
    go_wp2_with (first
     |(go_at_call 28;refine hR.out.mono ?_;rintro e w1 ⟨sv,rv,ev,rfl,-,-,hf1,hEr,hM⟩;obtain⟨_,rfl⟩:=hEr.zero h0.out;obtain⟨ds',t',xs,hs',hp',hn',hu',D,hT⟩:=hM h0.out;obtain⟨sa,sc,rfl⟩:=own_sl D.row;obtain⟨rT,rx,rfl⟩:=hT.iface;replace hf1:=hide hf1;clear hEr hM hs' hp' hn' hu' D hT)
     |(go_at_call 36;refine(hlong.out _ _ _ _ _ _ (hf1.out.alloc _)).mono ?_;rintro e w2 ⟨rfl,hf2⟩;replace hf2:=hide hf2))
    refine bodyPost_ret (v:=.tuple #[.string noB,.int .i64 0,.iface 309 (.pointer (some (A 9)))]) (by simp[results,Tryz.results22,go_sem];rfl) rfl ?_
    rw[hPOST.out]
    unfold DecdPost
    rw[hans.out]
    have hf:=(hf1.out.alloc _).trans hf2.out (fun _ _ f=>f)
    exact⟨_,rfl,hf,fun W hW=>number_wireErrLong ((S.out.fr hf).fr hW) .leaf,fun _ h=>absurd hd.out (by omega)⟩
   ·have hd':bs.size≤4000:=by omega
    have hread:=hide (fun w1 sv rv=>dec_read (w1:=w1) (bs:=bs) (sv:=sv) (rv:=rv) S hI hQ hp)
    have hans:decAns s bs=match rdB bs (envOf ds) 301 t 0 0 with | .error e0=>(noB,0,(e0:Int)) | .ok (d,j,_)=>(txT (envOf ds) d t,j,0):=by unfold decAns;rw[if_pos h0,if_neg hd,hp] <;> rfl
    replace h0:=hide h0
    replace S:=hide S
    clear hI hQ hPar
    replace hp:=hide hp
    cases hq:rdB bs (envOf ds) 301 t 0 0 with
    | error e0=>
     rw[hq] at hans
     have he:=hide (rdB_err bs (envOf ds) 301 t 0 0 e0 hq)
     replace hans:=hide hans
     replace hq:=hide hq
     clear hA
     go_enter Tryz.func22,Tryz.ntmps22
     go_wp2_with (first
      |(go_at_call 28;refine hR.out.mono ?_;rintro e w1 ⟨sv,rv,ev,rfl,-,-,hf1,hEr,hM⟩;obtain⟨_,rfl⟩:=hEr.zero h0.out;obtain⟨sa,sn,sc,rT,rx,rfl,rfl,hC⟩:=hread.out w1 sv rv (hM h0.out) hf1 hd';replace hf1:=hide hf1;replace hC:=hide hC;clear hEr hM)
      |(go_at_call 36;refine(hC.out _).mono ?_;rintro e w2 ⟨v2,k2,ev2,rfl,hf2,hm⟩;rw[hq.out] at hm;obtain⟨rfl,rfl,hm⟩:=hm;obtain⟨T2,x2,rfl⟩:=hm.iface;replace hm:=hide hm;replace hf2:=hide hf2))
     refine bodyPost_ret (v:=.tuple #[.string noB,.int .i64 0,.iface T2 x2]) (by simp[results,Tryz.results22,go_sem];rfl) rfl ?_
     rw[hPOST.out]
     unfold DecdPost
     rw[hans.out]
     have hf:=(hf1.out.alloc _).trans hf2.out (fun _ _ f=>f)
     exact⟨_,rfl,hf,werr_numIs (S.out.fr hf) he.out hm.out,fun _ _ ds' t' d' j' m' h1 h2=>by rw[hp.out] at h1;cases h1;rw[hq.out] at h2;cases h2⟩
    | ok q=>
     obtain⟨d,j,mm⟩:=q
     have hn:=(rdB_fits bs (envOf ds) 301 t 0 0 d j mm hq).2
     have hg:=rdB_goes bs (envOf ds) 301 t 0 0 d j mm (Nat.zero_le _) (by omega) hq
     have h3':8022*ndT d≤90000000:=by omega
     rw[hq] at hans
     replace hans:=hide hans
     replace hq:=hide hq
     replace hn:=hide hn
     replace hg:=hide hg
     go_enter Tryz.func22,Tryz.ntmps22
     go_wp2_with (first
      |(go_at_call 28;refine hR.out.mono ?_;rintro e w1 ⟨sv,rv,ev,rfl,-,-,hf1,hEr,hM⟩;obtain⟨_,rfl⟩:=hEr.zero h0.out;obtain⟨sa,sn,sc,rT,rx,rfl,rfl,hC⟩:=hread.out w1 sv rv (hM h0.out) hf1 hd';replace hf1:=hide hf1;replace hC:=hide hC;clear hEr hM)
      |(go_at_call 36;refine(hC.out _).mono ?_;rintro e w2 ⟨v2,k2,ev2,rfl,hf2,hm⟩;rw[hq.out] at hm;obtain⟨rfl,rfl,hm⟩:=hm;have hf:=(hf1.out.alloc _).trans hf2 (fun _ _ f=>f);have hOk:=hide hm.dat.ok;have hW:=hide (nwrite_any (w0:=w) hA hm hf.size ((SameG.refl w).fr hf (Nat.le_refl _) (fun _ f=>f.elim)) h3');obtain⟨T2,x2,rfl⟩:=hm.iface;replace hf:=hide hf;clear hm hf2)
      |(go_at_call 37;refine hW.out.mono ?_;rintro e w4 ⟨rfl,hf4⟩;replace hf4:=hide hf4))
     refine bodyPost_ret (v:=.tuple #[.string (txT (envOf ds) d t),.int .i64 (k2:Int),.nilIface]) (by simp[results,Tryz.results22,go_sem]) rfl ?_
     rw[hPOST.out]
     unfold DecdPost
     rw[hans.out]
     have hf5:=hf.out.trans hf4.out (fun _ _ f=>f)
     exact⟨_,rfl,hf5,nil_numIs (S.out.fr hf5),fun _ _ ds' t' d' j' m' h1 h2=>by rw[hp.out] at h1;cases h1;rw[hq.out] at h2;cases h2;exact hOk.out⟩
 ·have hans:=hide (show decAns s bs=(noB,0,(parseAns s).1) by unfold decAns;rw[if_neg h0])
  replace h0:=hide h0
  replace S:=hide S
  clear hI hQ hPar hA
  go_enter Tryz.func22,Tryz.ntmps22
  go_wp2_with (go_at_call 28;refine hR.out.mono ?_;rintro e w1 ⟨sv,rv,ev,rfl,⟨sa,sn,sc,rfl⟩,hIr,hf1,hEr,-⟩;have hk:=hide (hEr.numIs (S.out.fr hf1) h0.out);obtain⟨T,x,rfl,_⟩:=hEr.num (S.out.fr hf1) h0.out;replace hf1:=hide hf1;clear hEr;rcases hIr with rfl|⟨rT,rx,rfl⟩)
  all_goals
   refine bodyPost_ret (v:=.tuple #[.string noB,.int .i64 0,.iface T x]) (by simp[results,Tryz.results22,go_sem];rfl) rfl ?_
   rw[hPOST.out]
   unfold DecdPost
   rw[hans.out]
   exact⟨_,rfl,hf1.out.alloc _,hk.out.fr ((Fr.refl _ _).alloc _),fun h=>absurd h h0.out⟩
set_option maxHeartbeats 8000000 in
set_option maxRecDepth 100000 in
theorem kDecode_any {A:Nat→Addr}{w:World}{s bs:ByteArray}(S:Sents A w) (hI:ItoaOK w) (hQ:QuoteOK w) (hPar:ParseOK w) (hA:AppIntOK w) :
 Calls Tryz.prog 10 #[.string s,.string bs] w fun e w'=>e=.returned (.tuple #[.string (decAns s bs).1,.int .i64 ((decAns s bs).2.1:Int),.int .i64 (decAns s bs).2.2])∧Fr w w' (fun _=>False)∧DecOK s bs:=by
 obtain⟨POST,hPOST⟩:∃ Q,Hid (Q=fun (e:Ending) (w':World)=>e=.returned (.tuple #[.string (decAns s bs).1,.int .i64 ((decAns s bs).2.1:Int),.int .i64 (decAns s bs).2.2])∧Fr w w' (fun _=>False)∧DecOK s bs):=⟨_,rfl⟩
 rw[← hPOST.out]
 have hC:=decode_any (s:=s) (bs:=bs) S hI hQ hPar hA
 unfold DecdPost at hC
 obtain⟨b,hb⟩:∃ b,(decAns s bs).1=b:=⟨_,rfl⟩
 obtain⟨j,hj⟩:∃ j,(decAns s bs).2.1=j:=⟨_,rfl⟩
 obtain⟨n,hn⟩:∃ n,(decAns s bs).2.2=n:=⟨_,rfl⟩
 rw[hb,hj,hn] at hPOST
 rw[hb,hj,hn] at hC
 replace hC:=hide hC
 clear S hI hQ hPar hA hb hj hn
 go_enter Tryz.func10,Tryz.ntmps10
 go_wp2_with (first
  |(go_at_call 22;refine hC.out.mono ?_;rintro e w1 ⟨ev,rfl,hf1,hN,hO⟩;replace hf1:=hide hf1;replace hO:=hide hO;have hk:=hide (hN w1 (Fr.refl _ _));clear hN)
  |(go_at_call 18;refine hk.out.mono ?_;rintro e w2 ⟨rfl,rfl⟩))
 refine bodyPost_ret (v:=.tuple #[.string b,.int .i64 (j:Int),.int .i64 n]) (by simp[results,Tryz.results10,go_sem]) rfl ?_
 rw[hPOST.out]
 exact⟨rfl,hf1.out,hO.out⟩
end Go.Proofs.YtiifagiebikmdaaGreatDoor
