import Derived.Test.YtiifagiebikmdaaGreatDoorBK39
import Derived.Test.YtiifagiebikmdaaGreatDoorBK32
import Derived.Test.YtiifagiebikmdaaGreatDoorBK11
namespace Go.Proofs.YtiifagiebikmdaaGreatDoor
open Go.RowKit
def encAns (s dm:ByteArray):ByteArray×Int:=
 if (parseAns s).1=0 then
  if 4000<dm.size then (noB,1)
  else match pSchema s with
   | .error _=>(noB,0)
   | .ok (ds,t)=>match readT (envOf ds) false t dm with
    | none=>(noB,5)
    | some d=>if ndT d > 300 then (noB,7) else (byT d,0)
 else (noB,(parseAns s).1)
def EncOK (s dm:ByteArray):Prop:=(parseAns s).1=0→dm.size≤4000→∀ ds t d,pSchema s=.ok (ds,t)→readT (envOf ds) false t dm=some d→ndT d≤300→okD d
def EncPost (w:World) (s dm:ByteArray) (e:Ending) (w':World):Prop:=∃ ev,e=.returned (.tuple #[.string (encAns s dm).1,ev])∧Fr w w' (fun _=>False)∧NumIs w' ev (encAns s dm).2∧EncOK s dm
theorem enc_read {A:Nat→Addr}{w w1:World}{s dm:ByteArray}{sv rv:Value}{ds:List PD}{t:PT}(S:Sents A w) (hI:ItoaOK w) (hQ:QuoteOK w) (hPar:ParseOK w) (hp:pSchema s=.ok (ds,t)) (hM:SchM w.heap.size w1 s sv rv) (hf:Fr w w1 (fun _=>False)) (hd:dm.size≤4000) :
 ∃ sa sn sc rT rx,sv=.slice sa sn sc∧rv=.iface rT rx∧∀ o,Calls Tryz.prog 29 #[.agg #[sv,rv],.string dm] (w1.alloc o) (WdPost (w1.alloc o) (fun _=>False) (errsOf A).nt (errsOf A).nx (readT (envOf ds) false t dm)):=by
 obtain⟨ds',t',xs,hs,hp',hn,hu,D,hT⟩:=hM
 rw[hp] at hp'
 cases hp'
 obtain⟨f1,f2,f3,f4,_⟩:=schema_fine hs hp hn hu
 obtain⟨sa,sc,rfl⟩:=own_sl D.row
 obtain⟨rT,rx,rfl⟩:=hT.iface
 refine⟨sa,_,sc,rT,rx,rfl,rfl,fun o=>?_⟩
 have hA:Fr w1 (w1.alloc o) (fun _=>False):=(Fr.refl w1 _).alloc o
 have hz:=hA.size
 exact nRead_any (w0:=w) (D.fr hA (fun _ _ f=>f)) (hT.fr hA (fun _ _ f=>f)) ((SameG.refl w).fr (hf.trans hA (fun _ _ f=>f)) (Nat.le_refl _) (fun _ f=>f.elim)) (by have:=hf.size;omega) (fun g hg=>by omega) S.errs.n hd f4 f1 f2 f3 hI hQ (num_all hPar) hPar
set_option maxHeartbeats 8000000 in
set_option maxRecDepth 100000 in
theorem encode_any {A:Nat→Addr}{w:World}{s dm:ByteArray}(S:Sents A w) (hI:ItoaOK w) (hQ:QuoteOK w) (hPar:ParseOK w) :
 Calls Tryz.prog 17 #[.string s,.string dm] w (EncPost w s dm):=by
 obtain⟨POST,hPOST⟩:∃ Q,Hid (Q=EncPost w s dm):=⟨_,rfl⟩
 rw[← hPOST.out]
 have hR:=hide (pRead_any (s:=s) S.errs hI hQ (num_all hPar))
 by_cases h0:(parseAns s).1=0
 ·cases hp:pSchema s with
  | error k=>
   exfalso
   unfold parseAns at h0
   rw[hp] at h0
   split at h0 <;> simp at h0
  | ok r=>
   obtain⟨ds,t⟩:=r
   by_cases hd:4000<dm.size
   ·have hans:=hide (show encAns s dm=(noB,1) by unfold encAns;rw[if_pos h0,if_pos hd])
    have hlong:=hide (fun (W:World) (sa sn sc rT rx) (hW:Fr w W (fun _=>False))=>nRead_long (w:=W) (sa:=sa) (sn:=sn) (sc:=sc) (rT:=rT) (rx:=rx) (s:=dm) ((S.fr hW).var 8 (by decide)) hd)
    replace h0:=hide h0
    replace S:=hide S
    replace hp:=hide hp
    replace hd:=hide hd
    clear hI hQ hPar
    go_enter Tryz.func17,Tryz.ntmps17
    go_wp2_with (first
     |(go_at_call 28;refine hR.out.mono ?_;rintro e w1 ⟨sv,rv,ev,rfl,-,-,hf1,hEr,hM⟩;obtain⟨_,rfl⟩:=hEr.zero h0.out;obtain⟨ds',t',xs,hs',hp',hn',hu',D,hT⟩:=hM h0.out;obtain⟨sa,sc,rfl⟩:=own_sl D.row;obtain⟨rT,rx,rfl⟩:=hT.iface;replace hf1:=hide hf1;clear hEr hM hs' hp' hn' hu' D hT)
     |(go_at_call 29;refine(hlong.out _ _ _ _ _ _ (hf1.out.alloc _)).mono ?_;rintro e w2 ⟨rfl,hf2⟩;replace hf2:=hide hf2))
    try go_ret
    rw[hPOST.out]
    unfold EncPost
    rw[hans.out]
    have hf:=(hf1.out.alloc _).trans hf2.out (fun _ _ f=>f)
    exact⟨_,rfl,hf,fun W hW=>number_notationErrLong ((S.out.fr hf).fr hW) .leaf,fun _ h=>absurd hd.out (by omega)⟩
   ·have hd':dm.size≤4000:=by omega
    have hread:=hide (fun w1 sv rv=>enc_read (w1:=w1) (dm:=dm) (sv:=sv) (rv:=rv) S hI hQ hPar hp)
    have hans:encAns s dm=match readT (envOf ds) false t dm with|none=>(noB,5)|some d=>if ndT d > 300 then (noB,7) else (byT d,0):=by unfold encAns;rw[if_pos h0,if_neg hd,hp]
    have hnodes:=fun d=>readT_nodes (env:=envOf ds) (t:=t) (s:=dm) (d:=d)
    replace h0:=hide h0
    replace S:=hide S
    clear hI hQ hPar
    replace hp:=hide hp
    cases hq:readT (envOf ds) false t dm with
    | none=>
     rw[hq] at hans
     replace hans:=hide hans
     replace hq:=hide hq
     clear hnodes
     go_enter Tryz.func17,Tryz.ntmps17
     go_wp2_with (first
      |(go_at_call 28;refine hR.out.mono ?_;rintro e w1 ⟨sv,rv,ev,rfl,-,-,hf1,hEr,hM⟩;obtain⟨_,rfl⟩:=hEr.zero h0.out;obtain⟨sa,sn,sc,rT,rx,rfl,rfl,hC⟩:=hread.out w1 sv rv (hM h0.out) hf1 hd';replace hf1:=hide hf1;replace hC:=hide hC;clear hEr hM)
      |(go_at_call 29;refine(hC.out _).mono ?_;rintro e w2 ⟨v2,ev2,rfl,hf2,hm⟩;rw[hq.out] at hm;obtain⟨rfl,hm⟩:=hm;obtain⟨T2,x2,rfl⟩:=hm.iface;replace hm:=hide hm;replace hf2:=hide hf2))
     try go_ret
     rw[hPOST.out]
     unfold EncPost
     rw[hans.out]
     have hf:=(hf1.out.alloc _).trans hf2.out (fun _ _ f=>f)
     exact⟨_,rfl,hf,hm.out.numIs (S.out.fr hf),fun _ _ ds' t' d' h1 h2 _=>by rw[hp.out] at h1;cases h1;rw[hq.out] at h2;cases h2⟩
    | some d=>
     have hn:=hnodes d hq
     rw[hq] at hans
     replace hq:=hide hq
     clear hnodes
     by_cases h3:ndT d > 300
     ·replace hans:=hide (show encAns s dm=(noB,7) by rw[hans];exact if_pos h3)
      replace h3:=hide h3
      go_enter Tryz.func17,Tryz.ntmps17
      go_wp2_with (first
       |(go_at_call 28;refine hR.out.mono ?_;rintro e w1 ⟨sv,rv,ev,rfl,-,-,hf1,hEr,hM⟩;obtain⟨_,rfl⟩:=hEr.zero h0.out;obtain⟨sa,sn,sc,rT,rx,rfl,rfl,hC⟩:=hread.out w1 sv rv (hM h0.out) hf1 hd';replace hf1:=hide hf1;replace hC:=hide hC;clear hEr hM)
       |(go_at_call 29;refine(hC.out _).mono ?_;rintro e w2 ⟨v2,ev2,rfl,hf2,hm⟩;rw[hq.out] at hm;obtain⟨rfl,hm⟩:=hm;have hf:=hide ((hf1.out.alloc _).trans hf2 (fun _ _ f=>f));have hC2:=checkNodes_any hm (by omega) ((S.out.fr hf.out).var 5 (by decide));rw[if_pos h3.out] at hC2;replace hC2:=hide hC2;obtain⟨T2,x2,rfl⟩:=hm.iface;clear hm hf2)
       |(go_at_call 30;refine hC2.out.mono ?_;rintro e w3 ⟨rfl,hf3⟩;replace hf3:=hide hf3))
      try go_ret
      rw[hPOST.out]
      unfold EncPost
      rw[hans.out]
      have hf4:=hf.out.trans hf3.out (fun _ _ f=>f)
      exact⟨_,rfl,hf4,fun W hW=>number_dataErrBig ((S.out.fr hf4).fr hW) .leaf,fun _ _ ds' t' d' h1 h2 h4=>by rw[hp.out] at h1;cases h1;rw[hq.out] at h2;cases h2;exact absurd h3.out (by omega)⟩
     ·replace hans:=hide (show encAns s dm=(byT d,0) by rw[hans];exact if_neg h3)
      have h3':8022*ndT d≤90000000:=by omega
      replace h3:=hide h3
      go_enter Tryz.func17,Tryz.ntmps17
      go_wp2_with (first
       |(go_at_call 28;refine hR.out.mono ?_;rintro e w1 ⟨sv,rv,ev,rfl,-,-,hf1,hEr,hM⟩;obtain⟨_,rfl⟩:=hEr.zero h0.out;obtain⟨sa,sn,sc,rT,rx,rfl,rfl,hC⟩:=hread.out w1 sv rv (hM h0.out) hf1 hd';replace hf1:=hide hf1;replace hC:=hide hC;clear hEr hM)
       |(go_at_call 29;refine(hC.out _).mono ?_;rintro e w2 ⟨v2,ev2,rfl,hf2,hm⟩;rw[hq.out] at hm;obtain⟨rfl,hm⟩:=hm;have hf:=hide ((hf1.out.alloc _).trans hf2 (fun _ _ f=>f));have hC2:=checkNodes_any hm (by omega) ((S.out.fr hf.out).var 5 (by decide));rw[if_neg h3.out] at hC2;replace hC2:=hide hC2;have hOk:=hide hm.ok;have hW:=hide (fun w3 hf3=>write_any (w:=w3) (hm.fr hf3 (fun _ _ (f:False)=>f)) h3');obtain⟨T2,x2,rfl⟩:=hm.iface;clear hm hf2)
       |(go_at_call 30;refine hC2.out.mono ?_;rintro e w3 ⟨rfl,hf3⟩;replace hf3:=hide hf3)
       |(go_at_call 31;refine(hW.out _ hf3.out).mono ?_;rintro e w4 ⟨rfl,hf4⟩;replace hf4:=hide hf4))
      try go_ret
      rw[hPOST.out]
      unfold EncPost
      rw[hans.out]
      have hf5:=(hf.out.trans hf3.out (fun _ _ f=>f)).trans hf4.out (fun _ _ f=>f)
      exact⟨_,rfl,hf5,nil_numIs (S.out.fr hf5),fun _ _ ds' t' d' h1 h2 _=>by rw[hp.out] at h1;cases h1;rw[hq.out] at h2;cases h2;exact hOk.out⟩
 ·have hans:=hide (show encAns s dm=(noB,(parseAns s).1) by unfold encAns;rw[if_neg h0])
  replace h0:=hide h0
  replace S:=hide S
  clear hI hQ hPar
  go_enter Tryz.func17,Tryz.ntmps17
  go_wp2_with (go_at_call 28;refine hR.out.mono ?_;rintro e w1 ⟨sv,rv,ev,rfl,⟨sa,sn,sc,rfl⟩,hIr,hf1,hEr,-⟩;have hk:=hide (hEr.numIs (S.out.fr hf1) h0.out);obtain⟨T,x,rfl,_⟩:=hEr.num (S.out.fr hf1) h0.out;replace hf1:=hide hf1;clear hEr;rcases hIr with rfl|⟨rT,rx,rfl⟩)
  all_goals
   try go_ret
   rw[hPOST.out]
   unfold EncPost
   rw[hans.out]
   exact⟨_,rfl,hf1.out.alloc _,hk.out.fr ((Fr.refl _ _).alloc _),fun h=>absurd h h0.out⟩
open Go.RowKit
set_option maxHeartbeats 8000000 in
set_option maxRecDepth 100000 in
theorem kEncode_any {A:Nat→Addr}{w:World}{s dm:ByteArray}(S:Sents A w) (hI:ItoaOK w) (hQ:QuoteOK w) (hPar:ParseOK w) :
 Calls Tryz.prog 7 #[.string s,.string dm] w fun e w'=>e=.returned (.tuple #[.string (encAns s dm).1,.int .i64 (encAns s dm).2])∧Fr w w' (fun _=>False)∧EncOK s dm:=by
 obtain⟨POST,hPOST⟩:∃ Q,Hid (Q=fun (e:Ending) (w':World)=>e=.returned (.tuple #[.string (encAns s dm).1,.int .i64 (encAns s dm).2])∧Fr w w' (fun _=>False)∧EncOK s dm):=⟨_,rfl⟩
 rw[← hPOST.out]
 have hC:=encode_any (s:=s) (dm:=dm) S hI hQ hPar
 unfold EncPost at hC
 obtain⟨b,hb⟩:∃ b,(encAns s dm).1=b:=⟨_,rfl⟩
 obtain⟨n,hn⟩:∃ n,(encAns s dm).2=n:=⟨_,rfl⟩
 rw[hb,hn] at hPOST
 rw[hb,hn] at hC
 replace hC:=hide hC
 clear S hI hQ hPar hb hn
 go_enter Tryz.func7,Tryz.ntmps7
 go_wp2_with (first
  |(go_at_call 17;refine hC.out.mono ?_;rintro e w1 ⟨ev,rfl,hf1,hN,hO⟩;replace hf1:=hide hf1;replace hO:=hide hO;have hk:=hide (hN w1 (Fr.refl _ _));clear hN)
  |(go_at_call 18;refine hk.out.mono ?_;rintro e w2 ⟨rfl,rfl⟩))
 try go_ret
 rw[hPOST.out]
 exact⟨rfl,hf1.out,hO.out⟩
end Go.Proofs.YtiifagiebikmdaaGreatDoor
