import Derived.Test.YtiifagiebikmdaaGreatDoorW48
import Derived.Test.YtiifagiebikmdaaGreatDoorW45
import Derived.Test.YtiifagiebikmdaaGreatDoorW43
import Derived.Test.YtiifagiebikmdaaGreatDoorW42
import Derived.Test.YtiifagiebikmdaaGreatDoorW44
import Derived.Test.YtiifagiebikmdaaGreatDoorW47
import Derived.Test.YtiifagiebikmdaaGreatDoorW24
import Derived.Test.YtiifagiebikmdaaGreatDoorW20
import Derived.Test.YtiifagiebikmdaaGreatDoorW19
namespace Go.Proofs.YtiifagiebikmdaaGreatDoor
open Go.RowKit
set_option maxHeartbeats 4000000 in
set_option maxRecDepth 100000 in
theorem checkNodes_any {w:World}{P:Nat→Prop}{d:DT}{v:Value}{bt:TypeId}{bx:Value}(hv:DatV w P d v) (hn:ndT d≤100000) (hE:ErrV 5 w bt bx) :
 Calls Tryz.prog 30 #[v] w fun e w'=>e=.returned (if ndT d > 300 then .iface bt bx else .nilIface)∧Fr w w' (fun _=>False):=by
 obtain⟨POST,hPOST⟩:∃ Q,Hid (Q=fun (e:Ending) (w':World)=>e=.returned (if ndT d > 300 then .iface bt bx else .nilIface)∧Fr w w' (fun _=>False)):=⟨_,rfl⟩
 rw[← hPOST.out]
 have hC:=hide (nodesP_any (ndT d) d (Nat.le_refl _) hn w P v hv)
 obtain⟨T,x,rfl⟩:=hv.iface
 clear hv
 by_cases h3:ndT d > 300
 ·have h3':(ndT d:Int) > 300:=by omega
  rw[if_pos h3] at hPOST
  go_enter Tryz.func30,Tryz.ntmps30
  go_wp2_with (go_at_call 55;refine hC.out.mono ?_;rintro e w2 ⟨rfl,hf2⟩;have hE2:=hE.fr hf2 id;unfold ErrV at hE2;replace hf2:=hide hf2)
  try go_ret
  rw[hPOST.out]
  exact⟨rfl,hf2.out⟩
 ·have h3':¬ (ndT d:Int) > 300:=by omega
  rw[if_neg h3] at hPOST
  go_enter Tryz.func30,Tryz.ntmps30
  go_wp2_with (go_at_call 55;refine hC.out.mono ?_;rintro e w2 ⟨rfl,hf2⟩;replace hf2:=hide hf2)
  try go_ret
  rw[hPOST.out]
  exact⟨rfl,hf2.out⟩
set_option maxHeartbeats 4000000 in
set_option maxRecDepth 100000 in
theorem isLong_nil {A:Nat→Addr}{w:World}(S:Sents A w) :
 Calls Tryz.prog 32 #[.nilIface] w fun e w'=>e=.returned (.bool false)∧w'=w:=by
 have v1:=S.var 7 (by decide)
 have v2:=S.var 8 (by decide)
 have v3:=S.var 9 (by decide)
 unfold ErrV at v1 v2 v3
 have hI:=eIs_nil
 clear S
 go_enter Tryz.func32,Tryz.ntmps32
 go_wp2_with (go_at_call 33;refine(hI _ _).mono ?_;rintro e w' ⟨rfl,rfl⟩)
 try go_ret
 exact⟨rfl,rfl⟩
set_option maxHeartbeats 4000000 in
set_option maxRecDepth 100000 in
theorem number_nil {A:Nat→Addr}{w:World}(S:Sents A w) :
 Calls Tryz.prog 18 #[.nilIface] w fun e w'=>e=.returned (.int .i64 0)∧w'=w:=by
 have v1:=S.var 0 (by decide)
 have v2:=S.var 1 (by decide)
 have v3:=S.var 2 (by decide)
 have v4:=S.var 3 (by decide)
 have v5:=S.var 4 (by decide)
 have v6:=S.var 5 (by decide)
 have v7:=S.var 6 (by decide)
 unfold ErrV at v1 v2 v3 v4 v5 v6 v7
 have hI:=eIs_nil
 have hL:=hide (isLong_nil S)
 clear S
 go_enter Tryz.func18,Tryz.ntmps18
 go_wp2_with (first
  |(go_at_call 32;refine hL.out.mono ?_;rintro e w' ⟨rfl,rfl⟩)
  |(go_at_call 33;refine(hI _ _).mono ?_;rintro e w' ⟨rfl,rfl⟩))
 try go_ret
 exact⟨rfl,rfl⟩
open Go.RowKit
set_option maxHeartbeats 4000000 in
set_option maxRecDepth 100000 in
theorem nRead_long {w:World}{sa:Option Addr}{sn sc:Nat}{rT:TypeId}{rx:Value}{s:ByteArray}{lt:TypeId}{lx:Value}(hE:ErrV 8 w lt lx) (hs:4000<s.size) :
 Calls Tryz.prog 29 #[.agg #[.slice sa sn sc,.iface rT rx],.string s] w fun e w'=>e=.returned (.tuple #[.nilIface,.iface lt lx])∧Fr w w' (fun _=>False):=by
 obtain⟨POST,hPOST⟩:∃ Q,Hid (Q=fun (e:Ending) (w':World)=>e=.returned (.tuple #[.nilIface,.iface lt lx])∧Fr w w' (fun _=>False)):=⟨_,rfl⟩
 rw[← hPOST.out]
 have hs':(s.size:Int) > 4000:=by omega
 have A:Fr w (w.alloc (.cells #[.slice sa sn sc,.iface rT rx] 85)) (fun _=>False):=(Fr.refl w _).alloc _
 have hE2:=hE.fr A id
 unfold ErrV at hE2
 replace A:=hide A
 clear hE
 go_enter Tryz.func29,Tryz.ntmps29
 go_wp2_with fail
 go_quiet (fail)
 go_wp2_with fail
 try go_ret
 rw[hPOST.out]
 exact⟨rfl,A.out.still (Still.drewN _ _)⟩
set_option maxHeartbeats 4000000 in
set_option maxRecDepth 100000 in
theorem nRead_any {w0 w:World}{P:Nat→Prop}{ss:ByteArray}{ds:List PD}{sv:Value}{rT:TypeId}{rx:Value}{xs:List Value}{s:ByteArray}{nt:TypeId}{nx:Value}{t:PT}(D:DRow w P ss ds sv xs) (hT:TyV w P t (.iface rT rx)) (hG:SameG w0 w) (hk:w0.heap.size≤w.heap.size) (hPw:∀ g,P g→g<w.heap.size) (hE:ErrV 3 w0 nt nx) (hs:s.size≤4000) (hok:okT (envOf ds) t) (hen:goodEnv ds) (hbe:brE false ds) (hbt:brT false t) (hI:ItoaOK w0) (hQ:QuoteOK w0) (hN:NumAll w0) (hPar:ParseOK w0) :
 Calls Tryz.prog 29 #[.agg #[sv,.iface rT rx],.string s] w (WdPost w (fun _=>False) nt nx (readT (envOf ds) false t s)):=by
 obtain⟨POST,hPOST⟩:∃ Q,Hid (Q=WdPost w (fun _=>False) nt nx (readT (envOf ds) false t s)):=⟨_,rfl⟩
 rw[← hPOST.out]
 obtain⟨sa,sc,rfl⟩:=own_sl D.row
 have hs':¬ (s.size:Int) > 4000:=by omega
 have A:Fr w ((w.alloc (.cells #[.slice sa ds.length sc,.iface rT rx] 85)).alloc (.cells #[.slice sa ds.length sc,.iface rT rx,.string s,.int .i64 0,.bool true] 114)) (fun _=>False):=((Fr.refl w _).alloc _).alloc _
 have z1:(w.alloc (.cells #[.slice sa ds.length sc,.iface rT rx] 85)).heap.size=w.heap.size+1:=by simp
 have hR0:=Blk.new (w.alloc (.cells #[.slice sa ds.length sc,.iface rT rx] 85)) #[.slice sa ds.length sc,.iface rT rx,.string s,.int .i64 0,.bool true] 114
 rw[z1] at hR0
 have M0:NC w0 P ss ds (.slice sa ds.length sc) (.iface rT rx) xs s nt nx false (w.heap.size+1) 0 ((w.alloc (.cells #[.slice sa ds.length sc,.iface rT rx] 85)).alloc (.cells #[.slice sa ds.length sc,.iface rT rx,.string s,.int .i64 0,.bool true] 114)):=
  ⟨hR0,D.fr A (fun _ _ f=>f),hG.fr A hk (fun g f=>f.elim),hE,fun g hg=>by have:=hPw g hg;omega,by omega,by omega,Nat.zero_le _⟩
 have hC:=hide (nwhole_any M0 (hT.fr A (fun _ _ f=>f)) (dat_all hen hbe hI hQ (hN _ _ _ _ _ _ _ _ _ _ _) (uni_num hI hPar) _ t 0 hok hbt (Nat.zero_le _) (by split <;> omega)))
 replace A:=hide A
 clear M0 hR0 z1 D hT hG
 go_enter Tryz.func29,Tryz.ntmps29
 go_wp2_with (go_at_call 54;refine hC.out.mono ?_;rintro e w1 ⟨v1,ev1,rfl,hf1,hm⟩;replace hf1:=hide hf1;replace hm:=hide hm)
 try go_ret
 rw[hPOST.out]
 have hsz:=A.out.size
 refine⟨v1,ev1,rfl,A.out.trans hf1.out (fun g hg e=>by omega),?_⟩
 have hm':=hm.out
 cases hq:readT (envOf ds) false t s with
 | none=>rw[hq] at hm';exact⟨hm'.1,hm'.2.less hsz⟩
 | some d=>rw[hq] at hm';exact⟨hm'.1,hm'.2.mono (fun g _ h=>by omega)⟩
open Go.RowKit
def errsOf (A:Nat→Addr):Errs:=
 ⟨309,.pointer (some (A 7)),309,.pointer (some (A 0)),309,.pointer (some (A 1)),309,.pointer (some (A 2)),309,.pointer (some (A 3))⟩
theorem Sents.errs {A:Nat→Addr}{w:World}(S:Sents A w):(errsOf A).At w:=
 ⟨S.var _ (by decide),S.var _ (by decide),S.var _ (by decide),S.var _ (by decide),S.var _ (by decide)⟩
theorem ErrD.chain {A:Nat→Addr}{w:World}{lo:Nat}{v:Value}(h:ErrD w lo (errsOf A).nt (errsOf A).nx v):∃ n,Chain w (A 3) n v:=by
 induction h with
 | base=>exact⟨0,.leaf⟩
 | within g hg tx hb h ih=>
  obtain⟨n,ih⟩:=ih
  exact⟨n+1,.within g tx _ n hb ih⟩
theorem ErrFor.fr {E:Errs}{w w':World}{lo:Nat}{ev:Value}{a:Int×Int}(h:ErrFor E w lo ev a) (hf:Fr w w' (fun _=>False)):ErrFor E w' lo ev a:=by
 rcases h with h|h|⟨h1,h2⟩|⟨h1,h2⟩|⟨h1,h2⟩|⟨h1,cv,h2,h3⟩
 ·exact .inl h
 ·exact .inr (.inl h)
 ·exact .inr (.inr (.inl ⟨h1,h2.fr hf (fun _ _ f=>f)⟩))
 ·exact .inr (.inr (.inr (.inl ⟨h1,h2.fr hf (fun _ _ f=>f)⟩)))
 ·exact .inr (.inr (.inr (.inr (.inl ⟨h1,h2.fr hf (fun _ _ f=>f)⟩))))
 ·exact .inr (.inr (.inr (.inr (.inr ⟨h1,cv,h2.fr hf (fun _ _ f=>f),h3.fr hf (fun _ _ f=>f)⟩))))
theorem ErrFor.zero {E:Errs}{w:World}{lo:Nat}{ev:Value}{a:Int×Int}(h:ErrFor E w lo ev a) (h0:a.1=0):a.2=0∧ev=.nilIface:=by
 rcases h with⟨_,h2,h3⟩|⟨h1,_⟩|⟨h1,_⟩|⟨h1,_⟩|⟨h1,_⟩|⟨h1,_⟩
 ·exact⟨h2,h3⟩
 all_goals (rw[h1] at h0;exact absurd h0 (by decide))
theorem ErrFor.num {A:Nat→Addr}{w:World}{lo:Nat}{ev:Value}{a:Int×Int}(S:Sents A w) (h:ErrFor (errsOf A) w lo ev a) (h0:a.1≠0) :
 ∃ T x,ev=.iface T x∧Calls Tryz.prog 18 #[ev] w fun e w'=>e=.returned (.int .i64 a.1)∧w'=w:=by
 have key:∀ (v:Value) (p:Int) (cv:Value),FaultAt w lo v p cv→∃ T x,v=.iface T x:=fun v p cv ⟨g,_,h,_⟩=>⟨_,_,h⟩
 have ch:∀ (v:Value) (p:Int) (cv:Value) (b:Addr) (n:Nat),FaultAt w lo v p cv→Chain w b n cv→Chain w b (n+1) v:=fun v p cv b n ⟨g,_,h,hb⟩ hc=>h▸.fault g p cv n hb hc
 rcases h with⟨h1,_⟩|⟨h1,h2,h3⟩|⟨h1,h2⟩|⟨h1,h2⟩|⟨h1,h2⟩|⟨h1,cv,h2,h3⟩
 ·exact absurd h1 h0
 ·refine⟨_,_,h3,?_⟩
  rw[h1,h3];exact number_schemasErrLong S .leaf
 ·obtain⟨T,x,hv⟩:=key _ _ _ h2
  refine⟨T,x,hv,?_⟩
  rw[h1];exact number_schemasErrGrammar S (ch _ _ _ _ _ h2 .leaf)
 ·obtain⟨T,x,hv⟩:=key _ _ _ h2
  refine⟨T,x,hv,?_⟩
  rw[h1];exact number_schemasErrName S (ch _ _ _ _ _ h2 .leaf)
 ·obtain⟨T,x,hv⟩:=key _ _ _ h2
  refine⟨T,x,hv,?_⟩
  rw[h1];exact number_schemasErrUnion S (ch _ _ _ _ _ h2 .leaf)
 ·obtain⟨T,x,hv⟩:=key _ _ _ h2
  obtain⟨n,hc⟩:=h3.chain
  refine⟨T,x,hv,?_⟩
  rw[h1];exact number_notationErrNotOf S (ch _ _ _ _ _ h2 hc)
open Go.RowKit
mutual
theorem brT_few:∀ t:PT,fewB t→brT false t
 | .leaf _ _,_=>by unfold brT;trivial
 | .wrap _ _ t,h=>by unfold brT;unfold fewB at h;exact brT_few t h
 | .alts _ l,h=>by unfold brT;unfold fewB at h;exact⟨.inr h.1,brTs_few l h.2⟩
theorem brTs_few:∀ l:List PT,(∀ t∈l,fewB t)→brTs false l
 | [],_=>by unfold brTs;trivial
 | t::r,h=>by unfold brTs;exact⟨brT_few t (h t (List.mem_cons_self ..)),brTs_few r (fun u hu=>h u (List.mem_cons_of_mem _ hu))⟩
end
theorem schema_fine {s:ByteArray}(hs:s.size≤300){ds:List PD}{t:PT}(h:pSchema s=.ok (ds,t)) (hn:nameF ds t=[]) (hu:unionF ds t=[]):goodEnv ds∧brE false ds∧brT false t∧okT (envOf ds) t∧okEnv (envOf ds):=by
 obtain⟨a1,a2,_,_,_⟩:=pSchema_asc h
 rw[hn] at a1
 rw[hu] at a2
 have hw:wrU (envOf ds) (accU ds++usesOf t) (accW [] ds (-1))<0:=by rw[a1];decide
 have hm:mix t (accM ds (-1))<0:=by rw[a2];decide
 obtain⟨g1,g2,_,_⟩:=schema_ok hs h hw hm
 have hg:=(schema_good hs h hn hu).1
 refine⟨hg,fun c fs e f hf=>brT_few _ ((hg c _ e).1.2.2 f hf),brT_few t (pSchema_all hs h).2.1,g2,g1⟩
def encAns (s dm:ByteArray):ByteArray×Int:=
 if (parseAns s).1=0 then
  if 4000<dm.size then (noB,1)
  else match pSchema s with
   | .error _=>(noB,0)
   | .ok (ds,t)=>match readT (envOf ds) false t dm with
    | none=>(noB,5)
    | some d=>if ndT d > 300 then (noB,7) else (byT d,0)
 else (noB,(parseAns s).1)
def NumIs (w:World) (ev:Value) (n:Int):Prop:=∀ W,Fr w W (fun _=>False)→Calls Tryz.prog 18 #[ev] W fun e w'=>e=.returned (.int .i64 n)∧w'=W
def EncOK (s dm:ByteArray):Prop:=(parseAns s).1=0→dm.size≤4000→∀ ds t d,pSchema s=.ok (ds,t)→readT (envOf ds) false t dm=some d→ndT d≤300→okD d
def EncPost (w:World) (s dm:ByteArray) (e:Ending) (w':World):Prop:=∃ ev,e=.returned (.tuple #[.string (encAns s dm).1,ev])∧Fr w w' (fun _=>False)∧NumIs w' ev (encAns s dm).2∧EncOK s dm
theorem NumIs.fr {w W:World}{ev:Value}{n:Int}(h:NumIs w ev n) (hf:Fr w W (fun _=>False)):NumIs W ev n:=fun V hV=>h V (hf.trans hV (fun _ _ f=>f))
theorem ErrFor.numIs {A:Nat→Addr}{w:World}{lo:Nat}{ev:Value}{a:Int×Int}(S:Sents A w) (h:ErrFor (errsOf A) w lo ev a) (h0:a.1≠0):NumIs w ev a.1:=fun W hW=>by
 obtain⟨_,_,_,h⟩:=(h.fr hW).num (S.fr hW) h0
 exact h
theorem ErrD.numIs {A:Nat→Addr}{w:World}{lo:Nat}{ev:Value}(S:Sents A w) (h:ErrD w lo (errsOf A).nt (errsOf A).nx ev):NumIs w ev 5:=fun W hW=>by
 obtain⟨n,hc⟩:=(h.fr hW (fun _ _ f=>f)).chain
 exact number_notationErrNotOf (S.fr hW) hc
theorem nil_numIs {A:Nat→Addr}{w:World}(S:Sents A w):NumIs w .nilIface 0:=fun _ hW=>number_nil (S.fr hW)
theorem enc_read {A:Nat→Addr}{w w1:World}{s dm:ByteArray}{sv rv:Value}{ds:List PD}{t:PT}(S:Sents A w) (hI:ItoaOK w) (hQ:QuoteOK w) (hPar:ParseOK w) (hp:pSchema s=.ok (ds,t)) (hM:SchM w.heap.size w1 s sv rv) (hf:Fr w w1 (fun _=>False)) (hd:dm.size≤4000) :
 ∃ sa sn sc rT rx,sv=.slice sa sn sc∧rv=.iface rT rx∧∀ o,Calls Tryz.prog 29 #[.agg #[sv,rv],.string dm] (w1.alloc o) (WdPost (w1.alloc o) (fun _=>False) (errsOf A).nt (errsOf A).nx (readT (envOf ds) false t dm)):=by
 obtain⟨ds',t',xs,hs,hp',hn,hu,D,hT⟩:=hM
 rw[hp] at hp'
 cases hp'
 obtain⟨f1,f2,f3,f4,_⟩:=schema_fine hs hp hn hu
 obtain⟨sa,sc,rfl⟩:=own_sl D.row
 obtain⟨rT,rx,rfl⟩:=hT.iface
 refine⟨sa,_,sc,rT,rx,rfl,rfl,fun o=>?_⟩
 have hA:Fr w1 (w1.alloc o) (fun _=>False):=(Fr.refl w1 _).alloc o
 have hz:=hA.size
 exact nRead_any (w0:=w) (D.fr hA (fun _ _ f=>f)) (hT.fr hA (fun _ _ f=>f)) ((SameG.refl w).fr (hf.trans hA (fun _ _ f=>f)) (Nat.le_refl _) (fun _ f=>f.elim)) (by have:=hf.size;omega) (fun g hg=>by omega) S.errs.n hd f4 f1 f2 f3 hI hQ (num_all hPar) hPar
set_option maxHeartbeats 8000000 in
set_option maxRecDepth 100000 in
theorem encode_any {A:Nat→Addr}{w:World}{s dm:ByteArray}(S:Sents A w) (hI:ItoaOK w) (hQ:QuoteOK w) (hPar:ParseOK w) :
 Calls Tryz.prog 17 #[.string s,.string dm] w (EncPost w s dm):=by
 obtain⟨POST,hPOST⟩:∃ Q,Hid (Q=EncPost w s dm):=⟨_,rfl⟩
 rw[← hPOST.out]
 have hR:=hide (pRead_any (s:=s) S.errs hI hQ (num_all hPar))
 by_cases h0:(parseAns s).1=0
 ·cases hp:pSchema s with
  | error k=>
   exfalso
   unfold parseAns at h0
   rw[hp] at h0
   split at h0 <;> simp at h0
  | ok r=>
   obtain⟨ds,t⟩:=r
   by_cases hd:4000<dm.size
   ·have hans:=hide (show encAns s dm=(noB,1) by unfold encAns;rw[if_pos h0,if_pos hd])
    have hlong:=hide (fun (W:World) (sa sn sc rT rx) (hW:Fr w W (fun _=>False))=>nRead_long (w:=W) (sa:=sa) (sn:=sn) (sc:=sc) (rT:=rT) (rx:=rx) (s:=dm) ((S.fr hW).var 8 (by decide)) hd)
    replace h0:=hide h0
    replace S:=hide S
    replace hp:=hide hp
    replace hd:=hide hd
    clear hI hQ hPar
    go_enter Tryz.func17,Tryz.ntmps17
    go_wp2_with (first
     |(go_at_call 28;refine hR.out.mono ?_;rintro e w1 ⟨sv,rv,ev,rfl,-,-,hf1,hEr,hM⟩;obtain⟨_,rfl⟩:=hEr.zero h0.out;obtain⟨ds',t',xs,hs',hp',hn',hu',D,hT⟩:=hM h0.out;obtain⟨sa,sc,rfl⟩:=own_sl D.row;obtain⟨rT,rx,rfl⟩:=hT.iface;replace hf1:=hide hf1;clear hEr hM hs' hp' hn' hu' D hT)
     |(go_at_call 29;refine(hlong.out _ _ _ _ _ _ (hf1.out.alloc _)).mono ?_;rintro e w2 ⟨rfl,hf2⟩;replace hf2:=hide hf2))
    try go_ret
    rw[hPOST.out]
    unfold EncPost
    rw[hans.out]
    have hf:=(hf1.out.alloc _).trans hf2.out (fun _ _ f=>f)
    exact⟨_,rfl,hf,fun W hW=>number_notationErrLong ((S.out.fr hf).fr hW) .leaf,fun _ h=>absurd hd.out (by omega)⟩
   ·have hd':dm.size≤4000:=by omega
    have hread:=hide (fun w1 sv rv=>enc_read (w1:=w1) (dm:=dm) (sv:=sv) (rv:=rv) S hI hQ hPar hp)
    have hans:encAns s dm=match readT (envOf ds) false t dm with|none=>(noB,5)|some d=>if ndT d > 300 then (noB,7) else (byT d,0):=by unfold encAns;rw[if_pos h0,if_neg hd,hp]
    have hnodes:=fun d=>readT_nodes (env:=envOf ds) (t:=t) (s:=dm) (d:=d)
    replace h0:=hide h0
    replace S:=hide S
    clear hI hQ hPar
    replace hp:=hide hp
    cases hq:readT (envOf ds) false t dm with
    | none=>
     rw[hq] at hans
     replace hans:=hide hans
     replace hq:=hide hq
     clear hnodes
     go_enter Tryz.func17,Tryz.ntmps17
     go_wp2_with (first
      |(go_at_call 28;refine hR.out.mono ?_;rintro e w1 ⟨sv,rv,ev,rfl,-,-,hf1,hEr,hM⟩;obtain⟨_,rfl⟩:=hEr.zero h0.out;obtain⟨sa,sn,sc,rT,rx,rfl,rfl,hC⟩:=hread.out w1 sv rv (hM h0.out) hf1 hd';replace hf1:=hide hf1;replace hC:=hide hC;clear hEr hM)
      |(go_at_call 29;refine(hC.out _).mono ?_;rintro e w2 ⟨v2,ev2,rfl,hf2,hm⟩;rw[hq.out] at hm;obtain⟨rfl,hm⟩:=hm;obtain⟨T2,x2,rfl⟩:=hm.iface;replace hm:=hide hm;replace hf2:=hide hf2))
     try go_ret
     rw[hPOST.out]
     unfold EncPost
     rw[hans.out]
     have hf:=(hf1.out.alloc _).trans hf2.out (fun _ _ f=>f)
     exact⟨_,rfl,hf,hm.out.numIs (S.out.fr hf),fun _ _ ds' t' d' h1 h2 _=>by rw[hp.out] at h1;cases h1;rw[hq.out] at h2;cases h2⟩
    | some d=>
     have hn:=hnodes d hq
     rw[hq] at hans
     replace hq:=hide hq
     clear hnodes
     by_cases h3:ndT d > 300
     ·replace hans:=hide (show encAns s dm=(noB,7) by rw[hans];exact if_pos h3)
      replace h3:=hide h3
      go_enter Tryz.func17,Tryz.ntmps17
      go_wp2_with (first
       |(go_at_call 28;refine hR.out.mono ?_;rintro e w1 ⟨sv,rv,ev,rfl,-,-,hf1,hEr,hM⟩;obtain⟨_,rfl⟩:=hEr.zero h0.out;obtain⟨sa,sn,sc,rT,rx,rfl,rfl,hC⟩:=hread.out w1 sv rv (hM h0.out) hf1 hd';replace hf1:=hide hf1;replace hC:=hide hC;clear hEr hM)
       |(go_at_call 29;refine(hC.out _).mono ?_;rintro e w2 ⟨v2,ev2,rfl,hf2,hm⟩;rw[hq.out] at hm;obtain⟨rfl,hm⟩:=hm;have hf:=hide ((hf1.out.alloc _).trans hf2 (fun _ _ f=>f));have hC2:=checkNodes_any hm (by omega) ((S.out.fr hf.out).var 5 (by decide));rw[if_pos h3.out] at hC2;replace hC2:=hide hC2;obtain⟨T2,x2,rfl⟩:=hm.iface;clear hm hf2)
       |(go_at_call 30;refine hC2.out.mono ?_;rintro e w3 ⟨rfl,hf3⟩;replace hf3:=hide hf3))
      try go_ret
      rw[hPOST.out]
      unfold EncPost
      rw[hans.out]
      have hf4:=hf.out.trans hf3.out (fun _ _ f=>f)
      exact⟨_,rfl,hf4,fun W hW=>number_dataErrBig ((S.out.fr hf4).fr hW) .leaf,fun _ _ ds' t' d' h1 h2 h4=>by rw[hp.out] at h1;cases h1;rw[hq.out] at h2;cases h2;exact absurd h3.out (by omega)⟩
     ·replace hans:=hide (show encAns s dm=(byT d,0) by rw[hans];exact if_neg h3)
      have h3':8022*ndT d≤90000000:=by omega
      replace h3:=hide h3
      go_enter Tryz.func17,Tryz.ntmps17
      go_wp2_with (first
       |(go_at_call 28;refine hR.out.mono ?_;rintro e w1 ⟨sv,rv,ev,rfl,-,-,hf1,hEr,hM⟩;obtain⟨_,rfl⟩:=hEr.zero h0.out;obtain⟨sa,sn,sc,rT,rx,rfl,rfl,hC⟩:=hread.out w1 sv rv (hM h0.out) hf1 hd';replace hf1:=hide hf1;replace hC:=hide hC;clear hEr hM)
       |(go_at_call 29;refine(hC.out _).mono ?_;rintro e w2 ⟨v2,ev2,rfl,hf2,hm⟩;rw[hq.out] at hm;obtain⟨rfl,hm⟩:=hm;have hf:=hide ((hf1.out.alloc _).trans hf2 (fun _ _ f=>f));have hC2:=checkNodes_any hm (by omega) ((S.out.fr hf.out).var 5 (by decide));rw[if_neg h3.out] at hC2;replace hC2:=hide hC2;have hOk:=hide hm.ok;have hW:=hide (fun w3 hf3=>write_any (w:=w3) (hm.fr hf3 (fun _ _ (f:False)=>f)) h3');obtain⟨T2,x2,rfl⟩:=hm.iface;clear hm hf2)
       |(go_at_call 30;refine hC2.out.mono ?_;rintro e w3 ⟨rfl,hf3⟩;replace hf3:=hide hf3)
       |(go_at_call 31;refine(hW.out _ hf3.out).mono ?_;rintro e w4 ⟨rfl,hf4⟩;replace hf4:=hide hf4))
      try go_ret
      rw[hPOST.out]
      unfold EncPost
      rw[hans.out]
      have hf5:=(hf.out.trans hf3.out (fun _ _ f=>f)).trans hf4.out (fun _ _ f=>f)
      exact⟨_,rfl,hf5,nil_numIs (S.out.fr hf5),fun _ _ ds' t' d' h1 h2 _=>by rw[hp.out] at h1;cases h1;rw[hq.out] at h2;cases h2;exact hOk.out⟩
 ·have hans:=hide (show encAns s dm=(noB,(parseAns s).1) by unfold encAns;rw[if_neg h0])
  replace h0:=hide h0
  replace S:=hide S
  clear hI hQ hPar
  go_enter Tryz.func17,Tryz.ntmps17
  go_wp2_with (go_at_call 28;refine hR.out.mono ?_;rintro e w1 ⟨sv,rv,ev,rfl,⟨sa,sn,sc,rfl⟩,hIr,hf1,hEr,-⟩;have hk:=hide (hEr.numIs (S.out.fr hf1) h0.out);obtain⟨T,x,rfl,_⟩:=hEr.num (S.out.fr hf1) h0.out;replace hf1:=hide hf1;clear hEr;rcases hIr with rfl|⟨rT,rx,rfl⟩)
  all_goals
   try go_ret
   rw[hPOST.out]
   unfold EncPost
   rw[hans.out]
   exact⟨_,rfl,hf1.out.alloc _,hk.out.fr ((Fr.refl _ _).alloc _),fun h=>absurd h h0.out⟩
open Go.RowKit
set_option maxHeartbeats 8000000 in
set_option maxRecDepth 100000 in
theorem kEncode_any {A:Nat→Addr}{w:World}{s dm:ByteArray}(S:Sents A w) (hI:ItoaOK w) (hQ:QuoteOK w) (hPar:ParseOK w) :
 Calls Tryz.prog 7 #[.string s,.string dm] w fun e w'=>e=.returned (.tuple #[.string (encAns s dm).1,.int .i64 (encAns s dm).2])∧Fr w w' (fun _=>False)∧EncOK s dm:=by
 obtain⟨POST,hPOST⟩:∃ Q,Hid (Q=fun (e:Ending) (w':World)=>e=.returned (.tuple #[.string (encAns s dm).1,.int .i64 (encAns s dm).2])∧Fr w w' (fun _=>False)∧EncOK s dm):=⟨_,rfl⟩
 rw[← hPOST.out]
 have hC:=encode_any (s:=s) (dm:=dm) S hI hQ hPar
 unfold EncPost at hC
 obtain⟨b,hb⟩:∃ b,(encAns s dm).1=b:=⟨_,rfl⟩
 obtain⟨n,hn⟩:∃ n,(encAns s dm).2=n:=⟨_,rfl⟩
 rw[hb,hn] at hPOST
 rw[hb,hn] at hC
 replace hC:=hide hC
 clear S hI hQ hPar hb hn
 go_enter Tryz.func7,Tryz.ntmps7
 go_wp2_with (first
  |(go_at_call 17;refine hC.out.mono ?_;rintro e w1 ⟨ev,rfl,hf1,hN,hO⟩;replace hf1:=hide hf1;replace hO:=hide hO;have hk:=hide (hN w1 (Fr.refl _ _));clear hN)
  |(go_at_call 18;refine hk.out.mono ?_;rintro e w2 ⟨rfl,rfl⟩))
 try go_ret
 rw[hPOST.out]
 exact⟨rfl,hf1.out,hO.out⟩
theorem ref_read {w1:World}{lo:Nat}{s dm:ByteArray}{zv:Value}{ds:List PD}{t:PT}(hp:pSchema s=.ok (ds,t)) (h:ParsedAt w1 lo s zv) (hd:dm.size≤4000) :
 ∃ (bz root:Nat),zv=.pointer (some ⟨bz,0,none⟩)∧w1.cell? ⟨bz,31,none⟩=some (.int .i64 (root:Int))∧Calls Tryz.prog 19 #[.pointer (some ⟨bz,0,none⟩),.string dm,.int .i64 (root:Int),.bool false] w1 (ReadPost w1 (readT (envOf ds) false t dm)):=by
 obtain⟨bz,ds',t',ts,root,P1,P2,rfl,hp',Z,hT,hE,hOk,hP,_⟩:=h
 rw[hp] at hp'
 cases hp'
 refine⟨bz,root,rfl,?_,read_ok Z.toZ hP hd hT (dat_full hE hOk)⟩
 obtain⟨tv,zs,a,a2,_⟩:=Z.z
 rw[a.cell 31]
 exact a2
set_option maxHeartbeats 8000000 in
set_option maxRecDepth 100000 in
theorem encoded_any {w:World}{s dm:ByteArray}(hO:EncOK s dm) :
 Calls Tryz.prog 8 #[.string s,.string dm] w fun e w'=>e=.returned (.tuple #[.string (encAns s dm).1,.int .i64 (encAns s dm).2])∧Fr w w' (fun _=>False):=by
 obtain⟨POST,hPOST⟩:∃ Q,Hid (Q=fun (e:Ending) (w':World)=>e=.returned (.tuple #[.string (encAns s dm).1,.int .i64 (encAns s dm).2])∧Fr w w' (fun _=>False)):=⟨_,rfl⟩
 rw[← hPOST.out]
 have hR:=parse_ok (w:=w) (s:=s)
 unfold ParsePost at hR
 obtain⟨a2,ha2⟩:∃ a,(parseAns s).2=a:=⟨_,rfl⟩
 rw[ha2] at hR
 clear ha2
 by_cases h0:(parseAns s).1=0
 ·simp only[if_pos h0] at hR
  rw[h0] at hR
  replace hR:=hide hR
  cases hp:pSchema s with
  | error k=>
   exfalso
   unfold parseAns at h0
   rw[hp] at h0
   split at h0 <;> simp at h0
  | ok r=>
   obtain⟨ds,t⟩:=r
   by_cases hd:4000<dm.size
   ·have hans:=hide (show encAns s dm=(noB,1) by unfold encAns;rw[if_pos h0,if_pos hd])
    have hd':(dm.size:Int) > 4000:=by omega
    replace h0:=hide h0
    replace hp:=hide hp
    clear hO
    go_enter Tryz.func8,Tryz.ntmps8
    go_wp2_with (go_at_call 11;refine hR.out.mono ?_;rintro e w1 ⟨zv,rfl,hf1,hz⟩;obtain⟨bz,_,_,_,_,_,_,rfl,-⟩:=hz;replace hf1:=hide hf1)
    try go_ret
    rw[hPOST.out,hans.out]
    exact⟨rfl,hf1.out⟩
   ·have hd1:dm.size≤4000:=by omega
    have hd':¬ (dm.size:Int) > 4000:=by omega
    have hread:=hide (fun w1 lo zv=>ref_read (w1:=w1) (lo:=lo) (dm:=dm) (zv:=zv) hp)
    have hans:encAns s dm=match readT (envOf ds) false t dm with|none=>(noB,5)|some d=>if ndT d > 300 then (noB,7) else (byT d,0):=by unfold encAns;rw[if_pos h0,if_neg hd,hp];try rfl
    have hnodes:=fun d=>readT_nodes (env:=envOf ds) (t:=t) (s:=dm) (d:=d)
    have hok:=fun d=>hO h0 hd1 ds t d hp
    replace h0:=hide h0
    clear hp hO
    cases hq:readT (envOf ds) false t dm with
    | none=>
     rw[hq] at hans
     replace hans:=hide hans
     replace hq:=hide hq
     clear hnodes hok
     go_enter Tryz.func8,Tryz.ntmps8
     go_wp2_with (first
      |(go_at_call 11;refine hR.out.mono ?_;rintro e w1 ⟨zv,rfl,hf1,hz⟩;obtain⟨bz,root,rfl,hc,hC⟩:=hread.out w1 _ zv hz hd1;replace hf1:=hide hf1;replace hC:=hide hC;clear hz)
      |(go_at_call 19;refine hC.out.mono ?_;rintro e w2 ⟨k,n,tx,a1,m1,c1,a3,m2,c2,rfl,hf2,-⟩;rw[hq.out];replace hf2:=hide hf2))
     try go_ret
     rw[hPOST.out,hans.out]
     exact⟨rfl,(hf1.out.trans hf2.out (fun _ _ f=>f)).alloc _⟩
    | some d=>
     have hn:=hnodes d hq
     have hok1:=hide (hok d hq)
     rw[hq] at hans
     replace hq:=hide hq
     clear hnodes hok
     by_cases h3:ndT d > 300
     ·replace hans:=hide (show encAns s dm=(noB,7) by rw[hans];exact if_pos h3)
      have h3':(ndT d:Int) > 300:=by omega
      go_enter Tryz.func8,Tryz.ntmps8
      go_wp2_with (first
       |(go_at_call 11;refine hR.out.mono ?_;rintro e w1 ⟨zv,rfl,hf1,hz⟩;obtain⟨bz,root,rfl,hc,hC⟩:=hread.out w1 _ zv hz hd1;replace hf1:=hide hf1;replace hC:=hide hC;clear hz)
       |(go_at_call 19;refine hC.out.mono ?_;rintro e w2 ⟨k,n,tx,a1,m1,c1,a3,m2,c2,rfl,hf2,hD⟩;have hN:=hide (fun o=>nodes_any (ndT d) d (Nat.le_refl _) (by omega) (w2.alloc o) _ k n tx a1 m1 c1 (.slice a3 m2 c2) ((hD d hq.out).fr ((Fr.refl w2 (fun _=>False)).alloc o) (fun _ _ f=>f)));rw[hq.out];replace hf2:=hide hf2;clear hD)
       |(go_at_call 20;refine(hN.out _).mono ?_;rintro e w3 ⟨rfl,hf3⟩;replace hf3:=hide hf3))
      try go_ret
      rw[hPOST.out,hans.out]
      exact⟨rfl,((hf1.out.trans hf2.out (fun _ _ f=>f)).alloc _).trans hf3.out (fun _ _ f=>f)⟩
     ·replace hans:=hide (show encAns s dm=(byT d,0) by rw[hans];exact if_neg h3)
      have h3':¬ (ndT d:Int) > 300:=by omega
      have hok2:=hide (hok1.out (by omega))
      go_enter Tryz.func8,Tryz.ntmps8
      go_wp2_with (first
       |(go_at_call 11;refine hR.out.mono ?_;rintro e w1 ⟨zv,rfl,hf1,hz⟩;obtain⟨bz,root,rfl,hc,hC⟩:=hread.out w1 _ zv hz hd1;replace hf1:=hide hf1;replace hC:=hide hC;clear hz)
       |(go_at_call 19;refine hC.out.mono ?_;rintro e w2 ⟨k,n,tx,a1,m1,c1,a3,m2,c2,rfl,hf2,hD⟩;have hV:=hide (fun (W:World) (hW:Fr w2 W (fun _=>False))=>(hD d hq.out).fr hW (fun _ _ f=>f));rw[hq.out];replace hf2:=hide hf2;clear hD)
       |(go_at_call 20;refine(nodes_any (ndT d) d (Nat.le_refl _) (by omega) _ _ k n tx a1 m1 c1 (.slice a3 m2 c2) (hV.out _ ((Fr.refl w2 _).alloc _))).mono ?_;rintro e w3 ⟨rfl,hf3⟩;have hf3':=(((Fr.refl w2 (fun _=>False)).alloc _).trans hf3 (fun _ _ f=>f));have hB:=hide (refBytes_any (ndT d) d (Nat.le_refl _) (by omega) hok2.out w3 _ k n tx _ _ (hV.out _ hf3'));have hblk:=hf3.blk (Blk.new w2 #[.int .u8 (k:Int),.int .i64 n,.string tx,.slice a1 m1 c1,.slice a3 m2 c2] 37) id;have q0:=hblk.cell 0;have q1:=hblk.cell 1;have q2:=hblk.cell 2;have q3:=hblk.cell 3;have q4:=hblk.cell 4;simp only[List.getElem?_cons_zero,List.getElem?_cons_succ] at q0 q1 q2 q3 q4;replace hf3':=hide hf3';clear hblk hf3)
       |(go_at_call 21;refine hB.out.mono ?_;rintro e w4 ⟨rfl,hf4⟩;replace hf4:=hide hf4))
      try go_ret
      rw[hPOST.out,hans.out]
      exact⟨rfl,((hf1.out.trans hf2.out (fun _ _ f=>f)).trans hf3'.out (fun _ _ f=>f)).trans hf4.out (fun _ _ f=>f)⟩
 ·simp only[if_neg h0] at hR
  have hans:=hide (show encAns s dm=(noB,(parseAns s).1) by unfold encAns;rw[if_neg h0])
  obtain⟨a1,ha1⟩:∃ a,(parseAns s).1=a:=⟨_,rfl⟩
  rw[ha1] at hR hans h0
  replace hR:=hide hR
  clear hO ha1
  go_enter Tryz.func8,Tryz.ntmps8
  go_wp2_with (go_at_call 11;refine hR.out.mono ?_;rintro e w1 ⟨zv,rfl,hf1,rfl⟩;replace hf1:=hide hf1)
  try go_ret
  rw[hPOST.out,hans.out]
  exact⟨rfl,hf1.out⟩
set_option maxHeartbeats 8000000 in
set_option maxRecDepth 100000 in
theorem law_any {A:Nat→Addr}{w:World}{s dm:ByteArray}(S:Sents A w) (hI:ItoaOK w) (hQ:QuoteOK w) (hPar:ParseOK w) :
 Calls Tryz.prog 3 #[.string s,.string dm] w fun e w'=>e=.returned (.bool true)∧Fr w w' (fun _=>False):=by
 obtain⟨POST,hPOST⟩:∃ Q,Hid (Q=fun (e:Ending) (w':World)=>e=.returned (.bool true)∧Fr w w' (fun _=>False)):=⟨_,rfl⟩
 rw[← hPOST.out]
 have hC:=kEncode_any (s:=s) (dm:=dm) S hI hQ hPar
 have hD:∀ w,EncOK s dm→Calls Tryz.prog 8 #[.string s,.string dm] w fun e w'=>e=.returned (.tuple #[.string (encAns s dm).1,.int .i64 (encAns s dm).2])∧Fr w w' (fun _=>False):=fun w h=>encoded_any h
 obtain⟨b,hb⟩:∃ b,(encAns s dm).1=b:=⟨_,rfl⟩
 obtain⟨n,hn⟩:∃ n,(encAns s dm).2=n:=⟨_,rfl⟩
 rw[hb,hn] at hC
 rw[hb,hn] at hD
 replace hC:=hide hC
 replace hD:=hide hD
 clear S hI hQ hPar hb hn
 go_enter Tryz.func3,Tryz.ntmps3
 go_wp2_with (first
  |(go_at_call 7;refine hC.out.mono ?_;rintro e w1 ⟨rfl,hf1,hO⟩;replace hf1:=hide hf1;replace hO:=hide hO)
  |(go_at_call 8;refine(hD.out _ hO.out).mono ?_;rintro e w2 ⟨rfl,hf2⟩;replace hf2:=hide hf2)
  | go_in)
 rw[hPOST.out]
 exact⟨rfl,hf1.out.trans hf2.out (fun _ _ f=>f)⟩
end Go.Proofs.YtiifagiebikmdaaGreatDoor
