import Derived.Test.YtiifagiebikmdaaGreatDoorBK38
import Derived.Test.YtiifagiebikmdaaGreatDoorBK31
import Derived.Test.YtiifagiebikmdaaGreatDoorBK29
import Derived.Test.YtiifagiebikmdaaGreatDoorBK28
import Derived.Test.YtiifagiebikmdaaGreatDoorBK30
namespace Go.Proofs.YtiifagiebikmdaaGreatDoor
open Go.RowKit
set_option maxHeartbeats 4000000 in
set_option maxRecDepth 100000 in
theorem checkNodes_any {w:World}{P:Nat→Prop}{d:DT}{v:Value}{bt:TypeId}{bx:Value}(hv:DatV w P d v) (hn:ndT d≤100000) (hE:ErrV 5 w bt bx) :
 Calls Tryz.prog 30 #[v] w fun e w'=>e=.returned (if ndT d > 300 then .iface bt bx else .nilIface)∧Fr w w' (fun _=>False):=by
 obtain⟨POST,hPOST⟩:∃ Q,Hid (Q=fun (e:Ending) (w':World)=>e=.returned (if ndT d > 300 then .iface bt bx else .nilIface)∧Fr w w' (fun _=>False)):=⟨_,rfl⟩
 rw[← hPOST.out]
 have hC:=hide (nodesP_any (ndT d) d (Nat.le_refl _) hn w P v hv)
 obtain⟨T,x,rfl⟩:=hv.iface
 clear hv
 by_cases h3:ndT d > 300
 ·have h3':(ndT d:Int) > 300:=by omega
  rw[if_pos h3] at hPOST
  go_enter Tryz.func30,Tryz.ntmps30
  go_wp2_with (go_at_call 55;refine hC.out.mono ?_;rintro e w2 ⟨rfl,hf2⟩;have hE2:=hE.fr hf2 id;unfold ErrV at hE2;replace hf2:=hide hf2)
  try go_ret
  rw[hPOST.out]
  exact⟨rfl,hf2.out⟩
 ·have h3':¬ (ndT d:Int) > 300:=by omega
  rw[if_neg h3] at hPOST
  go_enter Tryz.func30,Tryz.ntmps30
  go_wp2_with (go_at_call 55;refine hC.out.mono ?_;rintro e w2 ⟨rfl,hf2⟩;replace hf2:=hide hf2)
  try go_ret
  rw[hPOST.out]
  exact⟨rfl,hf2.out⟩
set_option maxHeartbeats 4000000 in
set_option maxRecDepth 100000 in
theorem isLong_nil {A:Nat→Addr}{w:World}(S:Sents A w) :
 Calls Tryz.prog 32 #[.nilIface] w fun e w'=>e=.returned (.bool false)∧w'=w:=by
 have v1:=S.var 7 (by decide)
 have v2:=S.var 8 (by decide)
 have v3:=S.var 9 (by decide)
 unfold ErrV at v1 v2 v3
 have hI:=eIs_nil
 clear S
 go_enter Tryz.func32,Tryz.ntmps32
 go_wp2_with (go_at_call 33;refine(hI _ _).mono ?_;rintro e w' ⟨rfl,rfl⟩)
 try go_ret
 exact⟨rfl,rfl⟩
set_option maxHeartbeats 4000000 in
set_option maxRecDepth 100000 in
theorem number_nil {A:Nat→Addr}{w:World}(S:Sents A w) :
 Calls Tryz.prog 18 #[.nilIface] w fun e w'=>e=.returned (.int .i64 0)∧w'=w:=by
 have v1:=S.var 0 (by decide)
 have v2:=S.var 1 (by decide)
 have v3:=S.var 2 (by decide)
 have v4:=S.var 3 (by decide)
 have v5:=S.var 4 (by decide)
 have v6:=S.var 5 (by decide)
 have v7:=S.var 6 (by decide)
 unfold ErrV at v1 v2 v3 v4 v5 v6 v7
 have hI:=eIs_nil
 have hL:=hide (isLong_nil S)
 clear S
 go_enter Tryz.func18,Tryz.ntmps18
 go_wp2_with (first
  |(go_at_call 32;refine hL.out.mono ?_;rintro e w' ⟨rfl,rfl⟩)
  |(go_at_call 33;refine(hI _ _).mono ?_;rintro e w' ⟨rfl,rfl⟩))
 try go_ret
 exact⟨rfl,rfl⟩
open Go.RowKit
set_option maxHeartbeats 4000000 in
set_option maxRecDepth 100000 in
theorem nRead_long {w:World}{sa:Option Addr}{sn sc:Nat}{rT:TypeId}{rx:Value}{s:ByteArray}{lt:TypeId}{lx:Value}(hE:ErrV 8 w lt lx) (hs:4000<s.size) :
 Calls Tryz.prog 29 #[.agg #[.slice sa sn sc,.iface rT rx],.string s] w fun e w'=>e=.returned (.tuple #[.nilIface,.iface lt lx])∧Fr w w' (fun _=>False):=by
 obtain⟨POST,hPOST⟩:∃ Q,Hid (Q=fun (e:Ending) (w':World)=>e=.returned (.tuple #[.nilIface,.iface lt lx])∧Fr w w' (fun _=>False)):=⟨_,rfl⟩
 rw[← hPOST.out]
 have hs':(s.size:Int) > 4000:=by omega
 have A:Fr w (w.alloc (.cells #[.slice sa sn sc,.iface rT rx] 85)) (fun _=>False):=(Fr.refl w _).alloc _
 have hE2:=hE.fr A id
 unfold ErrV at hE2
 replace A:=hide A
 clear hE
 go_enter Tryz.func29,Tryz.ntmps29
 go_wp2_with fail
 go_quiet (fail)
 go_wp2_with fail
 try go_ret
 rw[hPOST.out]
 exact⟨rfl,A.out.still (Still.drewN _ _)⟩
set_option maxHeartbeats 4000000 in
set_option maxRecDepth 100000 in
theorem nRead_any {w0 w:World}{P:Nat→Prop}{ss:ByteArray}{ds:List PD}{sv:Value}{rT:TypeId}{rx:Value}{xs:List Value}{s:ByteArray}{nt:TypeId}{nx:Value}{t:PT}(D:DRow w P ss ds sv xs) (hT:TyV w P t (.iface rT rx)) (hG:SameG w0 w) (hk:w0.heap.size≤w.heap.size) (hPw:∀ g,P g→g<w.heap.size) (hE:ErrV 3 w0 nt nx) (hs:s.size≤4000) (hok:okT (envOf ds) t) (hen:goodEnv ds) (hbe:brE false ds) (hbt:brT false t) (hI:ItoaOK w0) (hQ:QuoteOK w0) (hN:NumAll w0) (hPar:ParseOK w0) :
 Calls Tryz.prog 29 #[.agg #[sv,.iface rT rx],.string s] w (WdPost w (fun _=>False) nt nx (readT (envOf ds) false t s)):=by
 obtain⟨POST,hPOST⟩:∃ Q,Hid (Q=WdPost w (fun _=>False) nt nx (readT (envOf ds) false t s)):=⟨_,rfl⟩
 rw[← hPOST.out]
 obtain⟨sa,sc,rfl⟩:=own_sl D.row
 have hs':¬ (s.size:Int) > 4000:=by omega
 have A:Fr w ((w.alloc (.cells #[.slice sa ds.length sc,.iface rT rx] 85)).alloc (.cells #[.slice sa ds.length sc,.iface rT rx,.string s,.int .i64 0,.bool true] 114)) (fun _=>False):=((Fr.refl w _).alloc _).alloc _
 have z1:(w.alloc (.cells #[.slice sa ds.length sc,.iface rT rx] 85)).heap.size=w.heap.size+1:=by simp
 have hR0:=Blk.new (w.alloc (.cells #[.slice sa ds.length sc,.iface rT rx] 85)) #[.slice sa ds.length sc,.iface rT rx,.string s,.int .i64 0,.bool true] 114
 rw[z1] at hR0
 have M0:NC w0 P ss ds (.slice sa ds.length sc) (.iface rT rx) xs s nt nx false (w.heap.size+1) 0 ((w.alloc (.cells #[.slice sa ds.length sc,.iface rT rx] 85)).alloc (.cells #[.slice sa ds.length sc,.iface rT rx,.string s,.int .i64 0,.bool true] 114)):=
  ⟨hR0,D.fr A (fun _ _ f=>f),hG.fr A hk (fun g f=>f.elim),hE,fun g hg=>by have:=hPw g hg;omega,by omega,by omega,Nat.zero_le _⟩
 have hC:=hide (nwhole_any M0 (hT.fr A (fun _ _ f=>f)) (dat_all hen hbe hI hQ (hN _ _ _ _ _ _ _ _ _ _ _) (uni_num hI hPar) _ t 0 hok hbt (Nat.zero_le _) (by split <;> omega)))
 replace A:=hide A
 clear M0 hR0 z1 D hT hG
 go_enter Tryz.func29,Tryz.ntmps29
 go_wp2_with (go_at_call 54;refine hC.out.mono ?_;rintro e w1 ⟨v1,ev1,rfl,hf1,hm⟩;replace hf1:=hide hf1;replace hm:=hide hm)
 try go_ret
 rw[hPOST.out]
 have hsz:=A.out.size
 refine⟨v1,ev1,rfl,A.out.trans hf1.out (fun g hg e=>by omega),?_⟩
 have hm':=hm.out
 cases hq:readT (envOf ds) false t s with
 | none=>rw[hq] at hm';exact⟨hm'.1,hm'.2.less hsz⟩
 | some d=>rw[hq] at hm';exact⟨hm'.1,hm'.2.mono (fun g _ h=>by omega)⟩
open Go.RowKit
def errsOf (A:Nat→Addr):Errs:=
 ⟨309,.pointer (some (A 7)),309,.pointer (some (A 0)),309,.pointer (some (A 1)),309,.pointer (some (A 2)),309,.pointer (some (A 3))⟩
theorem Sents.errs {A:Nat→Addr}{w:World}(S:Sents A w):(errsOf A).At w:=
 ⟨S.var _ (by decide),S.var _ (by decide),S.var _ (by decide),S.var _ (by decide),S.var _ (by decide)⟩
theorem ErrD.chain {A:Nat→Addr}{w:World}{lo:Nat}{v:Value}(h:ErrD w lo (errsOf A).nt (errsOf A).nx v):∃ n,Chain w (A 3) n v:=by
 induction h with
 | base=>exact⟨0,.leaf⟩
 | within g hg tx hb h ih=>
  obtain⟨n,ih⟩:=ih
  exact⟨n+1,.within g tx _ n hb ih⟩
theorem ErrFor.fr {E:Errs}{w w':World}{lo:Nat}{ev:Value}{a:Int×Int}(h:ErrFor E w lo ev a) (hf:Fr w w' (fun _=>False)):ErrFor E w' lo ev a:=by
 rcases h with h|h|⟨h1,h2⟩|⟨h1,h2⟩|⟨h1,h2⟩|⟨h1,cv,h2,h3⟩
 ·exact .inl h
 ·exact .inr (.inl h)
 ·exact .inr (.inr (.inl ⟨h1,h2.fr hf (fun _ _ f=>f)⟩))
 ·exact .inr (.inr (.inr (.inl ⟨h1,h2.fr hf (fun _ _ f=>f)⟩)))
 ·exact .inr (.inr (.inr (.inr (.inl ⟨h1,h2.fr hf (fun _ _ f=>f)⟩))))
 ·exact .inr (.inr (.inr (.inr (.inr ⟨h1,cv,h2.fr hf (fun _ _ f=>f),h3.fr hf (fun _ _ f=>f)⟩))))
theorem ErrFor.zero {E:Errs}{w:World}{lo:Nat}{ev:Value}{a:Int×Int}(h:ErrFor E w lo ev a) (h0:a.1=0):a.2=0∧ev=.nilIface:=by
 rcases h with⟨_,h2,h3⟩|⟨h1,_⟩|⟨h1,_⟩|⟨h1,_⟩|⟨h1,_⟩|⟨h1,_⟩
 ·exact⟨h2,h3⟩
 all_goals (rw[h1] at h0;exact absurd h0 (by decide))
theorem ErrFor.num {A:Nat→Addr}{w:World}{lo:Nat}{ev:Value}{a:Int×Int}(S:Sents A w) (h:ErrFor (errsOf A) w lo ev a) (h0:a.1≠0) :
 ∃ T x,ev=.iface T x∧Calls Tryz.prog 18 #[ev] w fun e w'=>e=.returned (.int .i64 a.1)∧w'=w:=by
 have key:∀ (v:Value) (p:Int) (cv:Value),FaultAt w lo v p cv→∃ T x,v=.iface T x:=fun v p cv ⟨g,_,h,_⟩=>⟨_,_,h⟩
 have ch:∀ (v:Value) (p:Int) (cv:Value) (b:Addr) (n:Nat),FaultAt w lo v p cv→Chain w b n cv→Chain w b (n+1) v:=fun v p cv b n ⟨g,_,h,hb⟩ hc=>h▸.fault g p cv n hb hc
 rcases h with⟨h1,_⟩|⟨h1,h2,h3⟩|⟨h1,h2⟩|⟨h1,h2⟩|⟨h1,h2⟩|⟨h1,cv,h2,h3⟩
 ·exact absurd h1 h0
 ·refine⟨_,_,h3,?_⟩
  rw[h1,h3];exact number_schemasErrLong S .leaf
 ·obtain⟨T,x,hv⟩:=key _ _ _ h2
  refine⟨T,x,hv,?_⟩
  rw[h1];exact number_schemasErrGrammar S (ch _ _ _ _ _ h2 .leaf)
 ·obtain⟨T,x,hv⟩:=key _ _ _ h2
  refine⟨T,x,hv,?_⟩
  rw[h1];exact number_schemasErrName S (ch _ _ _ _ _ h2 .leaf)
 ·obtain⟨T,x,hv⟩:=key _ _ _ h2
  refine⟨T,x,hv,?_⟩
  rw[h1];exact number_schemasErrUnion S (ch _ _ _ _ _ h2 .leaf)
 ·obtain⟨T,x,hv⟩:=key _ _ _ h2
  obtain⟨n,hc⟩:=h3.chain
  refine⟨T,x,hv,?_⟩
  rw[h1];exact number_notationErrNotOf S (ch _ _ _ _ _ h2 hc)
open Go.RowKit
mutual
theorem brT_few:∀ t:PT,fewB t→brT false t
 | .leaf _ _,_=>by unfold brT;trivial
 | .wrap _ _ t,h=>by unfold brT;unfold fewB at h;exact brT_few t h
 | .alts _ l,h=>by unfold brT;unfold fewB at h;exact⟨.inr h.1,brTs_few l h.2⟩
theorem brTs_few:∀ l:List PT,(∀ t∈l,fewB t)→brTs false l
 | [],_=>by unfold brTs;trivial
 | t::r,h=>by unfold brTs;exact⟨brT_few t (h t (List.mem_cons_self ..)),brTs_few r (fun u hu=>h u (List.mem_cons_of_mem _ hu))⟩
end
theorem schema_fine {s:ByteArray}(hs:s.size≤300){ds:List PD}{t:PT}(h:pSchema s=.ok (ds,t)) (hn:nameF ds t=[]) (hu:unionF ds t=[]):goodEnv ds∧brE false ds∧brT false t∧okT (envOf ds) t∧okEnv (envOf ds):=by
 obtain⟨a1,a2,_,_,_⟩:=pSchema_asc h
 rw[hn] at a1
 rw[hu] at a2
 have hw:wrU (envOf ds) (accU ds++usesOf t) (accW [] ds (-1))<0:=by rw[a1];decide
 have hm:mix t (accM ds (-1))<0:=by rw[a2];decide
 obtain⟨g1,g2,_,_⟩:=schema_ok hs h hw hm
 have hg:=(schema_good hs h hn hu).1
 refine⟨hg,fun c fs e f hf=>brT_few _ ((hg c _ e).1.2.2 f hf),brT_few t (pSchema_all hs h).2.1,g2,g1⟩
def NumIs (w:World) (ev:Value) (n:Int):Prop:=∀ W,Fr w W (fun _=>False)→Calls Tryz.prog 18 #[ev] W fun e w'=>e=.returned (.int .i64 n)∧w'=W
theorem NumIs.fr {w W:World}{ev:Value}{n:Int}(h:NumIs w ev n) (hf:Fr w W (fun _=>False)):NumIs W ev n:=fun V hV=>h V (hf.trans hV (fun _ _ f=>f))
theorem ErrFor.numIs {A:Nat→Addr}{w:World}{lo:Nat}{ev:Value}{a:Int×Int}(S:Sents A w) (h:ErrFor (errsOf A) w lo ev a) (h0:a.1≠0):NumIs w ev a.1:=fun W hW=>by
 obtain⟨_,_,_,h⟩:=(h.fr hW).num (S.fr hW) h0
 exact h
theorem ErrD.numIs {A:Nat→Addr}{w:World}{lo:Nat}{ev:Value}(S:Sents A w) (h:ErrD w lo (errsOf A).nt (errsOf A).nx ev):NumIs w ev 5:=fun W hW=>by
 obtain⟨n,hc⟩:=(h.fr hW (fun _ _ f=>f)).chain
 exact number_notationErrNotOf (S.fr hW) hc
theorem nil_numIs {A:Nat→Addr}{w:World}(S:Sents A w):NumIs w .nilIface 0:=fun _ hW=>number_nil (S.fr hW)
end Go.Proofs.YtiifagiebikmdaaGreatDoor
