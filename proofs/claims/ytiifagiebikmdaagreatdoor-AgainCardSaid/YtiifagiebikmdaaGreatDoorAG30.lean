import Derived.Test.YtiifagiebikmdaaGreatDoorAG29
import Derived.Test.YtiifagiebikmdaaGreatDoorAG07
namespace Go.Proofs.YtiifagiebikmdaaGreatDoor
open Go.RowKit
theorem mi_start {w0 w:World}{P:Nat→Prop}{ss:ByteArray}{ds:List PD}{sv rv:Value}{xs:List Value}{s:ByteArray}{nt:TypeId}{nx:Value}{pl:Bool}{br i:Nat}{t:PT}{p:Int}{vT:TypeId}{vx:Value}(M:NC w0 P ss ds sv rv xs s nt nx pl br i w) (hT:TyV w P t (.iface vT vx)){W':World}(h:RdAt W' br sv rv s (i+1) (!pl)) (hf:Fr (((w.alloc (.cells #[.pointer (some ⟨br,0,none⟩)] 154)).alloc (.cells #[.int .i64 p,.iface vT vx] 206)).alloc (.cells #[.slice none 0 0] 158)) W' (· = br)) (hi:i+1≤s.size) :
 MI w0 w P ss ds sv rv xs s nt nx pl br i t p (.iface vT vx) [] (i+1) W':=by
 have hbl:=M.lt
 have A:Fr w (((w.alloc (.cells #[.pointer (some ⟨br,0,none⟩)] 154)).alloc (.cells #[.int .i64 p,.iface vT vx] 206)).alloc (.cells #[.slice none 0 0] 158)) (fun _=>False):=(((Fr.refl w _).alloc _).alloc _).alloc _
 have hz:(((w.alloc (.cells #[.pointer (some ⟨br,0,none⟩)] 154)).alloc (.cells #[.int .i64 p,.iface vT vx] 206)).alloc (.cells #[.slice none 0 0] 158)).heap.size=w.heap.size+3:=by simp
 have z1:(w.alloc (.cells #[.pointer (some ⟨br,0,none⟩)] 154)).heap.size=w.heap.size+1:=by simp
 have z2:((w.alloc (.cells #[.pointer (some ⟨br,0,none⟩)] 154)).alloc (.cells #[.int .i64 p,.iface vT vx] 206)).heap.size=w.heap.size+2:=by simp
 have B2:=((Blk.new w #[.pointer (some ⟨br,0,none⟩)] 154).alloc (.cells #[.int .i64 p,.iface vT vx] 206)).alloc (.cells #[.slice none 0 0] 158)
 have B3:=(Blk.new (w.alloc (.cells #[.pointer (some ⟨br,0,none⟩)] 154)) #[.int .i64 p,.iface vT vx] 206).alloc (.cells #[.slice none 0 0] 158)
 have B6:=Blk.new ((w.alloc (.cells #[.pointer (some ⟨br,0,none⟩)] 154)).alloc (.cells #[.int .i64 p,.iface vT vx] 206)) #[.slice none 0 0] 158
 rw[z1] at B3
 rw[z2] at B6
 have hsz:=hf.size
 exact⟨(M.new A).call h hf hi,(A.mono (fun _ _ f=>f.elim)).trans hf (fun _ _ e=>e),hbl,by omega,hf.blk B2 (by omega),hf.blk B3 (by omega),(hT.fr A (fun _ _ f=>f)).fr hf (fun g hg e=>M.brP (e▸hg)),by simp,_,_,hf.blk B6 (by omega),World.ownsRow_nil _ _ _ _,rfl,RowM.nil _ _⟩
set_option maxHeartbeats 8000000 in
set_option maxRecDepth 100000 in
theorem nmapping_any {w0 w:World}{P:Nat→Prop}{ss:ByteArray}{ds:List PD}{sv rv:Value}{xs:List Value}{s:ByteArray}{nt:TypeId}{nx:Value}{pl:Bool}{br i:Nat}{t:PT}{p:Int}{vT:TypeId}{vx:Value}{f:Nat}(M:NC w0 P ss ds sv rv xs s nt nx pl br i w) (hT:TyV w P t (.iface vT vx)) (hI:QuoteOK w0) (hR:∀ j,i<j→j≤s.size→DatN w0 P ss ds sv rv xs s nt nx pl br f t j) :
 Calls Tryz.prog 119 #[.pointer (some ⟨br,0,none⟩),.agg #[.int .i64 p,.iface vT vx]] w (NPost w sv rv s nt nx pl br (rdWrap (rdT s (envOf ds) pl f t) s 123 i)):=by
 obtain⟨POST,hPOST⟩:∃ Q,Hid (Q=NPost w sv rv s nt nx pl br (rdWrap (rdT s (envOf ds) pl f t) s 123 i)):=⟨_,rfl⟩
 rw[← hPOST.out]
 have hs4:s.size≤4000:=by have:=M.hs;omega
 have A:Fr w (((w.alloc (.cells #[.pointer (some ⟨br,0,none⟩)] 154)).alloc (.cells #[.int .i64 p,.iface vT vx] 206)).alloc (.cells #[.slice none 0 0] 158)) (fun _=>False):=(((Fr.refl w _).alloc _).alloc _).alloc _
 have hgo:=rdT_goes s (envOf ds) pl f t
 have IT:ItemOK (St:=List (ByteArray×DT)) sv rv s nt nx pl br 146 #[.pointer (some ⟨w.heap.size,0,none⟩),.pointer (some ⟨w.heap.size+2,0,none⟩),.pointer (some ⟨w.heap.size+1,0,none⟩)] (stepM (rdT s (envOf ds) pl f t) s) (fun n j W=>MI w0 w P ss ds sv rv xs s nt nx pl br i t p (.iface vT vx) n j W) (BadL w sv rv s nt nx pl br):=
  { F:=fun W=>by kernel_rfl
    R:=fun h=>⟨h.M.R,h.M.il,h.M.e⟩
    K:=fun h h1 h2 h3 h4=>h.call h1 h2 h3 (by have:=h.c;omega)
    B:=fun h=>⟨h.fr,.base,_,h.M.R,h.M.il⟩
    C:=fun {n j W} h=>(nmap1_any h hI (fun j' h1 h2=>hR j' (by have:=h.c;omega) h2) (fun j d j' e=>(hgo j d j' e).1)).mono (by
     rintro e W' ⟨v,he,hm⟩
     refine⟨v,he,?_⟩
     cases hq:stepM (rdT s (envOf ds) pl f t) s n j with
     | none=>rw[hq] at hm;exact hm
     | some q=>obtain⟨a,b⟩:=q;rw[hq] at hm;exact hm) }
 have hC:=hide (nitems_any IT (w:=(((w.alloc (.cells #[.pointer (some ⟨br,0,none⟩)] 154)).alloc (.cells #[.int .i64 p,.iface vT vx] 206)).alloc (.cells #[.slice none 0 0] 158))) (σ:=([]:List (ByteArray×DT))) (i:=i) (co:=123) (cf:=125) 123 125 (A.blk M.R id) M.il (fun W' h hf hi=>mi_start M hT h hf hi) (fun W' h hf=>⟨⟨(A.mono (fun _ _ f=>f.elim)).trans hf (fun _ _ e=>e),.base,i,h,M.il⟩,((M.new A).call h hf M.il).e⟩) hs4 rfl rfl (by decide) (by decide))
 have hres:=hide (map_wrap (rdT s (envOf ds) pl f t) s i)
 clear IT A hgo hT hR hI M
 cases hp:listP (stepM (rdT s (envOf ds) pl f t) s) s 123 125 [] i with
 | none=>
  rw[hp] at hres
  replace hp:=hide hp
  go_enter Tryz.func119,Tryz.ntmps119
  go_wp2_with (go_at_call 143;refine hC.out.mono ?_;rintro e w2 ⟨v2,rfl,hm⟩;rw[hp.out] at hm;obtain⟨⟨eT,ex,rfl⟩,hB⟩:=hm;replace hB:=hide hB)
  try go_ret
  rw[hPOST.out,hres.out]
  obtain⟨h1,h2,h3⟩:=hB.out
  exact⟨.nilIface,_,rfl,h1,rfl,h2,h3⟩
 | some q=>
  obtain⟨n2,j2⟩:=q
  rw[hp] at hres
  replace hp:=hide hp
  go_enter Tryz.func119,Tryz.ntmps119
  go_wp2_with (go_at_call 143;refine hC.out.mono ?_;rintro e w2 ⟨v2,rfl,hm⟩;rw[hp.out] at hm;obtain⟨rfl,hL⟩:=hm;obtain⟨lv,ys,r1,r2,r3,r4⟩:=hL.row;obtain⟨la,lc,rfl⟩:=own_sl r2;have k0:=r1.cell 0;simp only[List.getElem?_cons_zero] at k0;have hDv:=hide (r4.dat (Q:=fun g=>w.heap.size≤g) r2 (fun g _ hg=>(by omega)) (fun g hg=>(by have:=r2.lt g hg;omega)));replace hL:=hide hL;clear r1 r2 r3 r4)
  try go_ret
  rw[hPOST.out,hres.out]
  exact nok hDv.out hL.out.fr hL.out.M.R hL.out.M.il
open Go.RowKit
theorem NPost.pre {w w1 w':World}{sv rv:Value}{s:ByteArray}{nt:TypeId}{nx:Value}{pl:Bool}{br:Nat}{res:Option (DT×Nat)}{e:Ending}(A:Fr w w1 (fun _=>False)) (h:NPost w1 sv rv s nt nx pl br res e w'):NPost w sv rv s nt nx pl br res e w':=by
 obtain⟨v,ev,he,hf,hm⟩:=h
 refine⟨v,ev,he,(A.mono (fun _ _ f=>f.elim)).trans hf (fun _ _ e=>e),?_⟩
 cases res with
 | none=>exact⟨hm.1,hm.2.1.less A.size,hm.2.2⟩
 | some q=>obtain⟨d,j⟩:=q;exact⟨hm.1,hm.2.1.mono (fun g _ hg=>Nat.le_trans A.size hg),hm.2.2⟩
def NumN (w0:World) (P:Nat→Prop) (ss:ByteArray) (ds:List PD) (sv rv:Value) (xs:List Value) (s:ByteArray) (nt:TypeId) (nx:Value) (pl:Bool) (br:Nat):Prop:=
 ∀ (w:World) (i:Nat),NC w0 P ss ds sv rv xs s nt nx pl br i w→
  Calls Tryz.prog 116 #[.pointer (some ⟨br,0,none⟩),.int .i64 (-2147483648),.int .i64 2147483647] w (NPost w sv rv s nt nx pl br ((rdNum s 105 i).map (fun q=>(.mk 105 q.1 noB [] [],q.2))))∧
  Calls Tryz.prog 116 #[.pointer (some ⟨br,0,none⟩),.int .i64 (-9223372036854775808),.int .i64 9223372036854775807] w (NPost w sv rv s nt nx pl br ((rdNum s 108 i).map (fun q=>(.mk 108 q.1 noB [] [],q.2))))
section
variable {w0:World} {P:Nat→Prop} {ss:ByteArray} {ds:List PD} {sv rv:Value} {xs:List Value} {s:ByteArray} {nt:TypeId} {nx:Value} {pl:Bool} {br i:Nat} {f p:Nat}
set_option maxHeartbeats 4000000 in
set_option maxRecDepth 100000 in
theorem dat_110:DatN w0 P ss ds sv rv xs s nt nx pl br (f+1) (.leaf 110 p) i:=by
 intro w v M hT
 obtain rfl:v=.iface 198 (.agg #[.int .i64 (p:Int)]):=by
  cases hT with
  | base _ _ h=>rfl
  | name _ _ h=>exact absurd h (by decide)
 obtain⟨POST,hPOST⟩:∃ Q,Hid (Q=NPost w sv rv s nt nx pl br (rdT s (envOf ds) pl (f+1) (.leaf 110 p) i)):=⟨_,rfl⟩
 rw[← hPOST.out]
 have A:Fr w (w.alloc (.cells #[.int .i64 (p:Int)] 198)) (fun _=>False):=(Fr.refl w _).alloc _
 have M0:=M.new A
 have hs4:s.size≤4000:=by have:=M.hs;omega
 have hil:=M.il
 have A':=hide (A.mono (T:=fun g=>g=br) (fun _ _ f=>f.elim))
 replace M0:=hide M0
 clear M hT
 have a0:=asNothing_yes
 by_cases h78:bt s i=78
 ·have hlt:i+1≤s.size:=bt_pos (s:=s) (i:=i) (by omega)
  have hr:=hide (show rdT s (envOf ds) pl (f+1) (.leaf 110 p) i=some (.mk 110 0 noB [] [],i+1) by rw[rdT];unfold rdLeaf;rw[if_pos rfl,if_pos h78])
  replace h78:=hide h78
  go_enter Tryz.func83,Tryz.ntmps83
  go_wp2_with (go_at_call 114;refine(ntake_yes 78 M0.out.R hs4 hil rfl (by decide) h78.out).mono ?_;rintro e w2 ⟨rfl,hf2,h2⟩;replace hf2:=hide hf2;replace h2:=hide h2)
  try go_ret
  rw[hPOST.out,hr.out]
  exact nok (.flat .nothing) (A'.out.trans hf2.out (fun _ _ e=>e)) h2.out hlt
 ·have hr:=hide (show rdT s (envOf ds) pl (f+1) (.leaf 110 p) i=none by rw[rdT];unfold rdLeaf;rw[if_pos rfl,if_neg h78])
  replace h78:=hide h78
  go_enter Tryz.func83,Tryz.ntmps83
  go_wp2_with (go_at_call 114;refine(ntake_no 78 M0.out.R hs4 hil rfl (by decide) h78.out).mono ?_;rintro e w2 ⟨rfl,hf2,h2⟩;have e2:=(M0.out.call h2 hf2 hil).e;replace hf2:=hide hf2;replace h2:=hide h2)
  go_quiet (fail)
  go_wp2_with fail
  try go_ret
  rw[hPOST.out,hr.out]
  exact nerr ((A'.out.trans hf2.out (fun _ _ e=>e)).still (Still.drewN _ _)) (h2.out.still (Still.drewN _ _)) hil
set_option maxHeartbeats 4000000 in
set_option maxRecDepth 100000 in
theorem dat_116:DatN w0 P ss ds sv rv xs s nt nx pl br (f+1) (.leaf 116 p) i:=by
 intro w v M hT
 obtain rfl:v=.iface 199 (.agg #[.int .i64 (p:Int)]):=by
  cases hT with
  | base _ _ h=>rfl
  | name _ _ h=>exact absurd h (by decide)
 have hr:rdT s (envOf ds) pl (f+1) (.leaf 116 p) i=tEnd s i:=by
  rw[rdT];unfold rdLeaf tEnd;rw[if_neg (by decide),if_pos rfl]
 rw[hr]
 obtain⟨POST,hPOST⟩:∃ Q,Hid (Q=NPost w sv rv s nt nx pl br (tEnd s i)):=⟨_,rfl⟩
 rw[← hPOST.out]
 clear hr hT
 have A:Fr w (w.alloc (.cells #[.int .i64 (p:Int)] 199)) (fun _=>False):=(Fr.refl w _).alloc _
 have M0:=M.new A
 have hC:=hide (ntruth_any M0)
 replace A:=hide A
 clear M0 M
 have a0:=asNothing_no 199 (by decide)
 have a1:=asTruth_yes
 go_enter Tryz.func83,Tryz.ntmps83
 go_wp2_with (go_at_call 115;refine hC.out.mono ?_;intro e w2 hN;obtain⟨v2,ev2,rfl,hN2⟩:=hN;replace hN2:=hide hN2)
 try go_ret
 rw[hPOST.out]
 exact NPost.pre A.out ⟨v2,ev2,rfl,hN2.out⟩
set_option maxHeartbeats 4000000 in
set_option maxRecDepth 100000 in
theorem dat_105 (hN:NumN w0 P ss ds sv rv xs s nt nx pl br):DatN w0 P ss ds sv rv xs s nt nx pl br (f+1) (.leaf 105 p) i:=by
 intro w v M hT
 obtain rfl:v=.iface 200 (.agg #[.int .i64 (p:Int)]):=by
  cases hT with
  | base _ _ h=>rfl
  | name _ _ h=>exact absurd h (by decide)
 have hr:rdT s (envOf ds) pl (f+1) (.leaf 105 p) i=(rdNum s 105 i).map (fun q=>(.mk 105 q.1 noB [] [],q.2)):=by
  rw[rdT];unfold rdLeaf;rw[if_neg (by decide),if_neg (by decide),if_pos (by decide)];cases rdNum s 105 i <;> rfl
 rw[hr]
 obtain⟨POST,hPOST⟩:∃ Q,Hid (Q=NPost w sv rv s nt nx pl br ((rdNum s 105 i).map (fun q=>(.mk 105 q.1 noB [] [],q.2)))):=⟨_,rfl⟩
 rw[← hPOST.out]
 clear hr hT
 have A:Fr w (w.alloc (.cells #[.int .i64 (p:Int)] 200)) (fun _=>False):=(Fr.refl w _).alloc _
 have M0:=M.new A
 have hC:=hide ((hN _ _ M0).1)
 replace A:=hide A
 clear M0 M
 have a0:=asNothing_no 200 (by decide)
 have a1:=asTruth_no 200 (by decide)
 have a2:=asInt_yes
 go_enter Tryz.func83,Tryz.ntmps83
 go_wp2_with (go_at_call 116;refine hC.out.mono ?_;intro e w2 hN;obtain⟨v2,ev2,rfl,hN2⟩:=hN;replace hN2:=hide hN2)
 try go_ret
 rw[hPOST.out]
 exact NPost.pre A.out ⟨v2,ev2,rfl,hN2.out⟩
set_option maxHeartbeats 4000000 in
set_option maxRecDepth 100000 in
theorem dat_108 (hN:NumN w0 P ss ds sv rv xs s nt nx pl br):DatN w0 P ss ds sv rv xs s nt nx pl br (f+1) (.leaf 108 p) i:=by
 intro w v M hT
 obtain rfl:v=.iface 201 (.agg #[.int .i64 (p:Int)]):=by
  cases hT with
  | base _ _ h=>rfl
  | name _ _ h=>exact absurd h (by decide)
 have hr:rdT s (envOf ds) pl (f+1) (.leaf 108 p) i=(rdNum s 108 i).map (fun q=>(.mk 108 q.1 noB [] [],q.2)):=by
  rw[rdT];unfold rdLeaf;rw[if_neg (by decide),if_neg (by decide),if_pos (by decide)];cases rdNum s 108 i <;> rfl
 rw[hr]
 obtain⟨POST,hPOST⟩:∃ Q,Hid (Q=NPost w sv rv s nt nx pl br ((rdNum s 108 i).map (fun q=>(.mk 108 q.1 noB [] [],q.2)))):=⟨_,rfl⟩
 rw[← hPOST.out]
 clear hr hT
 have A:Fr w (w.alloc (.cells #[.int .i64 (p:Int)] 201)) (fun _=>False):=(Fr.refl w _).alloc _
 have M0:=M.new A
 have hC:=hide ((hN _ _ M0).2)
 replace A:=hide A
 clear M0 M
 have a0:=asNothing_no 201 (by decide)
 have a1:=asTruth_no 201 (by decide)
 have a2:=asInt_no 201 (by decide)
 have a3:=asLong_yes
 go_enter Tryz.func83,Tryz.ntmps83
 go_wp2_with (go_at_call 116;refine hC.out.mono ?_;intro e w2 hN;obtain⟨v2,ev2,rfl,hN2⟩:=hN;replace hN2:=hide hN2)
 try go_ret
 rw[hPOST.out]
 exact NPost.pre A.out ⟨v2,ev2,rfl,hN2.out⟩
set_option maxHeartbeats 4000000 in
set_option maxRecDepth 100000 in
theorem dat_115:DatN w0 P ss ds sv rv xs s nt nx pl br (f+1) (.leaf 115 p) i:=by
 intro w v M hT
 obtain rfl:v=.iface 202 (.agg #[.int .i64 (p:Int)]):=by
  cases hT with
  | base _ _ h=>rfl
  | name _ _ h=>exact absurd h (by decide)
 have hr:rdT s (envOf ds) pl (f+1) (.leaf 115 p) i=sEnd s i:=by
  rw[rdT];unfold rdLeaf sEnd;rw[if_neg (by decide),if_neg (by decide),if_neg (by decide),if_pos rfl]
 rw[hr]
 obtain⟨POST,hPOST⟩:∃ Q,Hid (Q=NPost w sv rv s nt nx pl br (sEnd s i)):=⟨_,rfl⟩
 rw[← hPOST.out]
 clear hr hT
 have A:Fr w (w.alloc (.cells #[.int .i64 (p:Int)] 202)) (fun _=>False):=(Fr.refl w _).alloc _
 have M0:=M.new A
 have hC:=hide (nquoted_any M0)
 replace A:=hide A
 clear M0 M
 have a0:=asNothing_no 202 (by decide)
 have a1:=asTruth_no 202 (by decide)
 have a2:=asInt_no 202 (by decide)
 have a3:=asLong_no 202 (by decide)
 have a4:=asText_yes
 go_enter Tryz.func83,Tryz.ntmps83
 go_wp2_with (go_at_call 117;refine hC.out.mono ?_;intro e w2 hN;obtain⟨v2,ev2,rfl,hN2⟩:=hN;replace hN2:=hide hN2)
 try go_ret
 rw[hPOST.out]
 exact NPost.pre A.out ⟨v2,ev2,rfl,hN2.out⟩
set_option maxHeartbeats 4000000 in
set_option maxRecDepth 100000 in
theorem dat_91 {t:PT}(hI:ItoaOK w0) (hR:∀ j,i<j→j≤s.size→DatN w0 P ss ds sv rv xs s nt nx pl br f t j):DatN w0 P ss ds sv rv xs s nt nx pl br (f+1) (.wrap 91 p t) i:=by
 intro w v M hT
 obtain⟨v2,hv2,rfl⟩:∃ v2,TyV w P t v2∧v=.iface 205 (.agg #[.int .i64 (p:Int),v2]):=by
  cases hT with
  | wrap _ _ h=>exact⟨_,h,rfl⟩
 obtain⟨vT,vx,rfl⟩:=hv2.iface
 rw[rdT]
 obtain⟨POST,hPOST⟩:∃ Q,Hid (Q=NPost w sv rv s nt nx pl br (rdWrap (rdT s (envOf ds) pl f t) s 91 i)):=⟨_,rfl⟩
 rw[← hPOST.out]
 clear hT
 have A:Fr w (w.alloc (.cells #[.int .i64 (p:Int),.iface vT vx] 205)) (fun _=>False):=(Fr.refl w _).alloc _
 have M0:=M.new A
 have hC:=hide (nlist_any (p:=(p:Int)) M0 (hv2.fr A (fun _ _ f=>f)) hI hR)
 replace A:=hide A
 clear M0 M
 have a0:=asNothing_no 205 (by decide)
 have a1:=asTruth_no 205 (by decide)
 have a2:=asInt_no 205 (by decide)
 have a3:=asLong_no 205 (by decide)
 have a4:=asText_no 205 (by decide)
 have a5:=asList_yes
 go_enter Tryz.func83,Tryz.ntmps83
 go_wp2_with (go_at_call 118;refine hC.out.mono ?_;intro e w2 hN;obtain⟨v2,ev2,rfl,hN2⟩:=hN;replace hN2:=hide hN2)
 try go_ret
 rw[hPOST.out]
 exact NPost.pre A.out ⟨v2,ev2,rfl,hN2.out⟩
set_option maxHeartbeats 4000000 in
set_option maxRecDepth 100000 in
theorem dat_123 {t:PT}(hI:QuoteOK w0) (hR:∀ j,i<j→j≤s.size→DatN w0 P ss ds sv rv xs s nt nx pl br f t j):DatN w0 P ss ds sv rv xs s nt nx pl br (f+1) (.wrap 123 p t) i:=by
 intro w v M hT
 obtain⟨v2,hv2,rfl⟩:∃ v2,TyV w P t v2∧v=.iface 206 (.agg #[.int .i64 (p:Int),v2]):=by
  cases hT with
  | wrap _ _ h=>exact⟨_,h,rfl⟩
 obtain⟨vT,vx,rfl⟩:=hv2.iface
 rw[rdT]
 obtain⟨POST,hPOST⟩:∃ Q,Hid (Q=NPost w sv rv s nt nx pl br (rdWrap (rdT s (envOf ds) pl f t) s 123 i)):=⟨_,rfl⟩
 rw[← hPOST.out]
 clear hT
 have A:Fr w (w.alloc (.cells #[.int .i64 (p:Int),.iface vT vx] 206)) (fun _=>False):=(Fr.refl w _).alloc _
 have M0:=M.new A
 have hC:=hide (nmapping_any (p:=(p:Int)) M0 (hv2.fr A (fun _ _ f=>f)) hI hR)
 replace A:=hide A
 clear M0 M
 have a0:=asNothing_no 206 (by decide)
 have a1:=asTruth_no 206 (by decide)
 have a2:=asInt_no 206 (by decide)
 have a3:=asLong_no 206 (by decide)
 have a4:=asText_no 206 (by decide)
 have a5:=asList_no 206 (by decide)
 have a6:=asMap_yes
 go_enter Tryz.func83,Tryz.ntmps83
 go_wp2_with (go_at_call 119;refine hC.out.mono ?_;intro e w2 hN;obtain⟨v2,ev2,rfl,hN2⟩:=hN;replace hN2:=hide hN2)
 try go_ret
 rw[hPOST.out]
 exact NPost.pre A.out ⟨v2,ev2,rfl,hN2.out⟩
set_option maxHeartbeats 4000000 in
set_option maxRecDepth 100000 in
theorem dat_40 {l:List PT}(hne:l≠[]) (hI:ItoaOK w0) (hR:∀ t∈l,DatN w0 P ss ds sv rv xs s nt nx true br f t i):DatN w0 P ss ds sv rv xs s nt nx true br (f+1) (.alts p l) i:=by
 intro w v M hT
 cases l with
 | nil=>exact absurd rfl hne
 | cons t r=>
 obtain⟨X,v2,ho,_,hX,rfl⟩:∃ X v2,w.ownsRow 0 83 1 v2 (t::r).length ((List.range (t::r).length).map X)∧(∀ g,v2.ownBlock=some g→P g)∧(∀ i u,(t::r)[i]?=some u→TyV w P u (X i))∧v=.iface 220 (.agg #[.int .i64 (p:Int),v2]):=by
  cases hT with
  | alts _ X ho hP h=>exact⟨X,_,ho,hP,h,rfl⟩
 obtain⟨ba,bc,rfl⟩:=own_sl ho
 have hr:rdT s (envOf ds) true (f+1) (.alts p (t::r)) i=oneB 0 (rdT s (envOf ds) true f t i):=by
  rw[rdT];unfold rdBranch;rw[if_pos rfl];simp only
  cases rdT s (envOf ds) true f t i <;> rfl
 rw[hr]
 obtain⟨POST,hPOST⟩:∃ Q,Hid (Q=NPost w sv rv s nt nx true br (oneB 0 (rdT s (envOf ds) true f t i))):=⟨_,rfl⟩
 rw[← hPOST.out]
 have hRt:=hR t (by simp)
 have hX0:=hX 0 t rfl
 clear hT hr hR hX hne
 have A:Fr w (w.alloc (.cells #[.int .i64 (p:Int),.slice ba (t::r).length bc] 220)) (fun _=>False):=(Fr.refl w _).alloc _
 have M0:=M.new A
 have hC:=hide (nunion_any (p:=(p:Int)) M0 (ownsRow_fr ho A (fun _ _ f=>f)) (hX0.fr A (fun _ _ f=>f)) hI hRt)
 replace A:=hide A
 clear M0 M ho hX0 hRt
 generalize (t::r).length=n at hC A⊢
 have a0:=asNothing_no 220 (by decide)
 have a1:=asTruth_no 220 (by decide)
 have a2:=asInt_no 220 (by decide)
 have a3:=asLong_no 220 (by decide)
 have a4:=asText_no 220 (by decide)
 have a5:=asList_no 220 (by decide)
 have a6:=asMap_no 220 (by decide)
 have a7:=asUnion_yes
 go_enter Tryz.func83,Tryz.ntmps83
 go_wp2_with (go_at_call 120;refine hC.out.mono ?_;intro e w2 hN;obtain⟨v2,ev2,rfl,hN2⟩:=hN;replace hN2:=hide hN2)
 try go_ret
 rw[hPOST.out]
 exact NPost.pre A.out ⟨v2,ev2,rfl,hN2.out⟩
end
open Go.RowKit
def DatB (w0:World) (P:Nat→Prop) (ss:ByteArray) (ds:List PD) (sv rv:Value) (xs:List Value) (s:ByteArray) (nt:TypeId) (nx:Value) (pl:Bool) (br f:Nat) (b:PB) (i:Nat):Prop:=
 ∀ (w:World) (v:Value),NC w0 P ss ds sv rv xs s nt nx pl br i w→BodyV w P ss b v→
  Calls Tryz.prog 83 #[.pointer (some ⟨br,0,none⟩),v] w (NPost w sv rv s nt nx pl br (rdNamed (rdT s (envOf ds) pl f) s b i))
section
variable {w0:World} {P:Nat→Prop} {ss:ByteArray} {ds:List PD} {sv rv:Value} {xs:List Value} {s:ByteArray} {nt:TypeId} {nx:Value} {pl:Bool} {br i:Nat} {f p:Nat}
set_option maxHeartbeats 4000000 in
set_option maxRecDepth 100000 in
theorem datB_recd {fs:List PF}(hsm:∀ g∈fs,isSmall g.letter=true) (hlen:fs.length≤300) (hse:smEnv (envOf ds)) (hok:∀ g∈fs,okT (envOf ds) g.ty) (hR:∀ g∈fs,∀ j,i<j→j≤s.size→DatN w0 P ss ds sv rv xs s nt nx pl br f g.ty j):DatB w0 P ss ds sv rv xs s nt nx pl br f (.recd fs) i:=by
 intro w v M hT
 obtain⟨p,sv2,zs,ho,hP,h,rfl⟩:∃ (p:Nat) (sv2:Value) (zs:List Value),w.ownsRow 0 149 4 sv2 fs.length zs∧(∀ g,sv2.ownBlock=some g→P g)∧FldsV w P ss fs zs∧v=.iface 211 (.agg #[.int .i64 (p:Int),sv2]):=by
  cases hT with
  | recd p ho hP h=>exact⟨p,_,_,ho,hP,h,rfl⟩
 obtain⟨fa,fc,rfl⟩:=own_sl ho
 obtain⟨POST,hPOST⟩:∃ Q,Hid (Q=NPost w sv rv s nt nx pl br (rdNamed (rdT s (envOf ds) pl f) s (.recd fs) i)):=⟨_,rfl⟩
 rw[← hPOST.out]
 clear hT
 have A:Fr w (w.alloc (.cells #[.int .i64 (p:Int),.slice fa fs.length fc] 211)) (fun _=>False):=(Fr.refl w _).alloc _
 have M0:=M.new A
 have hC:=hide (nrecord_any (p:=(p:Int)) M0 ((⟨ho,hP,h⟩:FlRow w P ss fs _ _).fr A (fun _ _ f=>f)) hsm hlen hse hok hR)
 replace A:=hide A
 clear M0 M ho h hR hok hsm
 have a0:=asNothing_no 211 (by decide)
 have a1:=asTruth_no 211 (by decide)
 have a2:=asInt_no 211 (by decide)
 have a3:=asLong_no 211 (by decide)
 have a4:=asText_no 211 (by decide)
 have a5:=asList_no 211 (by decide)
 have a6:=asMap_no 211 (by decide)
 have a7:=asUnion_no 211 (by decide)
 have a8:=asName_no 211 (by decide)
 have a9:=asRecord_yes
 go_enter Tryz.func83,Tryz.ntmps83
 go_wp2_with (go_at_call 121;refine hC.out.mono ?_;intro e w2 hN;obtain⟨v2,ev2,rfl,hN2⟩:=hN;replace hN2:=hide hN2)
 try go_ret
 rw[hPOST.out]
 exact NPost.pre A.out ⟨v2,ev2,rfl,hN2.out⟩
set_option maxHeartbeats 4000000 in
set_option maxRecDepth 100000 in
theorem datB_enum {l:List (Nat×Nat)}{o:Option (Nat×Nat)}(hsm:∀ q∈l,isSmall q.1=true) (hlen:l.length≤300):DatB w0 P ss ds sv rv xs s nt nx pl br f (.enum l o) i:=by
 intro w v M hT
 obtain⟨p,sv2,u,ho,hP,hu,rfl⟩:∃ (p:Nat) (sv2 u:Value),w.ownsRow 0 146 2 sv2 l.length (symCells l)∧(∀ g,sv2.ownBlock=some g→P g)∧UnkV w P o u∧v=.iface 216 (.agg #[.int .i64 (p:Int),sv2,u]):=by
  cases hT with
  | enum p ho hP h=>exact⟨p,_,_,ho,hP,h,rfl⟩
 obtain⟨fa,fc,rfl⟩:=own_sl ho
 obtain⟨dd,rfl⟩:∃ d,u=.pointer d:=by
  unfold UnkV at hu
  split at hu
  ·exact⟨_,hu⟩
  ·obtain⟨g',_,e,_⟩:=hu;exact⟨_,e⟩
 have hr:rdNamed (rdT s (envOf ds) pl f) s (.enum l o) i=eEnd s l i:=by
  unfold rdNamed eEnd
  simp only
  by_cases hlt:i<s.size
  ·rw[if_pos hlt]
   cases (l.map Prod.fst).findIdx? (fun c=>c==bt s i) <;> rfl
  ·rw[if_neg hlt,bt_end (by omega),find_none (fun h=>by
    obtain⟨q,hq,e⟩:=List.mem_map.1 h
    obtain⟨k,hk,_⟩:=small_k (hsm q hq)
    omega)]
 rw[hr]
 obtain⟨POST,hPOST⟩:∃ Q,Hid (Q=NPost w sv rv s nt nx pl br (eEnd s l i)):=⟨_,rfl⟩
 rw[← hPOST.out]
 clear hT hu hr
 have A:Fr w (w.alloc (.cells #[.int .i64 (p:Int),.slice fa l.length fc,.pointer dd] 216)) (fun _=>False):=(Fr.refl w _).alloc _
 have M0:=M.new A
 have hC:=hide (nsymbol_any (p:=(p:Int)) (u:=.pointer dd) M0 (ownsRow_fr ho A (fun _ _ f=>f)) hP hlen hsm)
 replace A:=hide A
 clear M0 M ho hsm
 have a0:=asNothing_no 216 (by decide)
 have a1:=asTruth_no 216 (by decide)
 have a2:=asInt_no 216 (by decide)
 have a3:=asLong_no 216 (by decide)
 have a4:=asText_no 216 (by decide)
 have a5:=asList_no 216 (by decide)
 have a6:=asMap_no 216 (by decide)
 have a7:=asUnion_no 216 (by decide)
 have a8:=asName_no 216 (by decide)
 have a9:=asRecord_no 216 (by decide)
 have a10:=asEnum_yes
 go_enter Tryz.func83,Tryz.ntmps83
 go_wp2_with (go_at_call 122;refine hC.out.mono ?_;intro e w2 hN;obtain⟨v2,ev2,rfl,hN2⟩:=hN;replace hN2:=hide hN2)
 try go_ret
 rw[hPOST.out]
 exact NPost.pre A.out ⟨v2,ev2,rfl,hN2.out⟩
set_option maxHeartbeats 4000000 in
set_option maxRecDepth 100000 in
theorem datB_bytes {n:Nat}:DatB w0 P ss ds sv rv xs s nt nx pl br f (.bytes n) i:=by
 intro w v M hT
 obtain⟨p,rfl⟩:∃ p:Nat,v=.iface 233 (.agg #[.int .i64 (p:Int),.int .i64 (n:Int)]):=by
  cases hT with
  | bytes p n=>exact⟨p,rfl⟩
 have hr:rdNamed (rdT s (envOf ds) pl f) s (.bytes n) i=fEnd s n i:=by
  unfold rdNamed fEnd
  rfl
 rw[hr]
 obtain⟨POST,hPOST⟩:∃ Q,Hid (Q=NPost w sv rv s nt nx pl br (fEnd s n i)):=⟨_,rfl⟩
 rw[← hPOST.out]
 clear hT hr
 have A:Fr w (w.alloc (.cells #[.int .i64 (p:Int),.int .i64 (n:Int)] 233)) (fun _=>False):=(Fr.refl w _).alloc _
 have M0:=M.new A
 have hC:=hide (nbytes_any (p:=(p:Int)) (n:=n) M0)
 replace A:=hide A
 clear M0 M
 have a0:=asNothing_no 233 (by decide)
 have a1:=asTruth_no 233 (by decide)
 have a2:=asInt_no 233 (by decide)
 have a3:=asLong_no 233 (by decide)
 have a4:=asText_no 233 (by decide)
 have a5:=asList_no 233 (by decide)
 have a6:=asMap_no 233 (by decide)
 have a7:=asUnion_no 233 (by decide)
 have a8:=asName_no 233 (by decide)
 have a9:=asRecord_no 233 (by decide)
 have a10:=asEnum_no 233 (by decide)
 have a11:=asBytes_yes
 go_enter Tryz.func83,Tryz.ntmps83
 go_wp2_with (go_at_call 123;refine hC.out.mono ?_;intro e w2 hN;obtain⟨v2,ev2,rfl,hN2⟩:=hN;replace hN2:=hide hN2)
 try go_ret
 rw[hPOST.out]
 exact NPost.pre A.out ⟨v2,ev2,rfl,hN2.out⟩
set_option maxHeartbeats 8000000 in
set_option maxRecDepth 100000 in
theorem datn_name {c:Nat}(hc:isName c=true){b:PB}(hb:envOf ds c=some b) (hR:DatB w0 P ss ds sv rv xs s nt nx pl br f b i):DatN w0 P ss ds sv rv xs s nt nx pl br (f+1) (.leaf c p) i:=by
 intro w v M hT
 have hcr:65≤c∧c≤70:=by simpa[isName] using hc
 obtain rfl:v=.iface 209 (.agg #[.int .i64 (p:Int),.int .u8 (c:Int)]):=by
  cases hT with
  | base _ _ h=>
   simp only[isBase,Bool.or_eq_true,beq_iff_eq] at h
   omega
  | name _ _ h=>rfl
 have hr:rdT s (envOf ds) pl (f+1) (.leaf c p) i=rdNamed (rdT s (envOf ds) pl f) s b i:=by
  rw[rdT]
  unfold rdLeaf
  rw[if_neg (by omega),if_neg (by omega),if_neg (by omega),if_neg (by omega),hb]
 rw[hr]
 obtain⟨RES,hRES⟩:∃ r,r=rdNamed (rdT s (envOf ds) pl f) s b i:=⟨_,rfl⟩
 rw[← hRES]
 obtain⟨POST,hPOST⟩:∃ Q,Hid (Q=NPost w sv rv s nt nx pl br RES):=⟨_,rfl⟩
 rw[← hPOST.out]
 have A:Fr w (w.alloc (.cells #[.int .i64 (p:Int),.int .u8 (c:Int)] 209)) (fun _=>False):=(Fr.refl w _).alloc _
 have M0:=M.new A
 have hN0:=Blk.new w #[.int .i64 (p:Int),.int .u8 (c:Int)] 209
 have hbl:=M.lt
 have hcalls:=hide (And.intro M0 (And.intro hN0 A))
 clear hr hT M M0 hN0 A
 have a0:=asNothing_no 209 (by decide)
 have a1:=asTruth_no 209 (by decide)
 have a2:=asInt_no 209 (by decide)
 have a3:=asLong_no 209 (by decide)
 have a4:=asText_no 209 (by decide)
 have a5:=asList_no 209 (by decide)
 have a6:=asMap_no 209 (by decide)
 have a7:=asUnion_no 209 (by decide)
 have a8:=asName_yes
 go_enter Tryz.func83,Tryz.ntmps83
 go_wp2_with fail
 obtain⟨M0,hN0,A⟩:=hcalls.out
 have M1:=M0.still (Still.drew _)
 have u0:=M0.R.c0
 have u1:=M0.R.c1
 have u2:=hN0.cell 1
 simp only[List.getElem?_cons_zero,List.getElem?_cons_succ] at u2
 have hCm:=meaning_any (rv:=rv) c M1.D
 refine wp_regionAll (fun W=>W.cell? ⟨br,0,none⟩=some sv∧W.cell? ⟨br,1,none⟩=some rv∧W.cell? ⟨w.heap.size,1,none⟩=some (.int .u8 (c:Int))) (by kernel_rfl) ?_
 refine wpAllC_take 0 ?v0 rfl (by kernel_rfl) (fun _ _ _ h=>h) (by kernel_rfl) ?y0 ?_
 case y0=>(rintro W ⟨h1,h2,h3⟩;go_simp <;> rfl)
 refine wpAllC_take 1 ?v1 rfl (by kernel_rfl) (fun _ _ _ h=>h) (by kernel_rfl) ?y1 ?_
 case y1=>(rintro W ⟨h1,h2,h3⟩;go_simp <;> rfl)
 refine wpAllC_take 2 ?v2 rfl (by kernel_rfl) (fun _ _ _ h=>h) (by kernel_rfl) ?y2 ?_
 case y2=>(rintro W ⟨h1,h2,h3⟩;go_simp <;> rfl)
 refine wpAllC_take 3 ?v3 rfl (by kernel_rfl) (fun _ _ _ h=>h) (by kernel_rfl) ?y3 ?_
 case y3=>(rintro W ⟨h1,h2,h3⟩;go_simp <;> rfl)
 refine wpAllC_take 4 ?v4 rfl (by kernel_rfl) (fun _ _ _ h=>h) (by kernel_rfl) ?y4 ?_
 case y4=>(rintro W ⟨h1,h2,h3⟩;go_simp <;> rfl)
 refine wpAllC_take 5 ?v5 rfl (by kernel_rfl) (fun _ _ _ h=>h) (by kernel_rfl) ?y5 ?_
 case y5=>(rintro W ⟨h1,h2,h3⟩;go_simp <;> rfl)
 refine wpAllC_take 6 ?v6 rfl (by kernel_rfl) (fun _ _ _ h=>h) (by kernel_rfl) ?y6 ?_
 case y6=>(rintro W ⟨h1,h2,h3⟩;go_simp <;> rfl)
 refine wpAllC_one 7 rfl (by kernel_rfl) ⟨u0,u1,u2⟩ (fun K hK=>?_)
 go_simp
 refine hCm.mono ?_
 rintro e w2 ⟨v2,rfl,hf2,hm2⟩
 refine hK _ _ ?_
 clear hK K
 rw[hb] at hm2
 have M2:=M1.new hf2
 have hCd:=hR w2 v2 M2 hm2
 have hN2:=hf2.blk (((Fr.refl _ (fun _=>False)).still (Still.drew (w.alloc (.cells #[.int .i64 (p:Int),.int .u8 (c:Int)] 209)))).blk hN0 id) id
 have x0:=M2.R.c0
 have x1:=M2.R.c1
 have x2:=hN2.cell 1
 simp only[List.getElem?_cons_zero,List.getElem?_cons_succ] at x2
 rw[← hRES] at hCd
 refine wpAllC_one 8 rfl (by kernel_rfl) ⟨x0,x1,x2⟩ (fun K hK=>?_)
 go_simp
 refine hCd.mono ?_
 rintro e w3 ⟨v3,ev3,rfl,hf3,hm3⟩
 refine hK _ _ ?_
 clear hK K
 obtain⟨j3,h3⟩:∃ j,RdAt w3 br sv rv s j (!pl):=by
  cases RES with
  | none=>exact⟨_,hm3.2.2.choose_spec.1⟩
  | some q=>exact⟨_,hm3.2.2.1⟩
 have y0:=h3.c0
 have y1:=h3.c1
 have y2:=(hf3.blk hN2 (by omega)).cell 1
 simp only[List.getElem?_cons_zero,List.getElem?_cons_succ] at y2
 replace hm3:=hide hm3
 replace hf3:=hide hf3
 replace hf2:=hide hf2
 replace A:=hide A
 clear hCm hCd M0 M1 M2 hN0 hN2 hm2 hcalls u0 u1 u2 x0 x1 x2 h3
 refine wpAllC_take 9 ?v9 rfl (by kernel_rfl) (fun _ _ _ h=>h) (by kernel_rfl) ?y9 ?_
 case y9=>(rintro W ⟨h1,h2,h3⟩;go_simp <;> rfl)
 refine wpAllC_take 10 ?v10 rfl (by kernel_rfl) (fun _ _ _ h=>h) (by kernel_rfl) ?y10 ?_
 case y10=>(rintro W ⟨h1,h2,h3⟩;go_simp <;> rfl)
 refine wpAllC_take 11 ?v11 rfl (by kernel_rfl) (fun _ _ _ h=>h) (by kernel_rfl) ?y11 ?_
 case y11=>(rintro W ⟨h1,h2,h3⟩;go_simp <;> rfl)
 refine wpAllC_take 12 ?v12 rfl (by kernel_rfl) (fun _ _ _ h=>h) (by kernel_rfl) ?y12 ?_
 case y12=>(rintro W ⟨h1,h2,h3⟩;go_simp <;> rfl)
 refine wpAllC_done (by kernel_rfl) ⟨y0,y1,y2⟩ ?_ _
 go_wp2_with fail
 refine bodyPost_ret (v:=.tuple #[v3,ev3]) (by simp[results,Tryz.results83,go_sem]) rfl ?_
 rw[hPOST.out]
 exact NPost.pre (A.out.trans (((Fr.refl _ (fun _=>False)).still (Still.drew _)).trans hf2.out (fun _ _ f=>f)) (fun _ _ f=>f)) ⟨v3,ev3,rfl,hf3.out,hm3.out⟩
end
def goodEnv (ds:List PD):Prop:=∀ c b,envOf ds c=some b→plB b∧okB (envOf ds) b
theorem goodEnv.sm {ds:List PD}(h:goodEnv ds):smEnv (envOf ds):=fun c _ _ e=>(h c _ e).1.2.1
def brL (pl:Bool) (l:List PT):Prop:=pl=true∨l.length≤300
mutual
def brT (pl:Bool):PT→Prop
 | .leaf _ _=>True
 | .wrap _ _ t=>brT pl t
 | .alts _ l=>brL pl l∧brTs pl l
def brTs (pl:Bool):List PT→Prop
 | []=>True
 | t::r=>brT pl t∧brTs pl r
end
def brE (pl:Bool) (ds:List PD):Prop:=∀ c fs,envOf ds c=some (.recd fs)→∀ g∈fs,brT pl g.ty
mutual
theorem brT_true:∀ t:PT,brT true t
 | .leaf _ _=>by unfold brT;trivial
 | .wrap _ _ t=>by unfold brT;exact brT_true t
 | .alts _ l=>by unfold brT;exact⟨.inl rfl,brTs_true l⟩
theorem brTs_true:∀ l:List PT,brTs true l
 | []=>by unfold brTs;trivial
 | t::r=>by unfold brTs;exact⟨brT_true t,brTs_true r⟩
end
theorem brTs_at {pl:Bool}:∀ {l:List PT},brTs pl l→∀ t∈l,brT pl t
 | [],_,t,h=>by cases h
 | a::r,h,t,ht=>by
  unfold brTs at h
  rcases List.mem_cons.1 ht with rfl|ht
  ·exact h.1
  ·exact brTs_at h.2 t ht
def UniN (w0:World) (P:Nat→Prop) (ss:ByteArray) (ds:List PD) (sv rv:Value) (xs:List Value) (s:ByteArray) (nt:TypeId) (nx:Value) (pl:Bool) (br:Nat):Prop:=
 ∀ (f p:Nat) (l:List PT) (i:Nat),l≠[]→brL pl l→i≤s.size→(∀ t∈l,∀ j,(pl=true→j=i)→(pl=false→i<j)→j≤s.size→DatN w0 P ss ds sv rv xs s nt nx pl br f t j)→DatN w0 P ss ds sv rv xs s nt nx pl br (f+1) (.alts p l) i
theorem uni_plain {w0:World}{P:Nat→Prop}{ss:ByteArray}{ds:List PD}{sv rv:Value}{xs:List Value}{s:ByteArray}{nt:TypeId}{nx:Value}{br:Nat}(hI:ItoaOK w0):UniN w0 P ss ds sv rv xs s nt nx true br:=
 fun _ _ _ i hne _ hi hR=>dat_40 hne hI (fun t ht=>hR t ht i (fun _=>rfl) (fun h=>by cases h) hi)
theorem dat_all {w0:World}{P:Nat→Prop}{ss:ByteArray}{ds:List PD}{sv rv:Value}{xs:List Value}{s:ByteArray}{nt:TypeId}{nx:Value}{pl:Bool}{br:Nat}(hE:goodEnv ds) (hB:brE pl ds) (hI:ItoaOK w0) (hQ:QuoteOK w0) (hN:NumN w0 P ss ds sv rv xs s nt nx pl br) (hU:UniN w0 P ss ds sv rv xs s nt nx pl br) :
 ∀ (f:Nat) (t:PT) (i:Nat),okT (envOf ds) t→brT pl t→i≤s.size→2*(s.size-i)+(if t.isAlts=true then 1 else 0)<f→DatN w0 P ss ds sv rv xs s nt nx pl br f t i:=by
 intro f
 induction f with
 | zero=>intro t i _ _ _ h;omega
 | succ f ih=>
  intro t i ht hbt hi hm
  have next:∀ u,okT (envOf ds) u→brT pl u→∀ j,i<j→j≤s.size→DatN w0 P ss ds sv rv xs s nt nx pl br f u j:=fun u hu hb j h1 h2=>ih u j hu hb h2 (by split <;> omega)
  cases t with
  | leaf c p=>
   unfold okT at ht
   rcases ht with hb|⟨hn,pb,he⟩
   ·simp only[isBase,Bool.or_eq_true,beq_iff_eq] at hb
    rcases hb with(((rfl|rfl)|rfl)|rfl)|rfl
    ·exact dat_110
    ·exact dat_116
    ·exact dat_105 hN
    ·exact dat_108 hN
    ·exact dat_115
   ·obtain⟨g1,g2⟩:=hE c pb he
    refine datn_name hn he ?_
    cases pb with
    | recd fs=>exact datB_recd g1.2.1 g1.1 hE.sm g2 (fun g hg=>next g.ty (g2 g hg) (hB c fs he g hg))
    | enum l o=>exact datB_enum g1.2.1 g1.1
    | bytes n=>exact datB_bytes
  | wrap c p t=>
   unfold okT at ht
   unfold brT at hbt
   rcases ht.1 with rfl|rfl
   ·exact dat_91 hI (next t ht.2 hbt)
   ·exact dat_123 hQ (next t ht.2 hbt)
  | alts p l=>
   unfold okT at ht
   unfold brT at hbt
   have hall:∀ u∈l,okT (envOf ds) u∧u.isAlts=false:=by
    have:=ht.2
    clear ht hm hbt
    induction l with
    | nil=>intro u hu;simp at hu
    | cons x r ihr=>
     unfold okTs at this
     intro u hu
     rcases List.mem_cons.1 hu with rfl|hu
     ·exact⟨this.2.1,this.1⟩
     ·exact ihr this.2.2 u hu
   refine hU f p l i ht.1 hbt.1 hi (fun u hu j h1 h2 h3=>?_)
   refine ih u j (hall u hu).1 (brTs_at hbt.2 u hu) h3 ?_
   have hij:i≤j:=by
    cases pl with
    | true=>have:=h1 rfl;omega
    | false=>have:=h2 rfl;omega
   rw[(hall u hu).2]
   simp only[PT.isAlts,if_true] at hm
   simp only[Bool.false_eq_true,if_false]
   omega
open Go.RowKit
def WhPost (w:World) (S:Nat→Prop) (nt:TypeId) (nx:Value) (ok:Bool) (e:Ending) (w':World):Prop:=
 ∃ v ev,e=.returned (.tuple #[v,ev])∧Fr w w' S∧if ok=true then ev=.nilIface∧(∃ T x,v=.iface T x) else v=.nilIface∧ErrD w' w.heap.size nt nx ev
def WdPost (w:World) (S:Nat→Prop) (nt:TypeId) (nx:Value) (r:Option DT) (e:Ending) (w':World):Prop:=
 ∃ v ev,e=.returned (.tuple #[v,ev])∧Fr w w' S∧match r with|some d=>ev=.nilIface∧DatV w' (fun g=>w.heap.size≤g) d v|none=>v=.nilIface∧ErrD w' w.heap.size nt nx ev
set_option maxHeartbeats 4000000 in
set_option maxRecDepth 100000 in
theorem nwhole_any {w0 w:World}{P:Nat→Prop}{ss:ByteArray}{ds:List PD}{sv rv:Value}{xs:List Value}{s:ByteArray}{nt:TypeId}{nx:Value}{pl:Bool}{br:Nat}{t:PT}{v:Value}(M:NC w0 P ss ds sv rv xs s nt nx pl br 0 w) (hT:TyV w P t v) (hR:DatN w0 P ss ds sv rv xs s nt nx pl br (2*s.size+2) t 0) :
 Calls Tryz.prog 54 #[.pointer (some ⟨br,0,none⟩),v] w (WdPost w (· = br) nt nx (readT (envOf ds) pl t s)):=by
 obtain⟨POST,hPOST⟩:∃ Q,Hid (Q=WdPost w (· = br) nt nx (readT (envOf ds) pl t s)):=⟨_,rfl⟩
 rw[← hPOST.out]
 have hC:=hide (hR w v M hT)
 replace M:=hide M
 clear hT hR
 cases hp:rdT s (envOf ds) pl (2*s.size+2) t 0 with
 | none=>
  have hr:=hide (show readT (envOf ds) pl t s=none by unfold readT;rw[hp])
  replace hp:=hide hp
  go_enter Tryz.func54,Tryz.ntmps54
  go_wp2_with (go_at_call 83;refine hC.out.mono ?_;rintro e w1 ⟨v1,ev1,rfl,hf1,hm⟩;rw[hp.out] at hm;obtain⟨rfl,hErr,_⟩:=hm;obtain⟨eT,ex,rfl⟩:=hErr.iface;replace hf1:=hide hf1;replace hErr:=hide hErr)
  try go_ret
  rw[hPOST.out,hr.out]
  exact⟨_,_,rfl,hf1.out,rfl,hErr.out⟩
 | some q=>
  obtain⟨d,j⟩:=q
  have hj:=(rdT_goes s (envOf ds) pl _ t 0 d j hp).2
  by_cases hjs:j=s.size
  ·have hr:=hide (show readT (envOf ds) pl t s=some d by unfold readT;rw[hp];simp only;rw[if_pos hjs])
   have hjn:¬ ((j:Int)<(s.size:Int)):=by omega
   replace hp:=hide hp
   clear hjs hj
   go_enter Tryz.func54,Tryz.ntmps54
   go_wp2_with (go_at_call 83;refine hC.out.mono ?_;rintro e w1 ⟨v1,ev1,rfl,hf1,hm⟩;rw[hp.out] at hm;obtain⟨rfl,hDv,h1,_⟩:=hm;obtain⟨dT,dx,rfl⟩:=hDv.iface;replace hDv:=hide hDv;have c2:=h1.c2;have c3:=h1.c3;replace hf1:=hide hf1;clear h1)
   go_quiet (fail)
   go_wp2_with fail
   try go_ret
   rw[hPOST.out,hr.out]
   exact⟨_,_,rfl,hf1.out.still (Still.drewN _ _),rfl,hDv.out.fr ((Fr.refl w1 (fun _=>False)).still (Still.drewN _ _)) (fun _ _ f=>f)⟩
  ·have hr:=hide (show readT (envOf ds) pl t s=none by unfold readT;rw[hp];simp only;rw[if_neg hjs])
   have hjn:(j:Int)<(s.size:Int):=by omega
   replace hp:=hide hp
   clear hjs
   go_enter Tryz.func54,Tryz.ntmps54
   go_wp2_with (go_at_call 83;refine hC.out.mono ?_;rintro e w1 ⟨v1,ev1,rfl,hf1,hm⟩;rw[hp.out] at hm;obtain⟨rfl,hDv,h1,hj1⟩:=hm;obtain⟨dT,dx,rfl⟩:=hDv.iface;clear hDv;have c2:=h1.c2;have c3:=h1.c3;have e1:=(M.out.call h1 hf1 hj1).e;replace hf1:=hide hf1;clear h1)
   go_quiet (fail)
   go_wp2_with fail
   go_quiet (fail)
   go_wp2_with fail
   try go_ret
   rw[hPOST.out,hr.out]
   exact⟨_,_,rfl,hf1.out.still ((Still.drewN _ _).trans (Still.drewN _ _)),rfl,.base⟩
def NumAll (w0:World):Prop:=∀ P ss ds sv rv xs s nt nx pl br,NumN w0 P ss ds sv rv xs s nt nx pl br
set_option maxHeartbeats 4000000 in
set_option maxRecDepth 100000 in
theorem nDefault_any {w0 w:World}{P:Nat→Prop}{ss:ByteArray}{ds:List PD}{sv:Value}{rT:TypeId}{rx:Value}{xs:List Value}{s:ByteArray}{nt:TypeId}{nx:Value}{t:PT}{v:Value}(D:DRow w P ss ds sv xs) (hT:TyV w P t v) (hG:SameG w0 w) (hk:w0.heap.size≤w.heap.size) (hPw:∀ g,P g→g<w.heap.size) (hE:ErrV 3 w0 nt nx) (hs:s.size≤300) (hok:okT (envOf ds) t) (hen:goodEnv ds) (hI:ItoaOK w0) (hQ:QuoteOK w0) (hN:NumAll w0) :
 Calls Tryz.prog 82 #[.agg #[sv,.iface rT rx],v,.string s] w (WhPost w (fun _=>False) nt nx (readT (envOf ds) true t s).isSome):=by
 obtain⟨POST,hPOST⟩:∃ Q,Hid (Q=WhPost w (fun _=>False) nt nx (readT (envOf ds) true t s).isSome):=⟨_,rfl⟩
 rw[← hPOST.out]
 obtain⟨sa,sc,rfl⟩:=own_sl D.row
 have A:Fr w ((w.alloc (.cells #[.slice sa ds.length sc,.iface rT rx] 85)).alloc (.cells #[.slice sa ds.length sc,.iface rT rx,.string s,.int .i64 0,.bool false] 114)) (fun _=>False):=((Fr.refl w _).alloc _).alloc _
 have z1:(w.alloc (.cells #[.slice sa ds.length sc,.iface rT rx] 85)).heap.size=w.heap.size+1:=by simp
 have hR0:=Blk.new (w.alloc (.cells #[.slice sa ds.length sc,.iface rT rx] 85)) #[.slice sa ds.length sc,.iface rT rx,.string s,.int .i64 0,.bool false] 114
 rw[z1] at hR0
 have M0:NC w0 P ss ds (.slice sa ds.length sc) (.iface rT rx) xs s nt nx true (w.heap.size+1) 0 ((w.alloc (.cells #[.slice sa ds.length sc,.iface rT rx] 85)).alloc (.cells #[.slice sa ds.length sc,.iface rT rx,.string s,.int .i64 0,.bool false] 114)):=
  ⟨hR0,D.fr A (fun _ _ f=>f),hG.fr A hk (fun g f=>f.elim),hE,fun g hg=>by have:=hPw g hg;omega,by omega,by omega,Nat.zero_le _⟩
 have hC:=hide (nwhole_any M0 (hT.fr A (fun _ _ f=>f)) (dat_all hen (fun _ _ _ g _=>brT_true g.ty) hI hQ (hN _ _ _ _ _ _ _ _ _ _ _) (uni_plain hI) _ t 0 hok (brT_true t) (Nat.zero_le _) (by split <;> omega)))
 replace A:=hide A
 clear M0 hR0 z1 D hT hG
 go_enter Tryz.func82,Tryz.ntmps82
 go_wp2_with (go_at_call 54;refine hC.out.mono ?_;rintro e w1 ⟨v1,ev1,rfl,hf1,hm⟩;replace hf1:=hide hf1;replace hm:=hide hm)
 try go_ret
 rw[hPOST.out]
 have hsz:=A.out.size
 refine⟨v1,ev1,rfl,A.out.trans hf1.out (fun g hg e=>by omega),?_⟩
 have hm':=hm.out
 cases hq:readT (envOf ds) true t s with
 | none=>rw[hq] at hm';exact⟨hm'.1,hm'.2.less hsz⟩
 | some d=>rw[hq] at hm';exact⟨hm'.1,hm'.2.iface⟩
end Go.Proofs.YtiifagiebikmdaaGreatDoor
