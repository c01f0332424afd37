import Derived.Test.YtiifagiebikmdaaGreatDoorBK27
import Derived.Test.YtiifagiebikmdaaGreatDoorBK07
namespace Go.Proofs.YtiifagiebikmdaaGreatDoor
open Go.RowKit
def DatB (w0:World) (P:Nat→Prop) (ss:ByteArray) (ds:List PD) (sv rv:Value) (xs:List Value) (s:ByteArray) (nt:TypeId) (nx:Value) (pl:Bool) (br f:Nat) (b:PB) (i:Nat):Prop:=
 ∀ (w:World) (v:Value),NC w0 P ss ds sv rv xs s nt nx pl br i w→BodyV w P ss b v→
  Calls Tryz.prog 83 #[.pointer (some ⟨br,0,none⟩),v] w (NPost w sv rv s nt nx pl br (rdNamed (rdT s (envOf ds) pl f) s b i))
section
variable {w0:World} {P:Nat→Prop} {ss:ByteArray} {ds:List PD} {sv rv:Value} {xs:List Value} {s:ByteArray} {nt:TypeId} {nx:Value} {pl:Bool} {br i:Nat} {f p:Nat}
set_option maxHeartbeats 4000000 in
set_option maxRecDepth 100000 in
theorem datB_recd {fs:List PF}(hsm:∀ g∈fs,isSmall g.letter=true) (hlen:fs.length≤300) (hse:smEnv (envOf ds)) (hok:∀ g∈fs,okT (envOf ds) g.ty) (hR:∀ g∈fs,∀ j,i<j→j≤s.size→DatN w0 P ss ds sv rv xs s nt nx pl br f g.ty j):DatB w0 P ss ds sv rv xs s nt nx pl br f (.recd fs) i:=by
 intro w v M hT
 obtain⟨p,sv2,zs,ho,hP,h,rfl⟩:∃ (p:Nat) (sv2:Value) (zs:List Value),w.ownsRow 0 149 4 sv2 fs.length zs∧(∀ g,sv2.ownBlock=some g→P g)∧FldsV w P ss fs zs∧v=.iface 211 (.agg #[.int .i64 (p:Int),sv2]):=by
  cases hT with
  | recd p ho hP h=>exact⟨p,_,_,ho,hP,h,rfl⟩
 obtain⟨fa,fc,rfl⟩:=own_sl ho
 obtain⟨POST,hPOST⟩:∃ Q,Hid (Q=NPost w sv rv s nt nx pl br (rdNamed (rdT s (envOf ds) pl f) s (.recd fs) i)):=⟨_,rfl⟩
 rw[← hPOST.out]
 clear hT
 have A:Fr w (w.alloc (.cells #[.int .i64 (p:Int),.slice fa fs.length fc] 211)) (fun _=>False):=(Fr.refl w _).alloc _
 have M0:=M.new A
 have hC:=hide (nrecord_any (p:=(p:Int)) M0 ((⟨ho,hP,h⟩:FlRow w P ss fs _ _).fr A (fun _ _ f=>f)) hsm hlen hse hok hR)
 replace A:=hide A
 clear M0 M ho h hR hok hsm
 have a0:=asNothing_no 211 (by decide)
 have a1:=asTruth_no 211 (by decide)
 have a2:=asInt_no 211 (by decide)
 have a3:=asLong_no 211 (by decide)
 have a4:=asText_no 211 (by decide)
 have a5:=asList_no 211 (by decide)
 have a6:=asMap_no 211 (by decide)
 have a7:=asUnion_no 211 (by decide)
 have a8:=asName_no 211 (by decide)
 have a9:=asRecord_yes
 go_enter Tryz.func83,Tryz.ntmps83
 go_wp2_with (go_at_call 121;refine hC.out.mono ?_;intro e w2 hN;obtain⟨v2,ev2,rfl,hN2⟩:=hN;replace hN2:=hide hN2)
 try go_ret
 rw[hPOST.out]
 exact NPost.pre A.out ⟨v2,ev2,rfl,hN2.out⟩
set_option maxHeartbeats 4000000 in
set_option maxRecDepth 100000 in
theorem datB_enum {l:List (Nat×Nat)}{o:Option (Nat×Nat)}(hsm:∀ q∈l,isSmall q.1=true) (hlen:l.length≤300):DatB w0 P ss ds sv rv xs s nt nx pl br f (.enum l o) i:=by
 intro w v M hT
 obtain⟨p,sv2,u,ho,hP,hu,rfl⟩:∃ (p:Nat) (sv2 u:Value),w.ownsRow 0 146 2 sv2 l.length (symCells l)∧(∀ g,sv2.ownBlock=some g→P g)∧UnkV w P o u∧v=.iface 216 (.agg #[.int .i64 (p:Int),sv2,u]):=by
  cases hT with
  | enum p ho hP h=>exact⟨p,_,_,ho,hP,h,rfl⟩
 obtain⟨fa,fc,rfl⟩:=own_sl ho
 obtain⟨dd,rfl⟩:∃ d,u=.pointer d:=by
  unfold UnkV at hu
  split at hu
  ·exact⟨_,hu⟩
  ·obtain⟨g',_,e,_⟩:=hu;exact⟨_,e⟩
 have hr:rdNamed (rdT s (envOf ds) pl f) s (.enum l o) i=eEnd s l i:=by
  unfold rdNamed eEnd
  simp only
  by_cases hlt:i<s.size
  ·rw[if_pos hlt]
   cases (l.map Prod.fst).findIdx? (fun c=>c==bt s i) <;> rfl
  ·rw[if_neg hlt,bt_end (by omega),find_none (fun h=>by
    obtain⟨q,hq,e⟩:=List.mem_map.1 h
    obtain⟨k,hk,_⟩:=small_k (hsm q hq)
    omega)]
 rw[hr]
 obtain⟨POST,hPOST⟩:∃ Q,Hid (Q=NPost w sv rv s nt nx pl br (eEnd s l i)):=⟨_,rfl⟩
 rw[← hPOST.out]
 clear hT hu hr
 have A:Fr w (w.alloc (.cells #[.int .i64 (p:Int),.slice fa l.length fc,.pointer dd] 216)) (fun _=>False):=(Fr.refl w _).alloc _
 have M0:=M.new A
 have hC:=hide (nsymbol_any (p:=(p:Int)) (u:=.pointer dd) M0 (ownsRow_fr ho A (fun _ _ f=>f)) hP hlen hsm)
 replace A:=hide A
 clear M0 M ho hsm
 have a0:=asNothing_no 216 (by decide)
 have a1:=asTruth_no 216 (by decide)
 have a2:=asInt_no 216 (by decide)
 have a3:=asLong_no 216 (by decide)
 have a4:=asText_no 216 (by decide)
 have a5:=asList_no 216 (by decide)
 have a6:=asMap_no 216 (by decide)
 have a7:=asUnion_no 216 (by decide)
 have a8:=asName_no 216 (by decide)
 have a9:=asRecord_no 216 (by decide)
 have a10:=asEnum_yes
 go_enter Tryz.func83,Tryz.ntmps83
 go_wp2_with (go_at_call 122;refine hC.out.mono ?_;intro e w2 hN;obtain⟨v2,ev2,rfl,hN2⟩:=hN;replace hN2:=hide hN2)
 try go_ret
 rw[hPOST.out]
 exact NPost.pre A.out ⟨v2,ev2,rfl,hN2.out⟩
set_option maxHeartbeats 4000000 in
set_option maxRecDepth 100000 in
theorem datB_bytes {n:Nat}:DatB w0 P ss ds sv rv xs s nt nx pl br f (.bytes n) i:=by
 intro w v M hT
 obtain⟨p,rfl⟩:∃ p:Nat,v=.iface 233 (.agg #[.int .i64 (p:Int),.int .i64 (n:Int)]):=by
  cases hT with
  | bytes p n=>exact⟨p,rfl⟩
 have hr:rdNamed (rdT s (envOf ds) pl f) s (.bytes n) i=fEnd s n i:=by
  unfold rdNamed fEnd
  rfl
 rw[hr]
 obtain⟨POST,hPOST⟩:∃ Q,Hid (Q=NPost w sv rv s nt nx pl br (fEnd s n i)):=⟨_,rfl⟩
 rw[← hPOST.out]
 clear hT hr
 have A:Fr w (w.alloc (.cells #[.int .i64 (p:Int),.int .i64 (n:Int)] 233)) (fun _=>False):=(Fr.refl w _).alloc _
 have M0:=M.new A
 have hC:=hide (nbytes_any (p:=(p:Int)) (n:=n) M0)
 replace A:=hide A
 clear M0 M
 have a0:=asNothing_no 233 (by decide)
 have a1:=asTruth_no 233 (by decide)
 have a2:=asInt_no 233 (by decide)
 have a3:=asLong_no 233 (by decide)
 have a4:=asText_no 233 (by decide)
 have a5:=asList_no 233 (by decide)
 have a6:=asMap_no 233 (by decide)
 have a7:=asUnion_no 233 (by decide)
 have a8:=asName_no 233 (by decide)
 have a9:=asRecord_no 233 (by decide)
 have a10:=asEnum_no 233 (by decide)
 have a11:=asBytes_yes
 go_enter Tryz.func83,Tryz.ntmps83
 go_wp2_with (go_at_call 123;refine hC.out.mono ?_;intro e w2 hN;obtain⟨v2,ev2,rfl,hN2⟩:=hN;replace hN2:=hide hN2)
 try go_ret
 rw[hPOST.out]
 exact NPost.pre A.out ⟨v2,ev2,rfl,hN2.out⟩
set_option maxHeartbeats 8000000 in
set_option maxRecDepth 100000 in
theorem datn_name {c:Nat}(hc:isName c=true){b:PB}(hb:envOf ds c=some b) (hR:DatB w0 P ss ds sv rv xs s nt nx pl br f b i):DatN w0 P ss ds sv rv xs s nt nx pl br (f+1) (.leaf c p) i:=by
 intro w v M hT
 have hcr:65≤c∧c≤70:=by simpa[isName] using hc
 obtain rfl:v=.iface 209 (.agg #[.int .i64 (p:Int),.int .u8 (c:Int)]):=by
  cases hT with
  | base _ _ h=>
   simp only[isBase,Bool.or_eq_true,beq_iff_eq] at h
   omega
  | name _ _ h=>rfl
 have hr:rdT s (envOf ds) pl (f+1) (.leaf c p) i=rdNamed (rdT s (envOf ds) pl f) s b i:=by
  rw[rdT]
  unfold rdLeaf
  rw[if_neg (by omega),if_neg (by omega),if_neg (by omega),if_neg (by omega),hb]
 rw[hr]
 obtain⟨RES,hRES⟩:∃ r,r=rdNamed (rdT s (envOf ds) pl f) s b i:=⟨_,rfl⟩
 rw[← hRES]
 obtain⟨POST,hPOST⟩:∃ Q,Hid (Q=NPost w sv rv s nt nx pl br RES):=⟨_,rfl⟩
 rw[← hPOST.out]
 have A:Fr w (w.alloc (.cells #[.int .i64 (p:Int),.int .u8 (c:Int)] 209)) (fun _=>False):=(Fr.refl w _).alloc _
 have M0:=M.new A
 have hN0:=Blk.new w #[.int .i64 (p:Int),.int .u8 (c:Int)] 209
 have hbl:=M.lt
 have hcalls:=hide (And.intro M0 (And.intro hN0 A))
 clear hr hT M M0 hN0 A
 have a0:=asNothing_no 209 (by decide)
 have a1:=asTruth_no 209 (by decide)
 have a2:=asInt_no 209 (by decide)
 have a3:=asLong_no 209 (by decide)
 have a4:=asText_no 209 (by decide)
 have a5:=asList_no 209 (by decide)
 have a6:=asMap_no 209 (by decide)
 have a7:=asUnion_no 209 (by decide)
 have a8:=asName_yes
 go_enter Tryz.func83,Tryz.ntmps83
 go_wp2_with fail
 obtain⟨M0,hN0,A⟩:=hcalls.out
 have M1:=M0.still (Still.drew _)
 have u0:=M0.R.c0
 have u1:=M0.R.c1
 have u2:=hN0.cell 1
 simp only[List.getElem?_cons_zero,List.getElem?_cons_succ] at u2
 have hCm:=meaning_any (rv:=rv) c M1.D
 refine wp_regionAll (fun W=>W.cell? ⟨br,0,none⟩=some sv∧W.cell? ⟨br,1,none⟩=some rv∧W.cell? ⟨w.heap.size,1,none⟩=some (.int .u8 (c:Int))) (by kernel_rfl) ?_
 refine wpAllC_take 0 ?v0 rfl (by kernel_rfl) (fun _ _ _ h=>h) (by kernel_rfl) ?y0 ?_
 case y0=>(rintro W ⟨h1,h2,h3⟩;go_simp <;> rfl)
 refine wpAllC_take 1 ?v1 rfl (by kernel_rfl) (fun _ _ _ h=>h) (by kernel_rfl) ?y1 ?_
 case y1=>(rintro W ⟨h1,h2,h3⟩;go_simp <;> rfl)
 refine wpAllC_take 2 ?v2 rfl (by kernel_rfl) (fun _ _ _ h=>h) (by kernel_rfl) ?y2 ?_
 case y2=>(rintro W ⟨h1,h2,h3⟩;go_simp <;> rfl)
 refine wpAllC_take 3 ?v3 rfl (by kernel_rfl) (fun _ _ _ h=>h) (by kernel_rfl) ?y3 ?_
 case y3=>(rintro W ⟨h1,h2,h3⟩;go_simp <;> rfl)
 refine wpAllC_take 4 ?v4 rfl (by kernel_rfl) (fun _ _ _ h=>h) (by kernel_rfl) ?y4 ?_
 case y4=>(rintro W ⟨h1,h2,h3⟩;go_simp <;> rfl)
 refine wpAllC_take 5 ?v5 rfl (by kernel_rfl) (fun _ _ _ h=>h) (by kernel_rfl) ?y5 ?_
 case y5=>(rintro W ⟨h1,h2,h3⟩;go_simp <;> rfl)
 refine wpAllC_take 6 ?v6 rfl (by kernel_rfl) (fun _ _ _ h=>h) (by kernel_rfl) ?y6 ?_
 case y6=>(rintro W ⟨h1,h2,h3⟩;go_simp <;> rfl)
 refine wpAllC_one 7 rfl (by kernel_rfl) ⟨u0,u1,u2⟩ (fun K hK=>?_)
 go_simp
 refine hCm.mono ?_
 rintro e w2 ⟨v2,rfl,hf2,hm2⟩
 refine hK _ _ ?_
 clear hK K
 rw[hb] at hm2
 have M2:=M1.new hf2
 have hCd:=hR w2 v2 M2 hm2
 have hN2:=hf2.blk (((Fr.refl _ (fun _=>False)).still (Still.drew (w.alloc (.cells #[.int .i64 (p:Int),.int .u8 (c:Int)] 209)))).blk hN0 id) id
 have x0:=M2.R.c0
 have x1:=M2.R.c1
 have x2:=hN2.cell 1
 simp only[List.getElem?_cons_zero,List.getElem?_cons_succ] at x2
 rw[← hRES] at hCd
 refine wpAllC_one 8 rfl (by kernel_rfl) ⟨x0,x1,x2⟩ (fun K hK=>?_)
 go_simp
 refine hCd.mono ?_
 rintro e w3 ⟨v3,ev3,rfl,hf3,hm3⟩
 refine hK _ _ ?_
 clear hK K
 obtain⟨j3,h3⟩:∃ j,RdAt w3 br sv rv s j (!pl):=by
  cases RES with
  | none=>exact⟨_,hm3.2.2.choose_spec.1⟩
  | some q=>exact⟨_,hm3.2.2.1⟩
 have y0:=h3.c0
 have y1:=h3.c1
 have y2:=(hf3.blk hN2 (by omega)).cell 1
 simp only[List.getElem?_cons_zero,List.getElem?_cons_succ] at y2
 replace hm3:=hide hm3
 replace hf3:=hide hf3
 replace hf2:=hide hf2
 replace A:=hide A
 clear hCm hCd M0 M1 M2 hN0 hN2 hm2 hcalls u0 u1 u2 x0 x1 x2 h3
 refine wpAllC_take 9 ?v9 rfl (by kernel_rfl) (fun _ _ _ h=>h) (by kernel_rfl) ?y9 ?_
 case y9=>(rintro W ⟨h1,h2,h3⟩;go_simp <;> rfl)
 refine wpAllC_take 10 ?v10 rfl (by kernel_rfl) (fun _ _ _ h=>h) (by kernel_rfl) ?y10 ?_
 case y10=>(rintro W ⟨h1,h2,h3⟩;go_simp <;> rfl)
 refine wpAllC_take 11 ?v11 rfl (by kernel_rfl) (fun _ _ _ h=>h) (by kernel_rfl) ?y11 ?_
 case y11=>(rintro W ⟨h1,h2,h3⟩;go_simp <;> rfl)
 refine wpAllC_take 12 ?v12 rfl (by kernel_rfl) (fun _ _ _ h=>h) (by kernel_rfl) ?y12 ?_
 case y12=>(rintro W ⟨h1,h2,h3⟩;go_simp <;> rfl)
 refine wpAllC_done (by kernel_rfl) ⟨y0,y1,y2⟩ ?_ _
 go_wp2_with fail
 refine bodyPost_ret (v:=.tuple #[v3,ev3]) (by simp[results,Tryz.results83,go_sem]) rfl ?_
 rw[hPOST.out]
 exact NPost.pre (A.out.trans (((Fr.refl _ (fun _=>False)).still (Still.drew _)).trans hf2.out (fun _ _ f=>f)) (fun _ _ f=>f)) ⟨v3,ev3,rfl,hf3.out,hm3.out⟩
end
def goodEnv (ds:List PD):Prop:=∀ c b,envOf ds c=some b→plB b∧okB (envOf ds) b
theorem goodEnv.sm {ds:List PD}(h:goodEnv ds):smEnv (envOf ds):=fun c _ _ e=>(h c _ e).1.2.1
def brL (pl:Bool) (l:List PT):Prop:=pl=true∨l.length≤300
mutual
def brT (pl:Bool):PT→Prop
 | .leaf _ _=>True
 | .wrap _ _ t=>brT pl t
 | .alts _ l=>brL pl l∧brTs pl l
def brTs (pl:Bool):List PT→Prop
 | []=>True
 | t::r=>brT pl t∧brTs pl r
end
def brE (pl:Bool) (ds:List PD):Prop:=∀ c fs,envOf ds c=some (.recd fs)→∀ g∈fs,brT pl g.ty
mutual
theorem brT_true:∀ t:PT,brT true t
 | .leaf _ _=>by unfold brT;trivial
 | .wrap _ _ t=>by unfold brT;exact brT_true t
 | .alts _ l=>by unfold brT;exact⟨.inl rfl,brTs_true l⟩
theorem brTs_true:∀ l:List PT,brTs true l
 | []=>by unfold brTs;trivial
 | t::r=>by unfold brTs;exact⟨brT_true t,brTs_true r⟩
end
theorem brTs_at {pl:Bool}:∀ {l:List PT},brTs pl l→∀ t∈l,brT pl t
 | [],_,t,h=>by cases h
 | a::r,h,t,ht=>by
  unfold brTs at h
  rcases List.mem_cons.1 ht with rfl|ht
  ·exact h.1
  ·exact brTs_at h.2 t ht
def UniN (w0:World) (P:Nat→Prop) (ss:ByteArray) (ds:List PD) (sv rv:Value) (xs:List Value) (s:ByteArray) (nt:TypeId) (nx:Value) (pl:Bool) (br:Nat):Prop:=
 ∀ (f p:Nat) (l:List PT) (i:Nat),l≠[]→brL pl l→i≤s.size→(∀ t∈l,∀ j,(pl=true→j=i)→(pl=false→i<j)→j≤s.size→DatN w0 P ss ds sv rv xs s nt nx pl br f t j)→DatN w0 P ss ds sv rv xs s nt nx pl br (f+1) (.alts p l) i
theorem uni_plain {w0:World}{P:Nat→Prop}{ss:ByteArray}{ds:List PD}{sv rv:Value}{xs:List Value}{s:ByteArray}{nt:TypeId}{nx:Value}{br:Nat}(hI:ItoaOK w0):UniN w0 P ss ds sv rv xs s nt nx true br:=
 fun _ _ _ i hne _ hi hR=>dat_40 hne hI (fun t ht=>hR t ht i (fun _=>rfl) (fun h=>by cases h) hi)
theorem dat_all {w0:World}{P:Nat→Prop}{ss:ByteArray}{ds:List PD}{sv rv:Value}{xs:List Value}{s:ByteArray}{nt:TypeId}{nx:Value}{pl:Bool}{br:Nat}(hE:goodEnv ds) (hB:brE pl ds) (hI:ItoaOK w0) (hQ:QuoteOK w0) (hN:NumN w0 P ss ds sv rv xs s nt nx pl br) (hU:UniN w0 P ss ds sv rv xs s nt nx pl br) :
 ∀ (f:Nat) (t:PT) (i:Nat),okT (envOf ds) t→brT pl t→i≤s.size→2*(s.size-i)+(if t.isAlts=true then 1 else 0)<f→DatN w0 P ss ds sv rv xs s nt nx pl br f t i:=by
 intro f
 induction f with
 | zero=>intro t i _ _ _ h;omega
 | succ f ih=>
  intro t i ht hbt hi hm
  have next:∀ u,okT (envOf ds) u→brT pl u→∀ j,i<j→j≤s.size→DatN w0 P ss ds sv rv xs s nt nx pl br f u j:=fun u hu hb j h1 h2=>ih u j hu hb h2 (by split <;> omega)
  cases t with
  | leaf c p=>
   unfold okT at ht
   rcases ht with hb|⟨hn,pb,he⟩
   ·simp only[isBase,Bool.or_eq_true,beq_iff_eq] at hb
    rcases hb with(((rfl|rfl)|rfl)|rfl)|rfl
    ·exact dat_110
    ·exact dat_116
    ·exact dat_105 hN
    ·exact dat_108 hN
    ·exact dat_115
   ·obtain⟨g1,g2⟩:=hE c pb he
    refine datn_name hn he ?_
    cases pb with
    | recd fs=>exact datB_recd g1.2.1 g1.1 hE.sm g2 (fun g hg=>next g.ty (g2 g hg) (hB c fs he g hg))
    | enum l o=>exact datB_enum g1.2.1 g1.1
    | bytes n=>exact datB_bytes
  | wrap c p t=>
   unfold okT at ht
   unfold brT at hbt
   rcases ht.1 with rfl|rfl
   ·exact dat_91 hI (next t ht.2 hbt)
   ·exact dat_123 hQ (next t ht.2 hbt)
  | alts p l=>
   unfold okT at ht
   unfold brT at hbt
   have hall:∀ u∈l,okT (envOf ds) u∧u.isAlts=false:=by
    have:=ht.2
    clear ht hm hbt
    induction l with
    | nil=>intro u hu;simp at hu
    | cons x r ihr=>
     unfold okTs at this
     intro u hu
     rcases List.mem_cons.1 hu with rfl|hu
     ·exact⟨this.2.1,this.1⟩
     ·exact ihr this.2.2 u hu
   refine hU f p l i ht.1 hbt.1 hi (fun u hu j h1 h2 h3=>?_)
   refine ih u j (hall u hu).1 (brTs_at hbt.2 u hu) h3 ?_
   have hij:i≤j:=by
    cases pl with
    | true=>have:=h1 rfl;omega
    | false=>have:=h2 rfl;omega
   rw[(hall u hu).2]
   simp only[PT.isAlts,if_true] at hm
   simp only[Bool.false_eq_true,if_false]
   omega
open Go.RowKit
def WhPost (w:World) (S:Nat→Prop) (nt:TypeId) (nx:Value) (ok:Bool) (e:Ending) (w':World):Prop:=
 ∃ v ev,e=.returned (.tuple #[v,ev])∧Fr w w' S∧if ok=true then ev=.nilIface∧(∃ T x,v=.iface T x) else v=.nilIface∧ErrD w' w.heap.size nt nx ev
def WdPost (w:World) (S:Nat→Prop) (nt:TypeId) (nx:Value) (r:Option DT) (e:Ending) (w':World):Prop:=
 ∃ v ev,e=.returned (.tuple #[v,ev])∧Fr w w' S∧match r with|some d=>ev=.nilIface∧DatV w' (fun g=>w.heap.size≤g) d v|none=>v=.nilIface∧ErrD w' w.heap.size nt nx ev
set_option maxHeartbeats 4000000 in
set_option maxRecDepth 100000 in
theorem nwhole_any {w0 w:World}{P:Nat→Prop}{ss:ByteArray}{ds:List PD}{sv rv:Value}{xs:List Value}{s:ByteArray}{nt:TypeId}{nx:Value}{pl:Bool}{br:Nat}{t:PT}{v:Value}(M:NC w0 P ss ds sv rv xs s nt nx pl br 0 w) (hT:TyV w P t v) (hR:DatN w0 P ss ds sv rv xs s nt nx pl br (2*s.size+2) t 0) :
 Calls Tryz.prog 54 #[.pointer (some ⟨br,0,none⟩),v] w (WdPost w (· = br) nt nx (readT (envOf ds) pl t s)):=by
 obtain⟨POST,hPOST⟩:∃ Q,Hid (Q=WdPost w (· = br) nt nx (readT (envOf ds) pl t s)):=⟨_,rfl⟩
 rw[← hPOST.out]
 have hC:=hide (hR w v M hT)
 replace M:=hide M
 clear hT hR
 cases hp:rdT s (envOf ds) pl (2*s.size+2) t 0 with
 | none=>
  have hr:=hide (show readT (envOf ds) pl t s=none by unfold readT;rw[hp])
  replace hp:=hide hp
  go_enter Tryz.func54,Tryz.ntmps54
  go_wp2_with (go_at_call 83;refine hC.out.mono ?_;rintro e w1 ⟨v1,ev1,rfl,hf1,hm⟩;rw[hp.out] at hm;obtain⟨rfl,hErr,_⟩:=hm;obtain⟨eT,ex,rfl⟩:=hErr.iface;replace hf1:=hide hf1;replace hErr:=hide hErr)
  try go_ret
  rw[hPOST.out,hr.out]
  exact⟨_,_,rfl,hf1.out,rfl,hErr.out⟩
 | some q=>
  obtain⟨d,j⟩:=q
  have hj:=(rdT_goes s (envOf ds) pl _ t 0 d j hp).2
  by_cases hjs:j=s.size
  ·have hr:=hide (show readT (envOf ds) pl t s=some d by unfold readT;rw[hp];simp only;rw[if_pos hjs])
   have hjn:¬ ((j:Int)<(s.size:Int)):=by omega
   replace hp:=hide hp
   clear hjs hj
   go_enter Tryz.func54,Tryz.ntmps54
   go_wp2_with (go_at_call 83;refine hC.out.mono ?_;rintro e w1 ⟨v1,ev1,rfl,hf1,hm⟩;rw[hp.out] at hm;obtain⟨rfl,hDv,h1,_⟩:=hm;obtain⟨dT,dx,rfl⟩:=hDv.iface;replace hDv:=hide hDv;have c2:=h1.c2;have c3:=h1.c3;replace hf1:=hide hf1;clear h1)
   go_quiet (fail)
   go_wp2_with fail
   try go_ret
   rw[hPOST.out,hr.out]
   exact⟨_,_,rfl,hf1.out.still (Still.drewN _ _),rfl,hDv.out.fr ((Fr.refl w1 (fun _=>False)).still (Still.drewN _ _)) (fun _ _ f=>f)⟩
  ·have hr:=hide (show readT (envOf ds) pl t s=none by unfold readT;rw[hp];simp only;rw[if_neg hjs])
   have hjn:(j:Int)<(s.size:Int):=by omega
   replace hp:=hide hp
   clear hjs
   go_enter Tryz.func54,Tryz.ntmps54
   go_wp2_with (go_at_call 83;refine hC.out.mono ?_;rintro e w1 ⟨v1,ev1,rfl,hf1,hm⟩;rw[hp.out] at hm;obtain⟨rfl,hDv,h1,hj1⟩:=hm;obtain⟨dT,dx,rfl⟩:=hDv.iface;clear hDv;have c2:=h1.c2;have c3:=h1.c3;have e1:=(M.out.call h1 hf1 hj1).e;replace hf1:=hide hf1;clear h1)
   go_quiet (fail)
   go_wp2_with fail
   go_quiet (fail)
   go_wp2_with fail
   try go_ret
   rw[hPOST.out,hr.out]
   exact⟨_,_,rfl,hf1.out.still ((Still.drewN _ _).trans (Still.drewN _ _)),rfl,.base⟩
def NumAll (w0:World):Prop:=∀ P ss ds sv rv xs s nt nx pl br,NumN w0 P ss ds sv rv xs s nt nx pl br
set_option maxHeartbeats 4000000 in
set_option maxRecDepth 100000 in
theorem nDefault_any {w0 w:World}{P:Nat→Prop}{ss:ByteArray}{ds:List PD}{sv:Value}{rT:TypeId}{rx:Value}{xs:List Value}{s:ByteArray}{nt:TypeId}{nx:Value}{t:PT}{v:Value}(D:DRow w P ss ds sv xs) (hT:TyV w P t v) (hG:SameG w0 w) (hk:w0.heap.size≤w.heap.size) (hPw:∀ g,P g→g<w.heap.size) (hE:ErrV 3 w0 nt nx) (hs:s.size≤300) (hok:okT (envOf ds) t) (hen:goodEnv ds) (hI:ItoaOK w0) (hQ:QuoteOK w0) (hN:NumAll w0) :
 Calls Tryz.prog 82 #[.agg #[sv,.iface rT rx],v,.string s] w (WhPost w (fun _=>False) nt nx (readT (envOf ds) true t s).isSome):=by
 obtain⟨POST,hPOST⟩:∃ Q,Hid (Q=WhPost w (fun _=>False) nt nx (readT (envOf ds) true t s).isSome):=⟨_,rfl⟩
 rw[← hPOST.out]
 obtain⟨sa,sc,rfl⟩:=own_sl D.row
 have A:Fr w ((w.alloc (.cells #[.slice sa ds.length sc,.iface rT rx] 85)).alloc (.cells #[.slice sa ds.length sc,.iface rT rx,.string s,.int .i64 0,.bool false] 114)) (fun _=>False):=((Fr.refl w _).alloc _).alloc _
 have z1:(w.alloc (.cells #[.slice sa ds.length sc,.iface rT rx] 85)).heap.size=w.heap.size+1:=by simp
 have hR0:=Blk.new (w.alloc (.cells #[.slice sa ds.length sc,.iface rT rx] 85)) #[.slice sa ds.length sc,.iface rT rx,.string s,.int .i64 0,.bool false] 114
 rw[z1] at hR0
 have M0:NC w0 P ss ds (.slice sa ds.length sc) (.iface rT rx) xs s nt nx true (w.heap.size+1) 0 ((w.alloc (.cells #[.slice sa ds.length sc,.iface rT rx] 85)).alloc (.cells #[.slice sa ds.length sc,.iface rT rx,.string s,.int .i64 0,.bool false] 114)):=
  ⟨hR0,D.fr A (fun _ _ f=>f),hG.fr A hk (fun g f=>f.elim),hE,fun g hg=>by have:=hPw g hg;omega,by omega,by omega,Nat.zero_le _⟩
 have hC:=hide (nwhole_any M0 (hT.fr A (fun _ _ f=>f)) (dat_all hen (fun _ _ _ g _=>brT_true g.ty) hI hQ (hN _ _ _ _ _ _ _ _ _ _ _) (uni_plain hI) _ t 0 hok (brT_true t) (Nat.zero_le _) (by split <;> omega)))
 replace A:=hide A
 clear M0 hR0 z1 D hT hG
 go_enter Tryz.func82,Tryz.ntmps82
 go_wp2_with (go_at_call 54;refine hC.out.mono ?_;rintro e w1 ⟨v1,ev1,rfl,hf1,hm⟩;replace hf1:=hide hf1;replace hm:=hide hm)
 try go_ret
 rw[hPOST.out]
 have hsz:=A.out.size
 refine⟨v1,ev1,rfl,A.out.trans hf1.out (fun g hg e=>by omega),?_⟩
 have hm':=hm.out
 cases hq:readT (envOf ds) true t s with
 | none=>rw[hq] at hm';exact⟨hm'.1,hm'.2.less hsz⟩
 | some d=>rw[hq] at hm';exact⟨hm'.1,hm'.2.iface⟩
open Go.RowKit
section
variable {w:World} {P:Nat→Prop} {s:ByteArray} {g:Nat} {cs:List Value} (hb:Blk w g cs 153) (x:Value)
theorem own_put (hb:Blk w g cs 153) (x:Value){b e k n:Nat}{v:Value}{xs:List Value}(ho:w.ownsRow b e k v n xs) (hne:e≠153):(w.setCell ⟨g,2,none⟩ x).ownsRow b e k v n xs:=by
 refine ownsRow_fr ho (Fr.one w ⟨g,2,none⟩ x) (fun g' hg' e'=>?_)
 have e'':g'=g:=e'
 subst e''
 rcases ho.2 with⟨e0,_⟩|⟨g2,cap,cur,rfl,_,h2,_⟩
 ·rw[e0] at hg';simp[Value.ownBlock] at hg'
 ·simp only[Value.ownBlock,Option.some.injEq] at hg'
  subst hg'
  unfold Blk at hb
  rw[hb] at h2
  simp only[Option.some.injEq,Obj.cells.injEq] at h2
  exact hne h2.2.1.symm
theorem TyV.put (hb:Blk w g cs 153) (x:Value){t:PT}{v:Value}(h:TyV w P t v):TyV (w.setCell ⟨g,2,none⟩ x) P t v:=by
 induction h with
 | base c p h=>exact .base c p h
 | name c p h=>exact .name c p h
 | wrap c p h ih=>exact .wrap c p ih
 | alts p X ho hP h ih=>exact .alts p X (own_put hb x ho (by decide)) hP ih
theorem DfV.put (hb:Blk w g cs 153) (x:Value) (hx:IfV x){o:Option (Nat×Nat)}{d:Value}(h:DfV w P s o d):DfV (w.setCell ⟨g,2,none⟩ x) P s o d:=by
 match o with
 | none=>exact h
 | some (a,e)=>
  obtain⟨g',x',h1,h2,h3,h4⟩:=h
  by_cases hg:g'=g
  ·subst hg
   exact⟨g',x,h1,h2,hx,h4.set 2 x⟩
  ·exact⟨g',x',h1,h2,h3,h4.other (a:=⟨g,2,none⟩) x hg⟩
theorem FldsV.put (hb:Blk w g cs 153) (x:Value) (hx:IfV x){fs:List PF}{ys:List Value}(h:FldsV w P s fs ys):FldsV (w.setCell ⟨g,2,none⟩ x) P s fs ys:=fun i f e=>by
 obtain⟨a,b,c,d,h1,h2,h3,h4,h5⟩:=h i f e
 exact⟨a,b,c,d,h1,h2,h3,h4,h5.1,h5.2.1,h5.2.2.1.put hb x,h5.2.2.2.put hb x hx⟩
theorem FlRow.put (hb:Blk w g cs 153) (x:Value) (hx:IfV x){fs:List PF}{fv:Value}{ys:List Value}(h:FlRow w P s fs fv ys):FlRow (w.setCell ⟨g,2,none⟩ x) P s fs fv ys:=
 ⟨own_put hb x h.row (by decide),h.off,h.V.put hb x hx⟩
theorem UnkV.put (hb:Blk w g cs 153) (x:Value){o:Option (Nat×Nat)}{d:Value}(h:UnkV w P o d):UnkV (w.setCell ⟨g,2,none⟩ x) P o d:=by
 match o with
 | none=>exact h
 | some (a,e)=>
  obtain⟨g',h1,h2,h4⟩:=h
  refine⟨g',h1,h2,h4.other (a:=⟨g,2,none⟩) x (fun e'=>?_)⟩
  have e'':g'=g:=e'
  subst e''
  unfold Blk at hb h4
  rw[hb] at h4
  simp only[Option.some.injEq,Obj.cells.injEq] at h4
  exact absurd h4.2.1 (by decide)
theorem BodyV.put (hb:Blk w g cs 153) (x:Value) (hx:IfV x){b:PB}{v:Value}(h:BodyV w P s b v):BodyV (w.setCell ⟨g,2,none⟩ x) P s b v:=by
 cases h with
 | recd p ho hP h=>exact .recd p (own_put hb x ho (by decide)) hP (h.put hb x hx)
 | enum p ho hP h=>exact .enum p (own_put hb x ho (by decide)) hP (h.put hb x)
 | bytes p n=>exact .bytes p n
theorem DRow.put (hb:Blk w g cs 153) (x:Value) (hx:IfV x){ds:List PD}{sv:Value}{xs:List Value}(h:DRow w P s ds sv xs):DRow (w.setCell ⟨g,2,none⟩ x) P s ds sv xs:=
 ⟨own_put hb x h.row (by decide),h.off,fun i d e=>by
  obtain⟨c,h1,h2,h3,h4⟩:=h.V i d e
  exact⟨c,h1,h2,h3,h4.put hb x hx⟩,h.len⟩
end
theorem DRow.mono {w:World}{P Q:Nat→Prop}{s:ByteArray}{ds:List PD}{sv:Value}{xs:List Value}(h:DRow w P s ds sv xs) (hQ:∀ g,g<w.heap.size→P g→Q g):DRow w Q s ds sv xs:=
 ⟨h.row,fun g e=>hQ g (h.row.lt g e).2 (h.off g e),h.V.mono hQ,h.len⟩
theorem dfB_drop {s:ByteArray}{env:Nat→Option PB}{fs:List PF}{q:Nat}{f:PF}(h:fs[q]?=some f):(fs.drop q).flatMap (dfB s env)=dfB s env f++(fs.drop (q+1)).flatMap (dfB s env):=by
 have hl:=(List.getElem?_eq_some_iff.1 h).1
 rw[List.drop_eq_getElem_cons hl,List.flatMap_cons,(List.getElem?_eq_some_iff.1 h).2]
def RDPost (w:World) (P:Nat→Prop) (s:ByteArray) (ds:List PD) (sv:Value) (xs:List Value) (nt:TypeId) (nx:Value) (L:List Nat) (e:Ending) (w':World):Prop:=
 ∃ v,e=.returned v∧Fr w w' P∧match L with | []=>v=.nilIface∧DRow w' P s ds sv xs∧(∀ t x,TyV w P t x→TyV w' P t x)|y::_=>∃ ev,FaultAt w' w.heap.size v (y:Int) ev∧ErrD w' w.heap.size nt nx ev
structure RDM (w0 w:World) (P:Nat→Prop) (s:ByteArray) (ds:List PD) (sv rv:Value) (xs:List Value) (fv:Value) (ys:List Value) (W:World):Prop where
 fr:Fr w W P
 D:DRow W P s ds sv xs
 F:FlRow W (fun g=>P g∨w.heap.size+1≤g) s (fieldsOf ds) fv ys
 B:Blk W w.heap.size [sv,rv] 85
 G:SameG w0 W
 T:∀ t x,TyV w P t x→TyV W P t x
section
variable {w0 w W W':World} {P:Nat→Prop} {s:ByteArray} {ds:List PD} {sv rv:Value} {xs:List Value} {fv:Value} {ys:List Value}
theorem RDM.new (M:RDM w0 w P s ds sv rv xs fv ys W) (hk:w0.heap.size≤w.heap.size) (hf:Fr W W' (fun _=>False)):RDM w0 w P s ds sv rv xs fv ys W':=
 ⟨M.fr.trans hf (fun _ _ f=>f.elim),M.D.fr hf (fun _ _ f=>f),M.F.fr hf (fun _ _ f=>f),hf.blk M.B id,M.G.fr hf (Nat.le_trans hk M.fr.size) (fun _ f=>f.elim),fun t x h=>(M.T t x h).fr hf (fun _ _ f=>f)⟩
theorem RDM.put (M:RDM w0 w P s ds sv rv xs fv ys W) (hk:w0.heap.size≤w.heap.size) (hPK:∀ g,P g→w0.heap.size≤g){g:Nat}{cs:List Value}(hb:Blk W g cs 153) (hg:P g∨w.heap.size+1≤g) (x:Value) (hx:IfV x):RDM w0 w P s ds sv rv xs fv ys (W.setCell ⟨g,2,none⟩ x):=by
 have hgk:w0.heap.size≤g:=by
  rcases hg with h|h
  ·exact hPK g h
  ·omega
 refine⟨M.fr.setCell ⟨g,2,none⟩ x (fun h=>?_),M.D.put hb x hx,M.F.put hb x hx,M.B.other (a:=⟨g,2,none⟩) x (fun e=>?_),M.G.fr (Fr.one W ⟨g,2,none⟩ x) (Nat.le_trans hk M.fr.size) (fun g' e=>?_),fun t y h=>(M.T t y h).put hb x⟩
 ·rcases hg with h'|h'
  ·exact h'
  ·have:g<w.heap.size:=h
   omega
 ·have e':w.heap.size=g:=e
  have hB:=M.B
  rw[e'] at hB
  unfold Blk at hb hB
  rw[hb] at hB
  simp only[Option.some.injEq,Obj.cells.injEq] at hB
  exact absurd hB.2.1 (by decide)
 ·have e':g'=g:=e
  omega
end
set_option maxHeartbeats 16000000 in
set_option maxRecDepth 100000 in
theorem preadDefaults_any {w0 w:World}{P:Nat→Prop}{s:ByteArray}{ds:List PD}{sv:Value}{rT:TypeId}{rx:Value}{xs:List Value}{nt:TypeId}{nx:Value}(D:DRow w P s ds sv xs) (hG:SameG w0 w) (hk:w0.heap.size≤w.heap.size) (hPK:∀ g,P g→w0.heap.size≤g) (hPw:∀ g,P g→g<w.heap.size) (hE:ErrV 3 w0 nt nx) (hs:s.size≤300) (hlf:(fieldsOf ds).length≤300) (hok:∀ f∈fieldsOf ds,okT (envOf ds) f.ty) (hen:goodEnv ds) (hI:ItoaOK w0) (hQ:QuoteOK w0) (hN:NumAll w0) :
 Calls Tryz.prog 53 #[.agg #[sv,.iface rT rx]] w (RDPost w P s ds sv xs nt nx (dfltF s ds)):=by
 obtain⟨POST,hPOST⟩:∃ Q,Hid (Q=RDPost w P s ds sv xs nt nx (dfltF s ds)):=⟨_,rfl⟩
 rw[← hPOST.out]
 obtain⟨sa,sc,rfl⟩:=own_sl D.row
 have hf0:Fr w (w.alloc (.cells #[.slice sa ds.length sc,.iface rT rx] 85)) (fun _=>False):=(Fr.refl w _).alloc _
 have hz0:(w.alloc (.cells #[.slice sa ds.length sc,.iface rT rx] 85)).heap.size=w.heap.size+1:=by simp
 have hC0:=pFields_any (rv:=.iface rT rx) (D.fr hf0 (fun _ _ f=>f)) hlf (fun g hg=>Nat.lt_of_lt_of_le (hPw g hg) hf0.size)
 rw[hz0] at hC0
 have hM0:Hid (∀ w1 fv ys,Fr (w.alloc (.cells #[.slice sa ds.length sc,.iface rT rx] 85)) w1 (fun _=>False)→FlRow w1 (fun g=>P g∨w.heap.size+1≤g) s (fieldsOf ds) fv ys→RDM w0 w P s ds (.slice sa ds.length sc) (.iface rT rx) xs fv ys w1):=hide (fun w1 fv ys hf hF=>⟨(hf0.mono (fun _ _ f=>f.elim)).trans hf (fun _ _ f=>f.elim),(D.fr hf0 (fun _ _ f=>f)).fr hf (fun _ _ f=>f),hF,hf.blk (Blk.new w #[.slice sa ds.length sc,.iface rT rx] 85) id,(hG.fr hf0 hk (fun _ f=>f.elim)).fr hf (by omega) (fun _ f=>f.elim),fun t x h=>(h.fr hf0 (fun _ _ f=>f)).fr hf (fun _ _ f=>f)⟩)
 replace hC0:=hide hC0
 clear D hf0 hz0 hG
 go_enter Tryz.func53,Tryz.ntmps53
 go_wp2_with (go_at_call 80;refine hC0.out.mono ?_;rintro e w1 ⟨fv,ys,rfl,hf1,hF⟩;have M1:=hM0.out w1 fv ys hf1 hF;obtain⟨fa,fc,rfl⟩:=own_sl hF.row;replace M1:=hide M1;clear hf1 hF)
 have start:Hid (∃ q:Nat,Value.int .i64 0=.int .i64 (q:Int)∧q≤(fieldsOf ds).length∧(fieldsOf ds).length+1-q≤(fieldsOf ds).length+1∧RDM w0 w P s ds (.slice sa ds.length sc) (.iface rT rx) xs (.slice fa (fieldsOf ds).length fc) ys w1∧dfltF s ds=((fieldsOf ds).drop q).flatMap (dfB s (envOf ds))):=hide ⟨0,rfl,Nat.zero_le _,by omega,M1.out,rfl⟩
 clear M1 hC0 hM0
 go_loopg [10] ((fieldsOf ds).length+1) (fun m v W=>∃ q:Nat,v=.int .i64 (q:Int)∧q≤(fieldsOf ds).length∧(fieldsOf ds).length+1-q≤m∧RDM w0 w P s ds (.slice sa ds.length sc) (.iface rT rx) xs (.slice fa (fieldsOf ds).length fc) ys W∧dfltF s ds=((fieldsOf ds).drop q).flatMap (dfB s (envOf ds)))
 case atStart=>exact start.out
 case round=>
  clear start
  obtain⟨q,rfl,hq,hm,M,he⟩:=hrel
  by_cases hlt:q<(fieldsOf ds).length
  ·have hlt':(q:Int)<((fieldsOf ds).length:Int):=by omega
   have hd:(fieldsOf ds)[q]?=some (fieldsOf ds)[q]:=List.getElem?_eq_getElem hlt
   have hmem:(fieldsOf ds)[q]∈fieldsOf ds:=List.getElem_mem hlt
   generalize (fieldsOf ds)[q]=f at hd hmem
   obtain⟨g,cap,hgc⟩:=own_form M.F.row (by omega)
   cases hgc
   obtain⟨T,x,d,c0,c1,c2,c3,hT,hDf⟩:=M.F.cells hd
   rw[dfB_drop hd] at he
   obtain⟨l,hl0⟩:∃ l,f.letter=l:=⟨_,rfl⟩
   obtain⟨pl,hpl⟩:∃ p,f.place=p:=⟨_,rfl⟩
   rw[hl0] at c1
   rw[hpl] at c0
   have hoky:=hok f hmem
   have A1:=(Fr.refl wr (fun _=>False)).alloc (.cells #[.int .i64 (pl:Int),.int .u8 (l:Int),.iface T x,.pointer d] 149)
   have N1:=Blk.new wr #[.int .i64 (pl:Int),.int .u8 (l:Int),.iface T x,.pointer d] 149
   have M1:=M.new hk A1
   clear hl0 hpl
   cases hdf:f.dflt with
   | none=>
    rw[hdf] at hDf
    have hdn:d=none:=by
     have:Value.pointer d=.pointer none:=hDf
     cases this;rfl
    subst hdn
    have he':=hide (show dfltF s ds=((fieldsOf ds).drop (q+1)).flatMap (dfB s (envOf ds)) by rw[he];unfold dfB;rw[hdf];rfl)
    replace M1:=hide M1
    clear hDf hT A1 N1 he M
    go_wp2_with fail
    go_roundg ((fieldsOf ds).length+1-(q+1))
    case measure=>omega
    case rel=>exact⟨q+1,rfl,hlt,Nat.le_refl _,M1.out,he'.out⟩
   | some ae=>
    obtain⟨a,en⟩:=ae
    rw[hdf] at hDf
    obtain⟨gd,xd,hgP,hdg,hIf,hBd⟩:=hDf
    cases hdg
    have hdfb:dfB s (envOf ds) f=if (readT (envOf ds) true f.ty (s.extract a en)).isSome=true then [] else [a]:=by unfold dfB;rw[hdf]
    rw[hdfb] at he
    have hBd1:=A1.blk hBd id
    have hsw:=A1.size
    have A1d:=A1.drew
    have M1d:=M.new hk A1d
    have hC:=nDefault_any (s:=s.extract a en) (P:=fun g=>(P g∨w.heap.size+1≤g)∧g<wr.heap.size) (rT:=rT) (rx:=rx) (M1d.D.mono (fun g _ h=>⟨.inl h,by have:=hPw g h;have:=M.fr.size;omega⟩)) ((hT.mono (Q:=fun g=>(P g∨w.heap.size+1≤g)∧g<wr.heap.size) (fun g h1 h2=>⟨h2,h1⟩)).fr A1d (fun _ _ f=>f)) M1d.G (Nat.le_trans hk M1d.fr.size) (fun g hg=>by have:=A1d.size;omega) hE (by rw[ByteArray.size_extract];omega) hoky hen hI hQ hN
    have s0:=M1.B.cell 0
    have s1:=M1.B.cell 1
    have n2:=N1.cell 2
    have n3:=N1.cell 3
    have d1:=hBd1.cell 1
    simp only[List.getElem?_cons_zero,List.getElem?_cons_succ] at s0 s1 n2 n3 d1
    have hcalls:=hide (And.intro M1d (And.intro (A1d.blk hBd id) (And.intro N1.drew hC)))
    clear M1 hBd1 N1 hC hT A1 hdfb hBd M M1d A1d
    go_wp2_with fail
    obtain⟨M1,hBd1,N1,hC⟩:=hcalls.out
    have hfr:=hide (show w.heap.size≤(wr.alloc (.cells #[.int .i64 (pl:Int),.int .u8 (l:Int),.iface T x,.pointer (some ⟨gd,0,none⟩)] 149)).drew.heap.size from M1.fr.size)
    refine wp_regionAll (fun W=>W.cell? ⟨w.heap.size,0,none⟩=some (.slice sa ds.length sc)∧W.cell? ⟨w.heap.size,1,none⟩=some (.iface rT rx)∧W.cell? ⟨wr.heap.size,2,none⟩=some (.iface T x)∧W.cell? ⟨wr.heap.size,3,none⟩=some (.pointer (some ⟨gd,0,none⟩))∧W.cell? ⟨gd,1,none⟩=some (.string (s.extract a en))) (by kernel_rfl) ?_
    refine wpAllC_take 0 ?v0 rfl (by kernel_rfl) (fun _ _ _ h=>h) (by kernel_rfl) ?y0 ?_
    case y0=>(rintro W ⟨h1,h2,h3,h4,h5⟩;go_simp <;> rfl)
    refine wpAllC_take 1 ?v1 rfl (by kernel_rfl) (fun _ _ _ h=>h) (by kernel_rfl) ?y1 ?_
    case y1=>(rintro W ⟨h1,h2,h3,h4,h5⟩;go_simp <;> rfl)
    refine wpAllC_take 2 ?v2 rfl (by kernel_rfl) (fun _ _ _ h=>h) (by kernel_rfl) ?y2 ?_
    case y2=>(rintro W ⟨h1,h2,h3,h4,h5⟩;go_simp <;> rfl)
    refine wpAllC_take 3 ?v3 rfl (by kernel_rfl) (fun _ _ _ h=>h) (by kernel_rfl) ?y3 ?_
    case y3=>(rintro W ⟨h1,h2,h3,h4,h5⟩;go_simp <;> rfl)
    refine wpAllC_take 4 ?v4 rfl (by kernel_rfl) (fun _ _ _ h=>h) (by kernel_rfl) ?y4 ?_
    case y4=>(rintro W ⟨h1,h2,h3,h4,h5⟩;go_simp <;> rfl)
    refine wpAllC_take 5 ?v5 rfl (by kernel_rfl) (fun _ _ _ h=>h) (by kernel_rfl) ?y5 ?_
    case y5=>(rintro W ⟨h1,h2,h3,h4,h5⟩;go_simp <;> rfl)
    refine wpAllC_take 6 ?v6 rfl (by kernel_rfl) (fun _ _ _ h=>h) (by kernel_rfl) ?y6 ?_
    case y6=>(rintro W ⟨h1,h2,h3,h4,h5⟩;go_simp <;> rfl)
    refine wpAllC_take 7 ?v7 rfl (by kernel_rfl) (fun _ _ _ h=>h) (by kernel_rfl) ?y7 ?_
    case y7=>(rintro W ⟨h1,h2,h3,h4,h5⟩;go_simp <;> rfl)
    refine wpAllC_one 8 rfl (by kernel_rfl) ⟨s0,s1,n2,n3,d1⟩ (fun K hK=>?_)
    go_simp
    refine hC.mono ?_
    rintro e w2 ⟨v2,ev2,rfl,hf2,hm2⟩
    refine hK _ _ ?_
    clear hK K
    have M2:=M1.new hk hf2
    have N2:=hf2.blk N1 id
    have B2:=hf2.blk hBd1 id
    have x0:=M2.B.cell 0
    have x1:=M2.B.cell 1
    have m2:=N2.cell 2
    have m3:=N2.cell 3
    have b0:=B2.cell 0
    have b1:=B2.cell 1
    have b2:=B2.cell 2
    have bg:=B2.thaw 2
    simp only[List.getElem?_cons_zero,List.getElem?_cons_succ] at x0 x1 m2 m3 b0 b1 b2
    clear hC M1 hBd1 N1 hcalls s0 s1 n2 n3 d1 c0 c1 c2 c3
    refine wpAllC_take 9 ?v9 rfl (by kernel_rfl) (fun _ _ _ h=>h) (by kernel_rfl) ?y9 ?_
    case y9=>(rintro W ⟨h1,h2,h3,h4,h5⟩;go_simp <;> rfl)
    refine wpAllC_take 10 ?v10 rfl (by kernel_rfl) (fun _ _ _ h=>h) (by kernel_rfl) ?y10 ?_
    case y10=>(rintro W ⟨h1,h2,h3,h4,h5⟩;go_simp <;> rfl)
    refine wpAllC_take 11 ?v11 rfl (by kernel_rfl) (fun _ _ _ h=>h) (by kernel_rfl) ?y11 ?_
    case y11=>(rintro W ⟨h1,h2,h3,h4,h5⟩;go_simp <;> rfl)
    refine wpAllC_take 12 ?v12 rfl (by kernel_rfl) (fun _ _ _ h=>h) (by kernel_rfl) ?y12 ?_
    case y12=>(rintro W ⟨h1,h2,h3,h4,h5⟩;go_simp <;> rfl)
    refine wpAllC_take 13 ?v13 rfl (by kernel_rfl) (fun _ _ _ h=>h) (by kernel_rfl) ?y13 ?_
    case y13=>(rintro W ⟨h1,h2,h3,h4,h5⟩;go_simp <;> rfl)
    refine wpAllC_done (by kernel_rfl) ⟨x0,x1,m2,m3,b1⟩ ?_ _
    replace M2:=hide M2
    replace B2:=hide B2
    replace hf2:=hide hf2
    clear x0 x1 m2 b1 N2
    by_cases hrd:(readT (envOf ds) true f.ty (s.extract a en)).isSome=true
    ·rw[if_pos hrd] at hm2 he
     rw[List.nil_append] at he
     obtain⟨rfl,dT,dx,rfl⟩:=hm2
     replace he:=hide he
     clear b0 hrd
     go_wp2_with fail
     go_roundg ((fieldsOf ds).length+1-(q+1))
     case measure=>omega
     case rel=>exact⟨q+1,rfl,hlt,Nat.le_refl _,M2.out.put hk hPK B2.out hgP (.iface dT dx) (.inr ⟨_,_,rfl⟩),he.out⟩
    ·rw[if_neg hrd] at hm2 he
     obtain⟨rfl,hErr⟩:=hm2
     obtain⟨eT,ex,rfl⟩:=hErr.iface
     replace he:=hide he
     replace hErr:=hide hErr
     clear b2 bg hrd
     go_wp2_with (go_at_call 77;refine(pplace_any (a:Int) _).mono ?_;rintro e w3 ⟨rfl,hw3⟩;rw[hw3];clear hw3)
     try go_ret
     rw[hPOST.out]
     have hs2:=M2.out.fr.size
     have A3:Fr w2 (w2.alloc (.cells #[.int .i64 (a:Int),.iface eT ex] 141)) (fun _=>False):=(Fr.refl w2 _).alloc _
     refine⟨_,rfl,M2.out.fr.trans A3 (fun _ _ f=>f.elim),?_⟩
     rw[he.out]
     exact⟨.iface eT ex,⟨w2.heap.size,hs2,rfl,Blk.new w2 _ _⟩,(hErr.out.fr A3 (fun _ _ f=>f)).less (by have:=hfr.out;omega)⟩
  ·have hlt':¬ ((q:Int)<((fieldsOf ds).length:Int)):=by omega
   rw[List.drop_eq_nil_of_le (by omega),List.flatMap_nil] at he
   replace he:=hide he
   replace M:=hide M
   go_wp2_with fail
   try go_ret
   rw[hPOST.out]
   refine⟨.nilIface,rfl,M.out.fr,?_⟩
   rw[he.out]
   exact⟨rfl,M.out.D,M.out.T⟩
end Go.Proofs.YtiifagiebikmdaaGreatDoor
