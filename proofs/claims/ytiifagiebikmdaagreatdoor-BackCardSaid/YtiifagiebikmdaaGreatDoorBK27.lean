import Derived.Test.YtiifagiebikmdaaGreatDoorBK26
namespace Go.Proofs.YtiifagiebikmdaaGreatDoor
open Go.RowKit
theorem less_total:∀ (a b:List UInt8),(Op.bytesLess a b||a==b) = !Op.bytesLess b a:=by
 intro a
 induction a with
 | nil=>intro b;cases b <;> rfl
 | cons x xs ih=>
  intro b
  cases b with
  | nil=>rfl
  | cons y ys=>
   simp only[Op.bytesLess,List.cons_beq_cons]
   have h:=ih ys
   by_cases h1:x<y
   ·have h2:¬ y<x:=by simp only[UInt8.lt_iff_toNat_lt] at h1⊢;omega
    have h3:¬ y=x:=fun e=>by subst e;simp only[UInt8.lt_iff_toNat_lt] at h1;omega
    simp[h1,h2,h3]
   ·by_cases h2:x=y
    ·subst h2
     simp[h1,h]
    ·have h3:y<x:=by
      have:x.toNat≠y.toNat:=fun e=>h2 (UInt8.toNat_inj.1 e)
      simp only[UInt8.lt_iff_toNat_lt] at h1⊢;omega
     simp[h1,h2,h3]
def stepM (R:Nat→Option (DT×Nat)) (s:ByteArray) (es:List (ByteArray×DT)) (j:Nat):Option (List (ByteArray×DT)×Nat):=
 match rdKey s true (lastE es) j with
 | none=>none
 | some (k,j1)=>(R j1).map (fun q=>(es++[(k,q.1)],q.2))
theorem items_map (R:Nat→Option (DT×Nat)) (s:ByteArray) (fin:Nat):∀ n es j,itemsP (stepM R s) s fin n es j=(rdItems R s fin true n (lastE es) j).map (fun q=>(es++q.1,q.2)):=by
 intro n
 induction n with
 | zero=>intro es j;rfl
 | succ n ih=>
  intro es j
  rw[itemsP,rdItems]
  simp only[stepM]
  cases rdKey s true (lastE es) j with
  | none=>rfl
  | some q=>
   obtain⟨key,j1⟩:=q
   simp only
   cases R j1 with
   | none=>rfl
   | some q=>
    obtain⟨d,j'⟩:=q
    simp only[Option.map_some]
    split
    ·rfl
    ·split
     ·rw[ih (es++[(key,d)]) (j'+1),lastE_snoc]
      cases rdItems R s fin true n (some key) (j'+1) with
      | none=>rfl
      | some q=>simp
     ·rfl
theorem map_wrap (R:Nat→Option (DT×Nat)) (s:ByteArray) (i:Nat):rdWrap R s 123 i=(listP (stepM R s) s 123 125 [] i).map (fun q=>(.mk 123 0 noB (q.1.map Prod.fst) (q.1.map Prod.snd),q.2)):=by
 unfold listP rdWrap rdList
 by_cases h:bt s i=123
 ·rw[if_pos h,if_pos h,show closing 123=125 from rfl,show((123:Nat)==123)=true from rfl]
  by_cases h2:bt s (i+1)=125
  ·rw[if_pos h2,if_pos h2]
   rfl
  ·rw[if_neg h2,if_neg h2,items_map R s 125 _ [] (i+1),show lastE []=none from rfl]
   cases rdItems R s 125 true (s.size+2) none (i+1) with
   | none=>rfl
   | some q=>simp
 ·rw[if_neg h,if_neg h]
  rfl
structure MI (w0 w:World) (P:Nat→Prop) (ss:ByteArray) (ds:List PD) (sv rv:Value) (xs:List Value) (s:ByteArray) (nt:TypeId) (nx:Value) (pl:Bool) (br i:Nat) (t:PT) (p:Int) (v:Value) (es:List (ByteArray×DT)) (j:Nat) (W:World):Prop where
 M:NC w0 P ss ds sv rv xs s nt nx pl br j W
 fr:Fr w W (· = br)
 lt:br<w.heap.size
 hB:w.heap.size+3≤W.heap.size
 b2:Blk W w.heap.size [.pointer (some ⟨br,0,none⟩)] 154
 b3:Blk W (w.heap.size+1) [.int .i64 p,v] 206
 ty:TyV W P t v
 c:i+es.length<j
 row:∃ lv ys,Blk W (w.heap.size+2) [lv] 158∧W.ownsRow (w.heap.size+3) 160 2 lv es.length ys∧LastIs (lastE es) es.length ys∧RowM W (fun g=>w.heap.size+3≤g∧lv.ownBlock≠some g) es ys
section
variable {w0 w:World} {P:Nat→Prop} {ss:ByteArray} {ds:List PD} {sv rv:Value} {xs:List Value} {s:ByteArray} {nt:TypeId} {nx:Value} {pl:Bool} {br i:Nat} {t:PT} {p:Int} {v:Value} {es:List (ByteArray×DT)} {j j':Nat} {W W':World}
theorem MI.call (L:MI w0 w P ss ds sv rv xs s nt nx pl br i t p v es j W) (h:RdAt W' br sv rv s j' (!pl)) (hf:Fr W W' (· = br)) (hj:j'≤s.size) (hc:i+es.length<j'):MI w0 w P ss ds sv rv xs s nt nx pl br i t p v es j' W':=by
 have h1:=L.lt
 obtain⟨lv,ys,r1,r2,r3,r4⟩:=L.row
 exact⟨L.M.call h hf hj,L.fr.trans hf (fun _ _ e=>e),L.lt,Nat.le_trans L.hB hf.size,hf.blk L.b2 (by omega),hf.blk L.b3 (by omega),L.ty.fr hf (fun g hg e=>L.M.brP (e▸hg)),hc,lv,ys,hf.blk r1 (by omega),ownsRow_fr r2 hf (fun g hg e=>by have:=r2.lt g hg;omega),r3,r4.fr hf (fun g hg e=>by omega)⟩
end
theorem u_DMap:Tryz.prog.underlying 158=some (.slice 160):=by kernel_rfl
theorem i_Entry:(Tryz.prog.info? 160).map (fun i=>(i.zero,i.size,i.bytes))=some (some (.agg #[.string ⟨#[]⟩,.nilIface]),2,32):=by kernel_rfl
def M1Post (w0 w:World) (P:Nat→Prop) (ss:ByteArray) (ds:List PD) (sv rv:Value) (xs:List Value) (s:ByteArray) (nt:TypeId) (nx:Value) (pl:Bool) (br i:Nat) (t:PT) (p:Int) (v:Value) (R:Nat→Option (DT×Nat)) (es:List (ByteArray×DT)) (j:Nat) (e:Ending) (W':World):Prop:=
 ∃ v1,e=.returned v1∧match stepM R s es j with|some (es',j')=>v1=.nilIface∧j<j'∧MI w0 w P ss ds sv rv xs s nt nx pl br i t p v es' j' W'|none=>(∃ T x,v1=.iface T x)∧BadL w sv rv s nt nx pl br v1 W'
set_option maxHeartbeats 16000000 in
set_option maxRecDepth 100000 in
theorem nmap1_any {w0 w:World}{P:Nat→Prop}{ss:ByteArray}{ds:List PD}{sv rv:Value}{xs:List Value}{s:ByteArray}{nt:TypeId}{nx:Value}{pl:Bool}{br i:Nat}{t:PT}{p:Int}{vT:TypeId}{vx:Value}{es:List (ByteArray×DT)}{j f:Nat}{W:World}(L:MI w0 w P ss ds sv rv xs s nt nx pl br i t p (.iface vT vx) es j W) (hI:QuoteOK w0) (hR:∀ j',j<j'→j'≤s.size→DatN w0 P ss ds sv rv xs s nt nx pl br f t j') (hgo:∀ j d j',rdT s (envOf ds) pl f t j=some (d,j')→j<j') :
 Calls Tryz.prog 146 #[.pointer (some ⟨w.heap.size,0,none⟩),.pointer (some ⟨w.heap.size+2,0,none⟩),.pointer (some ⟨w.heap.size+1,0,none⟩)] W (M1Post w0 w P ss ds sv rv xs s nt nx pl br i t p (.iface vT vx) (rdT s (envOf ds) pl f t) es j):=by
 obtain⟨POST,hPOST⟩:∃ Q,Hid (Q=M1Post w0 w P ss ds sv rv xs s nt nx pl br i t p (.iface vT vx) (rdT s (envOf ds) pl f t) es j):=⟨_,rfl⟩
 rw[← hPOST.out]
 have c20:=L.b2.cell 0
 simp only[List.getElem?_cons_zero] at c20
 have hjs:=L.M.il
 have hs3:=L.M.hs
 have hs4:s.size≤4000:=by omega
 obtain⟨n,hnn⟩:∃ n,es.length=n:=⟨_,rfl⟩
 obtain⟨last,hla⟩:∃ o,lastE es=o:=⟨_,rfl⟩
 have hcn:i+n<j:=by rw[← hnn];exact L.c
 have hlt:=L.lt
 have hBW:=L.hB
 have hle:=letEnd_le hjs
 obtain⟨e1,he1⟩:∃ e1,letEnd s j=e1:=⟨_,rfl⟩
 rw[he1] at hle
 obtain⟨key,hkey⟩:∃ k,s.extract j e1=k:=⟨_,rfl⟩
 have hks:key.size≤4000:=by rw[← hkey,ByteArray.size_extract];omega
 have hrun:=hide (show Calls Tryz.prog 147 #[.pointer (some ⟨br,0,none⟩),.func (.func 148) #[] #[]] W fun e w'=>e=.returned (.string key)∧Fr W w' (· = br)∧RdAt w' br sv rv s e1 (!pl) by
  have h:=nrun_letters L.M.R hs4 hjs
  rw[show runEnd 97 122 s j=e1 from he1,hkey] at h
  exact h)
 have hrk:Hid (rdKey s true (lastE es) j=if bt s e1=58∧rises last key=true then some (key,e1+1) else none):=hide (by unfold rdKey;rw[if_pos rfl,he1,hkey,hla])
 have hL1:Hid (∀ w1,Fr W w1 (· = br)→RdAt w1 br sv rv s e1 (!pl)→MI w0 w P ss ds sv rv xs s nt nx pl br i t p (.iface vT vx) es e1 w1):=hide (fun w1 hf h=>L.call h hf hle.2 (by omega))
 have hbad:Hid (stepM (rdT s (envOf ds) pl f t) s es j=none→∀ w1 j1,Fr W w1 (· = br)→RdAt w1 br sv rv s j1 (!pl)→j1≤s.size→POST (.returned (.iface nt nx)) w1):=hide (fun hst w1 j1 hf h hj=>by
  rw[hPOST.out]
  refine⟨_,rfl,?_⟩
  rw[hst]
  exact⟨⟨_,_,rfl⟩,L.fr.trans hf (fun _ _ e=>e),.base,j1,h,hj⟩)
 replace L:=hide L
 replace hnn:=hide hnn
 replace hla:=hide hla
 clear he1 hkey
 by_cases hri:rises last key=true
 case neg=>
  have hst:=hide (show stepM (rdT s (envOf ds) pl f t) s es j=none by unfold stepM;rw[hrk.out,if_neg (fun h=>hri h.2)])
  cases last with
  | none=>exact absurd rfl hri
  | some lk=>
   have hless:(Op.bytesLess key.toList lk.toList||key.toList==lk.toList)=true:=by
    rw[less_total]
    cases hb:Op.bytesLess lk.toList key.toList with
    | false=>rfl
    | true=>exact absurd hb hri
   obtain⟨lv,ys,r1,r2,hq,_⟩:=L.out.row
   rw[hla.out,hnn.out] at hq
   obtain⟨m,hm,hym⟩:=hq
   rw[hnn.out] at r2
   have hm':n=m+1:=hm
   subst hm'
   obtain⟨la,lc,rfl⟩:=own_sl r2
   obtain⟨g,cap,hgc⟩:=own_form r2 (by simp)
   cases hgc
   have hwp:IntKind.i64.wrap (((m+1:Nat):Int)-1)=(m:Int):=by rw[IntKind.wrap_i64];omega
   have hmp:(0:Int)<((m+1:Nat):Int):=by omega
   have hfac:Hid (∀ w1,Fr W w1 (· = br)→w1.cell? ⟨w.heap.size+2,0,none⟩=some (.slice (some ⟨g,0,none⟩) (m+1) lc)∧w1.cell? ⟨g,m*2,none⟩=some (.string lk)):=hide (fun w1 hf=>⟨by rw[(hf.blk r1 (by omega)).cell 0];rfl,own_cell (ownsRow_fr r2 hf (fun g' hg e=>by have:=r2.lt g' hg;omega)) rfl hym⟩)
   clear r1 r2 hym hm hri hR hgo
   go_enter Tryz.func146,Tryz.ntmps146
   go_wp2_with (go_at_call 147;refine hrun.out.mono ?_;rintro e w1 ⟨rfl,hf1,h1⟩;obtain⟨k0,k1⟩:=hfac.out w1 hf1;have e0:=(hL1.out w1 hf1 h1).M.e;replace hf1:=hide hf1;replace h1:=hide h1)
   try go_ret
   exact hbad.out hst.out w1 e1 hf1.out h1.out hle.2
 case pos=>
  cases last with
  | none=>
   obtain⟨lv,ys,r1,r2,hm,_⟩:=L.out.row
   rw[hla.out,hnn.out] at hm
   rw[hnn.out] at r2
   have hm':n=0:=hm
   subst hm'
   obtain⟨la,lc,rfl⟩:=own_sl r2
   have hfac:Hid (∀ w1,Fr W w1 (· = br)→w1.cell? ⟨w.heap.size+2,0,none⟩=some (.slice la 0 lc)):=hide (fun w1 hf=>by rw[(hf.blk r1 (by omega)).cell 0];rfl)
   clear r1 r2 hm
   by_cases h58:bt s e1=58
   case neg=>
    have hst:=hide (show stepM (rdT s (envOf ds) pl f t) s es j=none by unfold stepM;rw[hrk.out,if_neg (fun h=>h58 h.1)])
    replace h58:=hide h58
    clear hR hgo hri
    go_enter Tryz.func146,Tryz.ntmps146
    go_wp2_with (first
     |(go_at_call 147;refine hrun.out.mono ?_;rintro e w1 ⟨rfl,hf1,h1⟩;have k0:=hfac.out w1 hf1;have e0:=(hL1.out w1 hf1 h1).M.e;have b20:=(hL1.out w1 hf1 h1).b2.cell 0;simp only[List.getElem?_cons_zero] at b20;have L1:=hide (hL1.out w1 hf1 h1);replace hf1:=hide hf1;replace h1:=hide h1)
     |(go_at_call 114;refine(ntake_no 58 h1.out hs4 hle.2 rfl (by decide) h58.out).mono ?_;rintro e w2 ⟨rfl,hf2,h2⟩;have e2:=(L1.out.call h2 hf2 hle.2 L1.out.c).M.e;replace hf2:=hide hf2;replace h2:=hide h2))
    try go_ret
    exact hbad.out hst.out w2 e1 (hf1.out.trans hf2.out (fun _ _ e=>e)) h2.out hle.2
   case pos=>
    have hlt2:e1+1≤s.size:=bt_pos (s:=s) (i:=e1) (by omega)
    have hsm:stepM (rdT s (envOf ds) pl f t) s es j=(rdT s (envOf ds) pl f t (e1+1)).map (fun q=>(es++[(key,q.1)],q.2)):=by
     unfold stepM
     rw[hrk.out,if_pos ⟨h58,hri⟩]
    replace h58:=hide h58
    cases hp:rdT s (envOf ds) pl f t (e1+1) with
    | none=>
     have hst:=hide (show stepM (rdT s (envOf ds) pl f t) s es j=none by rw[hsm,hp];rfl)
     replace hp:=hide hp
     clear hsm hgo hri
     go_enter Tryz.func146,Tryz.ntmps146
     go_wp2_with (first
      |(go_at_call 147;refine hrun.out.mono ?_;rintro e w1 ⟨rfl,hf1,h1⟩;have k0:=hfac.out w1 hf1;have e0:=(hL1.out w1 hf1 h1).M.e;have b20:=(hL1.out w1 hf1 h1).b2.cell 0;simp only[List.getElem?_cons_zero] at b20;have L1:=hide (hL1.out w1 hf1 h1);replace hf1:=hide hf1;replace h1:=hide h1)
      |(go_at_call 114;refine(ntake_yes 58 h1.out hs4 hle.2 rfl (by decide) h58.out).mono ?_;rintro e w2 ⟨rfl,hf2,h2⟩;have L2:=L1.out.call h2 hf2 hlt2 (by have:=L1.out.c;omega);have hC:=hR (e1+1) (by omega) hlt2 w2 _ L2.M L2.ty;have d20:=L2.b2.cell 0;have d31:=L2.b3.cell 1;simp only[List.getElem?_cons_zero,List.getElem?_cons_succ] at d20 d31;replace hC:=hide hC;replace L2:=hide L2;have F2:=hide (hf1.out.trans hf2 (fun _ _ e=>e));clear hf2 h2)
      |(go_at_call 83;refine hC.out.mono ?_;rintro e w3 ⟨v3,ev3,rfl,hf3,hm3⟩;rw[hp.out] at hm3;obtain⟨rfl,hErr,j3,h3,hj3⟩:=hm3;obtain⟨eT,ex,rfl⟩:=hErr.iface;have G3:=(L2.out.M.call h3 hf3 hj3).G;have F3:=hide (L2.out.fr.trans hf3 (fun _ _ e=>e));replace hErr:=hide hErr;replace h3:=hide h3;replace G3:=hide G3;clear hf3)
      |(go_at_call 149;refine(inKey_any (k:=key) hI G3.out hks).mono ?_;intro e w4 hW;obtain⟨g4,tx4,rfl,hg4,hb4,hf4⟩:=hW;replace hf4:=hide hf4;replace hb4:=hide hb4))
     try go_ret
     rw[hPOST.out]
     refine⟨_,rfl,?_⟩
     rw[hst.out]
     have hs1:=F3.out.size
     have hsW:=L2.out.fr.size
     exact⟨⟨_,_,rfl⟩,F3.out.trans hf4.out (fun _ _ f=>f.elim),.within g4 (by omega) tx4 hb4.out ((hErr.out.less hsW).fr hf4.out (fun _ _ f=>f)),j3,hf4.out.blk h3.out id,hj3⟩
    | some q=>
     obtain⟨d,j2⟩:=q
     have hj2:=hgo _ d j2 hp
     have hst:=hide (show stepM (rdT s (envOf ds) pl f t) s es j=some (es++[(key,d)],j2) by rw[hsm,hp];rfl)
     replace hp:=hide hp
     obtain⟨ti,hi1,hi2,hi3,hi4⟩:=info_parts i_Entry
     clear hsm hgo hri
     go_enter Tryz.func146,Tryz.ntmps146
     go_wp2_with (first
      |(go_at_call 147;refine hrun.out.mono ?_;rintro e w1 ⟨rfl,hf1,h1⟩;have k0:=hfac.out w1 hf1;have e0:=(hL1.out w1 hf1 h1).M.e;have b20:=(hL1.out w1 hf1 h1).b2.cell 0;simp only[List.getElem?_cons_zero] at b20;have L1:=hide (hL1.out w1 hf1 h1);replace hf1:=hide hf1;replace h1:=hide h1)
      |(go_at_call 114;refine(ntake_yes 58 h1.out hs4 hle.2 rfl (by decide) h58.out).mono ?_;rintro e w2 ⟨rfl,hf2,h2⟩;have L2:=L1.out.call h2 hf2 hlt2 (by have:=L1.out.c;omega);have hC:=hR (e1+1) (by omega) hlt2 w2 _ L2.M L2.ty;have d20:=L2.b2.cell 0;have d31:=L2.b3.cell 1;simp only[List.getElem?_cons_zero,List.getElem?_cons_succ] at d20 d31;replace hC:=hide hC;replace L2:=hide L2;have F2:=hide (hf1.out.trans hf2 (fun _ _ e=>e));clear hf2 h2)
      |(go_at_call 83;refine hC.out.mono ?_;rintro e w3 ⟨v3,ev3,rfl,hf3,hm3⟩;rw[hp.out] at hm3;obtain⟨rfl,hDv,h3,hj3⟩:=hm3;obtain⟨dT,dx,rfl⟩:=hDv.iface;have L3:=L2.out.call h3 hf3 hj3 (by have:=L2.out.c;omega);obtain⟨lv3,ys3,q1,q2,q3,q4⟩:=L2.out.row;rw[hnn.out] at q2;have r0:=hide q2.lt;have r1:=hf3.blk q1 (by omega);have r2:=ownsRow_fr q2 hf3 (fun g hg e=>(by have:=q2.lt g hg;omega));have rM:=hide (q4.fr hf3 (fun g hg e=>(by omega)));obtain⟨la3,lc3,rfl⟩:=own_sl r2;replace hDv:=hide hDv;clear q1 q2 q3 q4;have k3:=r1.cell 0;have kg:=r1.thaw 0;simp only[List.getElem?_cons_zero] at k3;have hB3:=L3.hB;replace L3:=hide L3;replace r1:=hide r1;replace r2:=hide r2;clear hf3 h3)
      |(at_builtin;go_must (refine wpList_append_own_at _ rfl _ _ 158 rfl (w.heap.size+3) 160 ti _ 2 32 u_DMap hi1 hi2 hi3 hi4 rfl (by decide) (.slice la3 0 lc3) 0 ys3 rfl ?hown _ 1 1 [.string key,.iface dT dx] rfl rfl (news_new _ #[.string key,.iface dT dx] _ _ ?nn) ?one ?b1 ?b2 ?b3 ?_)
        case hown=>exact World.ownsRow.alloc r2.out _
        case nn=>simp
        case one=>simp[Value.oneCell']
        case b1=>unfold maxLen;omega
        case b2=>omega
        case b3=>simp;omega
        intro v5 w5 ho5 hg5 hn5 hl5
        have hF5:Fr w3 w5 (fun g=>(Value.slice la3 0 lc3).ownBlock=some g):=Fr.grown ((Fr.refl w3 _).alloc _) hg5 (fun k e _=>e)
        have hl6:Hid (v5.ownBlock=(Value.slice la3 0 lc3).ownBlock∨∃ h,v5.ownBlock=some h∧w3.heap.size≤h):=hide (hl5.imp id (fun e=>⟨_,e,by simp⟩))
        have R5:=hF5.blk r1.out (fun e=>by have:=r2.out.lt _ e;omega)
        have e5:=R5.cell 0
        have f5:=R5.thaw 0
        simp only[List.getElem?_cons_zero] at e5
        have hn5':∀ g,v5.ownBlock=some g→w.heap.size+3≤g:=(fun g hg=>(ho5.lt g hg).1)
        obtain⟨g5,cap5,rfl⟩:=own_form ho5 (by omega)
        replace hF5:=hide hF5
        replace ho5:=hide ho5
        replace R5:=hide R5
        replace hn5':=hide hn5'
        clear hg5 hl5 hn5))
     try go_ret
     rw[hPOST.out]
     refine⟨_,rfl,?_⟩
     rw[hst.out]
     refine⟨rfl,by omega,?_⟩
     have hG:Fr w5 (w5.setCell ⟨w.heap.size+2,0,none⟩ (.slice (some ⟨g5,0,none⟩) (0+1) cap5)) (fun g=>g=w.heap.size+2):=(Fr.refl w5 (fun g=>g=w.heap.size+2)).setCell ⟨w.heap.size+2,0,none⟩ _ (fun _=>rfl)
     have hH:Fr w3 (w5.setCell ⟨w.heap.size+2,0,none⟩ (.slice (some ⟨g5,0,none⟩) (0+1) cap5)) (fun g=>w.heap.size+2≤g):=(hF5.out.mono (fun g _ e=>by have:=r2.out.lt g e;omega)).trans hG (fun g _ e=>by omega)
     have hM1:=L3.out.M
     have hbG:=hM1.brG
     have hl1:=L3.out.lt
     have hPl:∀ g,P g→¬ (w.heap.size+2≤g):=fun g hg=>by have:=hM1.Pbr g hg;omega
     have hyl:=r2.out.1
     exact⟨⟨hH.blk hM1.R (by omega),hM1.D.fr hH hPl,hM1.G.fr hH (by have:=hM1.lt;omega) (fun g e=>by omega),hM1.E,hM1.Pbr,hM1.brG,hM1.hs,hM1.il⟩,L3.out.fr.trans hH (fun g hg e=>by omega),L3.out.lt,Nat.le_trans L3.out.hB hH.size,hH.blk L3.out.b2 (by omega),hH.blk L3.out.b3 (by omega),L3.out.ty.fr hH hPl,by rw[List.length_append,hnn.out,List.length_singleton];omega,_,_,R5.out.set 0 _,by rw[List.length_append,hnn.out,List.length_singleton];exact ownsRow_fr ho5.out hG (fun g hg e=>by have:=hn5'.out g hg;omega),by rw[lastE_snoc,List.length_append,hnn.out,List.length_singleton];exact⟨0,rfl,by rw[List.getElem?_append_right (by omega),show 0*2-ys3.length=0 by omega];rfl⟩,rM.out.grow (c:=w.heap.size+2) (hDv.out.mono (fun g _ hg=>⟨by have:=L2.out.hB;omega,fun e=>by have:=r0.out g e;omega⟩)) hks ((hF5.out.mono (fun _ _ e=>.inl e)).trans hG (fun _ _ e=>.inr e)) (by omega) hl6.out⟩
  | some lk=>
   have hless:(Op.bytesLess key.toList lk.toList||key.toList==lk.toList)=false:=by
    rw[less_total]
    rw[show Op.bytesLess lk.toList key.toList=true from hri]
    rfl
   obtain⟨lv,ys,r1,r2,hq,_⟩:=L.out.row
   rw[hla.out,hnn.out] at hq
   obtain⟨m,hm,hym⟩:=hq
   rw[hnn.out] at r2
   have hm':n=m+1:=hm
   subst hm'
   obtain⟨la,lc,rfl⟩:=own_sl r2
   obtain⟨g,cap,hgc⟩:=own_form r2 (by simp)
   cases hgc
   have hwp:IntKind.i64.wrap (((m+1:Nat):Int)-1)=(m:Int):=by rw[IntKind.wrap_i64];omega
   have hmp:(0:Int)<((m+1:Nat):Int):=by omega
   have hfac:Hid (∀ w1,Fr W w1 (· = br)→w1.cell? ⟨w.heap.size+2,0,none⟩=some (.slice (some ⟨g,0,none⟩) (m+1) lc)∧w1.cell? ⟨g,m*2,none⟩=some (.string lk)):=hide (fun w1 hf=>⟨by rw[(hf.blk r1 (by omega)).cell 0];rfl,own_cell (ownsRow_fr r2 hf (fun g' hg e=>by have:=r2.lt g' hg;omega)) rfl hym⟩)
   clear r1 r2 hym hm
   by_cases h58:bt s e1=58
   case neg=>
    have hst:=hide (show stepM (rdT s (envOf ds) pl f t) s es j=none by unfold stepM;rw[hrk.out,if_neg (fun h=>h58 h.1)])
    replace h58:=hide h58
    clear hR hgo hri
    go_enter Tryz.func146,Tryz.ntmps146
    go_wp2_with (first
     |(go_at_call 147;refine hrun.out.mono ?_;rintro e w1 ⟨rfl,hf1,h1⟩;obtain⟨k0,k1⟩:=hfac.out w1 hf1;have e0:=(hL1.out w1 hf1 h1).M.e;have b20:=(hL1.out w1 hf1 h1).b2.cell 0;simp only[List.getElem?_cons_zero] at b20;have L1:=hide (hL1.out w1 hf1 h1);replace hf1:=hide hf1;replace h1:=hide h1)
     |(go_at_call 114;refine(ntake_no 58 h1.out hs4 hle.2 rfl (by decide) h58.out).mono ?_;rintro e w2 ⟨rfl,hf2,h2⟩;have e2:=(L1.out.call h2 hf2 hle.2 L1.out.c).M.e;replace hf2:=hide hf2;replace h2:=hide h2))
    try go_ret
    exact hbad.out hst.out w2 e1 (hf1.out.trans hf2.out (fun _ _ e=>e)) h2.out hle.2
   case pos=>
    have hlt2:e1+1≤s.size:=bt_pos (s:=s) (i:=e1) (by omega)
    have hsm:stepM (rdT s (envOf ds) pl f t) s es j=(rdT s (envOf ds) pl f t (e1+1)).map (fun q=>(es++[(key,q.1)],q.2)):=by
     unfold stepM
     rw[hrk.out,if_pos ⟨h58,hri⟩]
    replace h58:=hide h58
    cases hp:rdT s (envOf ds) pl f t (e1+1) with
    | none=>
     have hst:=hide (show stepM (rdT s (envOf ds) pl f t) s es j=none by rw[hsm,hp];rfl)
     replace hp:=hide hp
     clear hsm hgo hri
     go_enter Tryz.func146,Tryz.ntmps146
     go_wp2_with (first
      |(go_at_call 147;refine hrun.out.mono ?_;rintro e w1 ⟨rfl,hf1,h1⟩;obtain⟨k0,k1⟩:=hfac.out w1 hf1;have e0:=(hL1.out w1 hf1 h1).M.e;have b20:=(hL1.out w1 hf1 h1).b2.cell 0;simp only[List.getElem?_cons_zero] at b20;have L1:=hide (hL1.out w1 hf1 h1);replace hf1:=hide hf1;replace h1:=hide h1)
      |(go_at_call 114;refine(ntake_yes 58 h1.out hs4 hle.2 rfl (by decide) h58.out).mono ?_;rintro e w2 ⟨rfl,hf2,h2⟩;have L2:=L1.out.call h2 hf2 hlt2 (by have:=L1.out.c;omega);have hC:=hR (e1+1) (by omega) hlt2 w2 _ L2.M L2.ty;have d20:=L2.b2.cell 0;have d31:=L2.b3.cell 1;simp only[List.getElem?_cons_zero,List.getElem?_cons_succ] at d20 d31;replace hC:=hide hC;replace L2:=hide L2;have F2:=hide (hf1.out.trans hf2 (fun _ _ e=>e));clear hf2 h2)
      |(go_at_call 83;refine hC.out.mono ?_;rintro e w3 ⟨v3,ev3,rfl,hf3,hm3⟩;rw[hp.out] at hm3;obtain⟨rfl,hErr,j3,h3,hj3⟩:=hm3;obtain⟨eT,ex,rfl⟩:=hErr.iface;have G3:=(L2.out.M.call h3 hf3 hj3).G;have F3:=hide (L2.out.fr.trans hf3 (fun _ _ e=>e));replace hErr:=hide hErr;replace h3:=hide h3;replace G3:=hide G3;clear hf3)
      |(go_at_call 149;refine(inKey_any (k:=key) hI G3.out hks).mono ?_;intro e w4 hW;obtain⟨g4,tx4,rfl,hg4,hb4,hf4⟩:=hW;replace hf4:=hide hf4;replace hb4:=hide hb4))
     try go_ret
     rw[hPOST.out]
     refine⟨_,rfl,?_⟩
     rw[hst.out]
     have hs1:=F3.out.size
     have hsW:=L2.out.fr.size
     exact⟨⟨_,_,rfl⟩,F3.out.trans hf4.out (fun _ _ f=>f.elim),.within g4 (by omega) tx4 hb4.out ((hErr.out.less hsW).fr hf4.out (fun _ _ f=>f)),j3,hf4.out.blk h3.out id,hj3⟩
    | some q=>
     obtain⟨d,j2⟩:=q
     have hj2:=hgo _ d j2 hp
     have hst:=hide (show stepM (rdT s (envOf ds) pl f t) s es j=some (es++[(key,d)],j2) by rw[hsm,hp];rfl)
     replace hp:=hide hp
     obtain⟨ti,hi1,hi2,hi3,hi4⟩:=info_parts i_Entry
     clear hsm hgo hri
     go_enter Tryz.func146,Tryz.ntmps146
     go_wp2_with (first
      |(go_at_call 147;refine hrun.out.mono ?_;rintro e w1 ⟨rfl,hf1,h1⟩;obtain⟨k0,k1⟩:=hfac.out w1 hf1;have e0:=(hL1.out w1 hf1 h1).M.e;have b20:=(hL1.out w1 hf1 h1).b2.cell 0;simp only[List.getElem?_cons_zero] at b20;have L1:=hide (hL1.out w1 hf1 h1);replace hf1:=hide hf1;replace h1:=hide h1)
      |(go_at_call 114;refine(ntake_yes 58 h1.out hs4 hle.2 rfl (by decide) h58.out).mono ?_;rintro e w2 ⟨rfl,hf2,h2⟩;have L2:=L1.out.call h2 hf2 hlt2 (by have:=L1.out.c;omega);have hC:=hR (e1+1) (by omega) hlt2 w2 _ L2.M L2.ty;have d20:=L2.b2.cell 0;have d31:=L2.b3.cell 1;simp only[List.getElem?_cons_zero,List.getElem?_cons_succ] at d20 d31;replace hC:=hide hC;replace L2:=hide L2;have F2:=hide (hf1.out.trans hf2 (fun _ _ e=>e));clear hf2 h2)
      |(go_at_call 83;refine hC.out.mono ?_;rintro e w3 ⟨v3,ev3,rfl,hf3,hm3⟩;rw[hp.out] at hm3;obtain⟨rfl,hDv,h3,hj3⟩:=hm3;obtain⟨dT,dx,rfl⟩:=hDv.iface;have L3:=L2.out.call h3 hf3 hj3 (by have:=L2.out.c;omega);obtain⟨lv3,ys3,q1,q2,q3,q4⟩:=L2.out.row;rw[hnn.out] at q2;have r0:=hide q2.lt;have r1:=hf3.blk q1 (by omega);have r2:=ownsRow_fr q2 hf3 (fun g hg e=>(by have:=q2.lt g hg;omega));have rM:=hide (q4.fr hf3 (fun g hg e=>(by omega)));obtain⟨la3,lc3,rfl⟩:=own_sl r2;replace hDv:=hide hDv;clear q1 q2 q3 q4;have k3:=r1.cell 0;have kg:=r1.thaw 0;simp only[List.getElem?_cons_zero] at k3;have hB3:=L3.hB;replace L3:=hide L3;replace r1:=hide r1;replace r2:=hide r2;clear hf3 h3)
      |(at_builtin;go_must (refine wpList_append_own_at _ rfl _ _ 158 rfl (w.heap.size+3) 160 ti _ 2 32 u_DMap hi1 hi2 hi3 hi4 rfl (by decide) (.slice la3 (m+1) lc3) (m+1) ys3 rfl ?hown _ 1 1 [.string key,.iface dT dx] rfl rfl (news_new _ #[.string key,.iface dT dx] _ _ ?nn) ?one ?b1 ?b2 ?b3 ?_)
        case hown=>exact World.ownsRow.alloc r2.out _
        case nn=>simp
        case one=>simp[Value.oneCell']
        case b1=>unfold maxLen;omega
        case b2=>omega
        case b3=>simp;omega
        intro v5 w5 ho5 hg5 hn5 hl5
        have hF5:Fr w3 w5 (fun g=>(Value.slice la3 (m+1) lc3).ownBlock=some g):=Fr.grown ((Fr.refl w3 _).alloc _) hg5 (fun k e _=>e)
        have hl6:Hid (v5.ownBlock=(Value.slice la3 (m+1) lc3).ownBlock∨∃ h,v5.ownBlock=some h∧w3.heap.size≤h):=hide (hl5.imp id (fun e=>⟨_,e,by simp⟩))
        have R5:=hF5.blk r1.out (fun e=>by have:=r2.out.lt _ e;omega)
        have e5:=R5.cell 0
        have f5:=R5.thaw 0
        simp only[List.getElem?_cons_zero] at e5
        have hn5':∀ g,v5.ownBlock=some g→w.heap.size+3≤g:=(fun g hg=>(ho5.lt g hg).1)
        obtain⟨g5,cap5,rfl⟩:=own_form ho5 (by omega)
        replace hF5:=hide hF5
        replace ho5:=hide ho5
        replace R5:=hide R5
        replace hn5':=hide hn5'
        clear hg5 hl5 hn5))
     try go_ret
     rw[hPOST.out]
     refine⟨_,rfl,?_⟩
     rw[hst.out]
     refine⟨rfl,by omega,?_⟩
     have hG:Fr w5 (w5.setCell ⟨w.heap.size+2,0,none⟩ (.slice (some ⟨g5,0,none⟩) ((m+1)+1) cap5)) (fun g=>g=w.heap.size+2):=(Fr.refl w5 (fun g=>g=w.heap.size+2)).setCell ⟨w.heap.size+2,0,none⟩ _ (fun _=>rfl)
     have hH:Fr w3 (w5.setCell ⟨w.heap.size+2,0,none⟩ (.slice (some ⟨g5,0,none⟩) ((m+1)+1) cap5)) (fun g=>w.heap.size+2≤g):=(hF5.out.mono (fun g _ e=>by have:=r2.out.lt g e;omega)).trans hG (fun g _ e=>by omega)
     have hM1:=L3.out.M
     have hbG:=hM1.brG
     have hl1:=L3.out.lt
     have hPl:∀ g,P g→¬ (w.heap.size+2≤g):=fun g hg=>by have:=hM1.Pbr g hg;omega
     have hyl:=r2.out.1
     exact⟨⟨hH.blk hM1.R (by omega),hM1.D.fr hH hPl,hM1.G.fr hH (by have:=hM1.lt;omega) (fun g e=>by omega),hM1.E,hM1.Pbr,hM1.brG,hM1.hs,hM1.il⟩,L3.out.fr.trans hH (fun g hg e=>by omega),L3.out.lt,Nat.le_trans L3.out.hB hH.size,hH.blk L3.out.b2 (by omega),hH.blk L3.out.b3 (by omega),L3.out.ty.fr hH hPl,by rw[List.length_append,hnn.out,List.length_singleton];omega,_,_,R5.out.set 0 _,by rw[List.length_append,hnn.out,List.length_singleton];exact ownsRow_fr ho5.out hG (fun g hg e=>by have:=hn5'.out g hg;omega),by rw[lastE_snoc,List.length_append,hnn.out,List.length_singleton];exact⟨(m+1),rfl,by rw[List.getElem?_append_right (by omega),show(m+1)*2-ys3.length=0 by omega];rfl⟩,rM.out.grow (c:=w.heap.size+2) (hDv.out.mono (fun g _ hg=>⟨by have:=L2.out.hB;omega,fun e=>by have:=r0.out g e;omega⟩)) hks ((hF5.out.mono (fun _ _ e=>.inl e)).trans hG (fun _ _ e=>.inr e)) (by omega) hl6.out⟩
open Go.RowKit
theorem mi_start {w0 w:World}{P:Nat→Prop}{ss:ByteArray}{ds:List PD}{sv rv:Value}{xs:List Value}{s:ByteArray}{nt:TypeId}{nx:Value}{pl:Bool}{br i:Nat}{t:PT}{p:Int}{vT:TypeId}{vx:Value}(M:NC w0 P ss ds sv rv xs s nt nx pl br i w) (hT:TyV w P t (.iface vT vx)){W':World}(h:RdAt W' br sv rv s (i+1) (!pl)) (hf:Fr (((w.alloc (.cells #[.pointer (some ⟨br,0,none⟩)] 154)).alloc (.cells #[.int .i64 p,.iface vT vx] 206)).alloc (.cells #[.slice none 0 0] 158)) W' (· = br)) (hi:i+1≤s.size) :
 MI w0 w P ss ds sv rv xs s nt nx pl br i t p (.iface vT vx) [] (i+1) W':=by
 have hbl:=M.lt
 have A:Fr w (((w.alloc (.cells #[.pointer (some ⟨br,0,none⟩)] 154)).alloc (.cells #[.int .i64 p,.iface vT vx] 206)).alloc (.cells #[.slice none 0 0] 158)) (fun _=>False):=(((Fr.refl w _).alloc _).alloc _).alloc _
 have hz:(((w.alloc (.cells #[.pointer (some ⟨br,0,none⟩)] 154)).alloc (.cells #[.int .i64 p,.iface vT vx] 206)).alloc (.cells #[.slice none 0 0] 158)).heap.size=w.heap.size+3:=by simp
 have z1:(w.alloc (.cells #[.pointer (some ⟨br,0,none⟩)] 154)).heap.size=w.heap.size+1:=by simp
 have z2:((w.alloc (.cells #[.pointer (some ⟨br,0,none⟩)] 154)).alloc (.cells #[.int .i64 p,.iface vT vx] 206)).heap.size=w.heap.size+2:=by simp
 have B2:=((Blk.new w #[.pointer (some ⟨br,0,none⟩)] 154).alloc (.cells #[.int .i64 p,.iface vT vx] 206)).alloc (.cells #[.slice none 0 0] 158)
 have B3:=(Blk.new (w.alloc (.cells #[.pointer (some ⟨br,0,none⟩)] 154)) #[.int .i64 p,.iface vT vx] 206).alloc (.cells #[.slice none 0 0] 158)
 have B6:=Blk.new ((w.alloc (.cells #[.pointer (some ⟨br,0,none⟩)] 154)).alloc (.cells #[.int .i64 p,.iface vT vx] 206)) #[.slice none 0 0] 158
 rw[z1] at B3
 rw[z2] at B6
 have hsz:=hf.size
 exact⟨(M.new A).call h hf hi,(A.mono (fun _ _ f=>f.elim)).trans hf (fun _ _ e=>e),hbl,by omega,hf.blk B2 (by omega),hf.blk B3 (by omega),(hT.fr A (fun _ _ f=>f)).fr hf (fun g hg e=>M.brP (e▸hg)),by simp,_,_,hf.blk B6 (by omega),World.ownsRow_nil _ _ _ _,rfl,RowM.nil _ _⟩
set_option maxHeartbeats 8000000 in
set_option maxRecDepth 100000 in
theorem nmapping_any {w0 w:World}{P:Nat→Prop}{ss:ByteArray}{ds:List PD}{sv rv:Value}{xs:List Value}{s:ByteArray}{nt:TypeId}{nx:Value}{pl:Bool}{br i:Nat}{t:PT}{p:Int}{vT:TypeId}{vx:Value}{f:Nat}(M:NC w0 P ss ds sv rv xs s nt nx pl br i w) (hT:TyV w P t (.iface vT vx)) (hI:QuoteOK w0) (hR:∀ j,i<j→j≤s.size→DatN w0 P ss ds sv rv xs s nt nx pl br f t j) :
 Calls Tryz.prog 119 #[.pointer (some ⟨br,0,none⟩),.agg #[.int .i64 p,.iface vT vx]] w (NPost w sv rv s nt nx pl br (rdWrap (rdT s (envOf ds) pl f t) s 123 i)):=by
 obtain⟨POST,hPOST⟩:∃ Q,Hid (Q=NPost w sv rv s nt nx pl br (rdWrap (rdT s (envOf ds) pl f t) s 123 i)):=⟨_,rfl⟩
 rw[← hPOST.out]
 have hs4:s.size≤4000:=by have:=M.hs;omega
 have A:Fr w (((w.alloc (.cells #[.pointer (some ⟨br,0,none⟩)] 154)).alloc (.cells #[.int .i64 p,.iface vT vx] 206)).alloc (.cells #[.slice none 0 0] 158)) (fun _=>False):=(((Fr.refl w _).alloc _).alloc _).alloc _
 have hgo:=rdT_goes s (envOf ds) pl f t
 have IT:ItemOK (St:=List (ByteArray×DT)) sv rv s nt nx pl br 146 #[.pointer (some ⟨w.heap.size,0,none⟩),.pointer (some ⟨w.heap.size+2,0,none⟩),.pointer (some ⟨w.heap.size+1,0,none⟩)] (stepM (rdT s (envOf ds) pl f t) s) (fun n j W=>MI w0 w P ss ds sv rv xs s nt nx pl br i t p (.iface vT vx) n j W) (BadL w sv rv s nt nx pl br):=
  { F:=fun W=>by kernel_rfl
    R:=fun h=>⟨h.M.R,h.M.il,h.M.e⟩
    K:=fun h h1 h2 h3 h4=>h.call h1 h2 h3 (by have:=h.c;omega)
    B:=fun h=>⟨h.fr,.base,_,h.M.R,h.M.il⟩
    C:=fun {n j W} h=>(nmap1_any h hI (fun j' h1 h2=>hR j' (by have:=h.c;omega) h2) (fun j d j' e=>(hgo j d j' e).1)).mono (by
     rintro e W' ⟨v,he,hm⟩
     refine⟨v,he,?_⟩
     cases hq:stepM (rdT s (envOf ds) pl f t) s n j with
     | none=>rw[hq] at hm;exact hm
     | some q=>obtain⟨a,b⟩:=q;rw[hq] at hm;exact hm) }
 have hC:=hide (nitems_any IT (w:=(((w.alloc (.cells #[.pointer (some ⟨br,0,none⟩)] 154)).alloc (.cells #[.int .i64 p,.iface vT vx] 206)).alloc (.cells #[.slice none 0 0] 158))) (σ:=([]:List (ByteArray×DT))) (i:=i) (co:=123) (cf:=125) 123 125 (A.blk M.R id) M.il (fun W' h hf hi=>mi_start M hT h hf hi) (fun W' h hf=>⟨⟨(A.mono (fun _ _ f=>f.elim)).trans hf (fun _ _ e=>e),.base,i,h,M.il⟩,((M.new A).call h hf M.il).e⟩) hs4 rfl rfl (by decide) (by decide))
 have hres:=hide (map_wrap (rdT s (envOf ds) pl f t) s i)
 clear IT A hgo hT hR hI M
 cases hp:listP (stepM (rdT s (envOf ds) pl f t) s) s 123 125 [] i with
 | none=>
  rw[hp] at hres
  replace hp:=hide hp
  go_enter Tryz.func119,Tryz.ntmps119
  go_wp2_with (go_at_call 143;refine hC.out.mono ?_;rintro e w2 ⟨v2,rfl,hm⟩;rw[hp.out] at hm;obtain⟨⟨eT,ex,rfl⟩,hB⟩:=hm;replace hB:=hide hB)
  try go_ret
  rw[hPOST.out,hres.out]
  obtain⟨h1,h2,h3⟩:=hB.out
  exact⟨.nilIface,_,rfl,h1,rfl,h2,h3⟩
 | some q=>
  obtain⟨n2,j2⟩:=q
  rw[hp] at hres
  replace hp:=hide hp
  go_enter Tryz.func119,Tryz.ntmps119
  go_wp2_with (go_at_call 143;refine hC.out.mono ?_;rintro e w2 ⟨v2,rfl,hm⟩;rw[hp.out] at hm;obtain⟨rfl,hL⟩:=hm;obtain⟨lv,ys,r1,r2,r3,r4⟩:=hL.row;obtain⟨la,lc,rfl⟩:=own_sl r2;have k0:=r1.cell 0;simp only[List.getElem?_cons_zero] at k0;have hDv:=hide (r4.dat (Q:=fun g=>w.heap.size≤g) r2 (fun g _ hg=>(by omega)) (fun g hg=>(by have:=r2.lt g hg;omega)));replace hL:=hide hL;clear r1 r2 r3 r4)
  try go_ret
  rw[hPOST.out,hres.out]
  exact nok hDv.out hL.out.fr hL.out.M.R hL.out.M.il
open Go.RowKit
theorem NPost.pre {w w1 w':World}{sv rv:Value}{s:ByteArray}{nt:TypeId}{nx:Value}{pl:Bool}{br:Nat}{res:Option (DT×Nat)}{e:Ending}(A:Fr w w1 (fun _=>False)) (h:NPost w1 sv rv s nt nx pl br res e w'):NPost w sv rv s nt nx pl br res e w':=by
 obtain⟨v,ev,he,hf,hm⟩:=h
 refine⟨v,ev,he,(A.mono (fun _ _ f=>f.elim)).trans hf (fun _ _ e=>e),?_⟩
 cases res with
 | none=>exact⟨hm.1,hm.2.1.less A.size,hm.2.2⟩
 | some q=>obtain⟨d,j⟩:=q;exact⟨hm.1,hm.2.1.mono (fun g _ hg=>Nat.le_trans A.size hg),hm.2.2⟩
def NumN (w0:World) (P:Nat→Prop) (ss:ByteArray) (ds:List PD) (sv rv:Value) (xs:List Value) (s:ByteArray) (nt:TypeId) (nx:Value) (pl:Bool) (br:Nat):Prop:=
 ∀ (w:World) (i:Nat),NC w0 P ss ds sv rv xs s nt nx pl br i w→
  Calls Tryz.prog 116 #[.pointer (some ⟨br,0,none⟩),.int .i64 (-2147483648),.int .i64 2147483647] w (NPost w sv rv s nt nx pl br ((rdNum s 105 i).map (fun q=>(.mk 105 q.1 noB [] [],q.2))))∧
  Calls Tryz.prog 116 #[.pointer (some ⟨br,0,none⟩),.int .i64 (-9223372036854775808),.int .i64 9223372036854775807] w (NPost w sv rv s nt nx pl br ((rdNum s 108 i).map (fun q=>(.mk 108 q.1 noB [] [],q.2))))
section
variable {w0:World} {P:Nat→Prop} {ss:ByteArray} {ds:List PD} {sv rv:Value} {xs:List Value} {s:ByteArray} {nt:TypeId} {nx:Value} {pl:Bool} {br i:Nat} {f p:Nat}
set_option maxHeartbeats 4000000 in
set_option maxRecDepth 100000 in
theorem dat_110:DatN w0 P ss ds sv rv xs s nt nx pl br (f+1) (.leaf 110 p) i:=by
 intro w v M hT
 obtain rfl:v=.iface 198 (.agg #[.int .i64 (p:Int)]):=by
  cases hT with
  | base _ _ h=>rfl
  | name _ _ h=>exact absurd h (by decide)
 obtain⟨POST,hPOST⟩:∃ Q,Hid (Q=NPost w sv rv s nt nx pl br (rdT s (envOf ds) pl (f+1) (.leaf 110 p) i)):=⟨_,rfl⟩
 rw[← hPOST.out]
 have A:Fr w (w.alloc (.cells #[.int .i64 (p:Int)] 198)) (fun _=>False):=(Fr.refl w _).alloc _
 have M0:=M.new A
 have hs4:s.size≤4000:=by have:=M.hs;omega
 have hil:=M.il
 have A':=hide (A.mono (T:=fun g=>g=br) (fun _ _ f=>f.elim))
 replace M0:=hide M0
 clear M hT
 have a0:=asNothing_yes
 by_cases h78:bt s i=78
 ·have hlt:i+1≤s.size:=bt_pos (s:=s) (i:=i) (by omega)
  have hr:=hide (show rdT s (envOf ds) pl (f+1) (.leaf 110 p) i=some (.mk 110 0 noB [] [],i+1) by rw[rdT];unfold rdLeaf;rw[if_pos rfl,if_pos h78])
  replace h78:=hide h78
  go_enter Tryz.func83,Tryz.ntmps83
  go_wp2_with (go_at_call 114;refine(ntake_yes 78 M0.out.R hs4 hil rfl (by decide) h78.out).mono ?_;rintro e w2 ⟨rfl,hf2,h2⟩;replace hf2:=hide hf2;replace h2:=hide h2)
  try go_ret
  rw[hPOST.out,hr.out]
  exact nok (.flat .nothing) (A'.out.trans hf2.out (fun _ _ e=>e)) h2.out hlt
 ·have hr:=hide (show rdT s (envOf ds) pl (f+1) (.leaf 110 p) i=none by rw[rdT];unfold rdLeaf;rw[if_pos rfl,if_neg h78])
  replace h78:=hide h78
  go_enter Tryz.func83,Tryz.ntmps83
  go_wp2_with (go_at_call 114;refine(ntake_no 78 M0.out.R hs4 hil rfl (by decide) h78.out).mono ?_;rintro e w2 ⟨rfl,hf2,h2⟩;have e2:=(M0.out.call h2 hf2 hil).e;replace hf2:=hide hf2;replace h2:=hide h2)
  go_quiet (fail)
  go_wp2_with fail
  try go_ret
  rw[hPOST.out,hr.out]
  exact nerr ((A'.out.trans hf2.out (fun _ _ e=>e)).still (Still.drewN _ _)) (h2.out.still (Still.drewN _ _)) hil
set_option maxHeartbeats 4000000 in
set_option maxRecDepth 100000 in
theorem dat_116:DatN w0 P ss ds sv rv xs s nt nx pl br (f+1) (.leaf 116 p) i:=by
 intro w v M hT
 obtain rfl:v=.iface 199 (.agg #[.int .i64 (p:Int)]):=by
  cases hT with
  | base _ _ h=>rfl
  | name _ _ h=>exact absurd h (by decide)
 have hr:rdT s (envOf ds) pl (f+1) (.leaf 116 p) i=tEnd s i:=by
  rw[rdT];unfold rdLeaf tEnd;rw[if_neg (by decide),if_pos rfl]
 rw[hr]
 obtain⟨POST,hPOST⟩:∃ Q,Hid (Q=NPost w sv rv s nt nx pl br (tEnd s i)):=⟨_,rfl⟩
 rw[← hPOST.out]
 clear hr hT
 have A:Fr w (w.alloc (.cells #[.int .i64 (p:Int)] 199)) (fun _=>False):=(Fr.refl w _).alloc _
 have M0:=M.new A
 have hC:=hide (ntruth_any M0)
 replace A:=hide A
 clear M0 M
 have a0:=asNothing_no 199 (by decide)
 have a1:=asTruth_yes
 go_enter Tryz.func83,Tryz.ntmps83
 go_wp2_with (go_at_call 115;refine hC.out.mono ?_;intro e w2 hN;obtain⟨v2,ev2,rfl,hN2⟩:=hN;replace hN2:=hide hN2)
 try go_ret
 rw[hPOST.out]
 exact NPost.pre A.out ⟨v2,ev2,rfl,hN2.out⟩
set_option maxHeartbeats 4000000 in
set_option maxRecDepth 100000 in
theorem dat_105 (hN:NumN w0 P ss ds sv rv xs s nt nx pl br):DatN w0 P ss ds sv rv xs s nt nx pl br (f+1) (.leaf 105 p) i:=by
 intro w v M hT
 obtain rfl:v=.iface 200 (.agg #[.int .i64 (p:Int)]):=by
  cases hT with
  | base _ _ h=>rfl
  | name _ _ h=>exact absurd h (by decide)
 have hr:rdT s (envOf ds) pl (f+1) (.leaf 105 p) i=(rdNum s 105 i).map (fun q=>(.mk 105 q.1 noB [] [],q.2)):=by
  rw[rdT];unfold rdLeaf;rw[if_neg (by decide),if_neg (by decide),if_pos (by decide)];cases rdNum s 105 i <;> rfl
 rw[hr]
 obtain⟨POST,hPOST⟩:∃ Q,Hid (Q=NPost w sv rv s nt nx pl br ((rdNum s 105 i).map (fun q=>(.mk 105 q.1 noB [] [],q.2)))):=⟨_,rfl⟩
 rw[← hPOST.out]
 clear hr hT
 have A:Fr w (w.alloc (.cells #[.int .i64 (p:Int)] 200)) (fun _=>False):=(Fr.refl w _).alloc _
 have M0:=M.new A
 have hC:=hide ((hN _ _ M0).1)
 replace A:=hide A
 clear M0 M
 have a0:=asNothing_no 200 (by decide)
 have a1:=asTruth_no 200 (by decide)
 have a2:=asInt_yes
 go_enter Tryz.func83,Tryz.ntmps83
 go_wp2_with (go_at_call 116;refine hC.out.mono ?_;intro e w2 hN;obtain⟨v2,ev2,rfl,hN2⟩:=hN;replace hN2:=hide hN2)
 try go_ret
 rw[hPOST.out]
 exact NPost.pre A.out ⟨v2,ev2,rfl,hN2.out⟩
set_option maxHeartbeats 4000000 in
set_option maxRecDepth 100000 in
theorem dat_108 (hN:NumN w0 P ss ds sv rv xs s nt nx pl br):DatN w0 P ss ds sv rv xs s nt nx pl br (f+1) (.leaf 108 p) i:=by
 intro w v M hT
 obtain rfl:v=.iface 201 (.agg #[.int .i64 (p:Int)]):=by
  cases hT with
  | base _ _ h=>rfl
  | name _ _ h=>exact absurd h (by decide)
 have hr:rdT s (envOf ds) pl (f+1) (.leaf 108 p) i=(rdNum s 108 i).map (fun q=>(.mk 108 q.1 noB [] [],q.2)):=by
  rw[rdT];unfold rdLeaf;rw[if_neg (by decide),if_neg (by decide),if_pos (by decide)];cases rdNum s 108 i <;> rfl
 rw[hr]
 obtain⟨POST,hPOST⟩:∃ Q,Hid (Q=NPost w sv rv s nt nx pl br ((rdNum s 108 i).map (fun q=>(.mk 108 q.1 noB [] [],q.2)))):=⟨_,rfl⟩
 rw[← hPOST.out]
 clear hr hT
 have A:Fr w (w.alloc (.cells #[.int .i64 (p:Int)] 201)) (fun _=>False):=(Fr.refl w _).alloc _
 have M0:=M.new A
 have hC:=hide ((hN _ _ M0).2)
 replace A:=hide A
 clear M0 M
 have a0:=asNothing_no 201 (by decide)
 have a1:=asTruth_no 201 (by decide)
 have a2:=asInt_no 201 (by decide)
 have a3:=asLong_yes
 go_enter Tryz.func83,Tryz.ntmps83
 go_wp2_with (go_at_call 116;refine hC.out.mono ?_;intro e w2 hN;obtain⟨v2,ev2,rfl,hN2⟩:=hN;replace hN2:=hide hN2)
 try go_ret
 rw[hPOST.out]
 exact NPost.pre A.out ⟨v2,ev2,rfl,hN2.out⟩
set_option maxHeartbeats 4000000 in
set_option maxRecDepth 100000 in
theorem dat_115:DatN w0 P ss ds sv rv xs s nt nx pl br (f+1) (.leaf 115 p) i:=by
 intro w v M hT
 obtain rfl:v=.iface 202 (.agg #[.int .i64 (p:Int)]):=by
  cases hT with
  | base _ _ h=>rfl
  | name _ _ h=>exact absurd h (by decide)
 have hr:rdT s (envOf ds) pl (f+1) (.leaf 115 p) i=sEnd s i:=by
  rw[rdT];unfold rdLeaf sEnd;rw[if_neg (by decide),if_neg (by decide),if_neg (by decide),if_pos rfl]
 rw[hr]
 obtain⟨POST,hPOST⟩:∃ Q,Hid (Q=NPost w sv rv s nt nx pl br (sEnd s i)):=⟨_,rfl⟩
 rw[← hPOST.out]
 clear hr hT
 have A:Fr w (w.alloc (.cells #[.int .i64 (p:Int)] 202)) (fun _=>False):=(Fr.refl w _).alloc _
 have M0:=M.new A
 have hC:=hide (nquoted_any M0)
 replace A:=hide A
 clear M0 M
 have a0:=asNothing_no 202 (by decide)
 have a1:=asTruth_no 202 (by decide)
 have a2:=asInt_no 202 (by decide)
 have a3:=asLong_no 202 (by decide)
 have a4:=asText_yes
 go_enter Tryz.func83,Tryz.ntmps83
 go_wp2_with (go_at_call 117;refine hC.out.mono ?_;intro e w2 hN;obtain⟨v2,ev2,rfl,hN2⟩:=hN;replace hN2:=hide hN2)
 try go_ret
 rw[hPOST.out]
 exact NPost.pre A.out ⟨v2,ev2,rfl,hN2.out⟩
set_option maxHeartbeats 4000000 in
set_option maxRecDepth 100000 in
theorem dat_91 {t:PT}(hI:ItoaOK w0) (hR:∀ j,i<j→j≤s.size→DatN w0 P ss ds sv rv xs s nt nx pl br f t j):DatN w0 P ss ds sv rv xs s nt nx pl br (f+1) (.wrap 91 p t) i:=by
 intro w v M hT
 obtain⟨v2,hv2,rfl⟩:∃ v2,TyV w P t v2∧v=.iface 205 (.agg #[.int .i64 (p:Int),v2]):=by
  cases hT with
  | wrap _ _ h=>exact⟨_,h,rfl⟩
 obtain⟨vT,vx,rfl⟩:=hv2.iface
 rw[rdT]
 obtain⟨POST,hPOST⟩:∃ Q,Hid (Q=NPost w sv rv s nt nx pl br (rdWrap (rdT s (envOf ds) pl f t) s 91 i)):=⟨_,rfl⟩
 rw[← hPOST.out]
 clear hT
 have A:Fr w (w.alloc (.cells #[.int .i64 (p:Int),.iface vT vx] 205)) (fun _=>False):=(Fr.refl w _).alloc _
 have M0:=M.new A
 have hC:=hide (nlist_any (p:=(p:Int)) M0 (hv2.fr A (fun _ _ f=>f)) hI hR)
 replace A:=hide A
 clear M0 M
 have a0:=asNothing_no 205 (by decide)
 have a1:=asTruth_no 205 (by decide)
 have a2:=asInt_no 205 (by decide)
 have a3:=asLong_no 205 (by decide)
 have a4:=asText_no 205 (by decide)
 have a5:=asList_yes
 go_enter Tryz.func83,Tryz.ntmps83
 go_wp2_with (go_at_call 118;refine hC.out.mono ?_;intro e w2 hN;obtain⟨v2,ev2,rfl,hN2⟩:=hN;replace hN2:=hide hN2)
 try go_ret
 rw[hPOST.out]
 exact NPost.pre A.out ⟨v2,ev2,rfl,hN2.out⟩
set_option maxHeartbeats 4000000 in
set_option maxRecDepth 100000 in
theorem dat_123 {t:PT}(hI:QuoteOK w0) (hR:∀ j,i<j→j≤s.size→DatN w0 P ss ds sv rv xs s nt nx pl br f t j):DatN w0 P ss ds sv rv xs s nt nx pl br (f+1) (.wrap 123 p t) i:=by
 intro w v M hT
 obtain⟨v2,hv2,rfl⟩:∃ v2,TyV w P t v2∧v=.iface 206 (.agg #[.int .i64 (p:Int),v2]):=by
  cases hT with
  | wrap _ _ h=>exact⟨_,h,rfl⟩
 obtain⟨vT,vx,rfl⟩:=hv2.iface
 rw[rdT]
 obtain⟨POST,hPOST⟩:∃ Q,Hid (Q=NPost w sv rv s nt nx pl br (rdWrap (rdT s (envOf ds) pl f t) s 123 i)):=⟨_,rfl⟩
 rw[← hPOST.out]
 clear hT
 have A:Fr w (w.alloc (.cells #[.int .i64 (p:Int),.iface vT vx] 206)) (fun _=>False):=(Fr.refl w _).alloc _
 have M0:=M.new A
 have hC:=hide (nmapping_any (p:=(p:Int)) M0 (hv2.fr A (fun _ _ f=>f)) hI hR)
 replace A:=hide A
 clear M0 M
 have a0:=asNothing_no 206 (by decide)
 have a1:=asTruth_no 206 (by decide)
 have a2:=asInt_no 206 (by decide)
 have a3:=asLong_no 206 (by decide)
 have a4:=asText_no 206 (by decide)
 have a5:=asList_no 206 (by decide)
 have a6:=asMap_yes
 go_enter Tryz.func83,Tryz.ntmps83
 go_wp2_with (go_at_call 119;refine hC.out.mono ?_;intro e w2 hN;obtain⟨v2,ev2,rfl,hN2⟩:=hN;replace hN2:=hide hN2)
 try go_ret
 rw[hPOST.out]
 exact NPost.pre A.out ⟨v2,ev2,rfl,hN2.out⟩
set_option maxHeartbeats 4000000 in
set_option maxRecDepth 100000 in
theorem dat_40 {l:List PT}(hne:l≠[]) (hI:ItoaOK w0) (hR:∀ t∈l,DatN w0 P ss ds sv rv xs s nt nx true br f t i):DatN w0 P ss ds sv rv xs s nt nx true br (f+1) (.alts p l) i:=by
 intro w v M hT
 cases l with
 | nil=>exact absurd rfl hne
 | cons t r=>
 obtain⟨X,v2,ho,_,hX,rfl⟩:∃ X v2,w.ownsRow 0 83 1 v2 (t::r).length ((List.range (t::r).length).map X)∧(∀ g,v2.ownBlock=some g→P g)∧(∀ i u,(t::r)[i]?=some u→TyV w P u (X i))∧v=.iface 220 (.agg #[.int .i64 (p:Int),v2]):=by
  cases hT with
  | alts _ X ho hP h=>exact⟨X,_,ho,hP,h,rfl⟩
 obtain⟨ba,bc,rfl⟩:=own_sl ho
 have hr:rdT s (envOf ds) true (f+1) (.alts p (t::r)) i=oneB 0 (rdT s (envOf ds) true f t i):=by
  rw[rdT];unfold rdBranch;rw[if_pos rfl];simp only
  cases rdT s (envOf ds) true f t i <;> rfl
 rw[hr]
 obtain⟨POST,hPOST⟩:∃ Q,Hid (Q=NPost w sv rv s nt nx true br (oneB 0 (rdT s (envOf ds) true f t i))):=⟨_,rfl⟩
 rw[← hPOST.out]
 have hRt:=hR t (by simp)
 have hX0:=hX 0 t rfl
 clear hT hr hR hX hne
 have A:Fr w (w.alloc (.cells #[.int .i64 (p:Int),.slice ba (t::r).length bc] 220)) (fun _=>False):=(Fr.refl w _).alloc _
 have M0:=M.new A
 have hC:=hide (nunion_any (p:=(p:Int)) M0 (ownsRow_fr ho A (fun _ _ f=>f)) (hX0.fr A (fun _ _ f=>f)) hI hRt)
 replace A:=hide A
 clear M0 M ho hX0 hRt
 generalize (t::r).length=n at hC A⊢
 have a0:=asNothing_no 220 (by decide)
 have a1:=asTruth_no 220 (by decide)
 have a2:=asInt_no 220 (by decide)
 have a3:=asLong_no 220 (by decide)
 have a4:=asText_no 220 (by decide)
 have a5:=asList_no 220 (by decide)
 have a6:=asMap_no 220 (by decide)
 have a7:=asUnion_yes
 go_enter Tryz.func83,Tryz.ntmps83
 go_wp2_with (go_at_call 120;refine hC.out.mono ?_;intro e w2 hN;obtain⟨v2,ev2,rfl,hN2⟩:=hN;replace hN2:=hide hN2)
 try go_ret
 rw[hPOST.out]
 exact NPost.pre A.out ⟨v2,ev2,rfl,hN2.out⟩
end
end Go.Proofs.YtiifagiebikmdaaGreatDoor
