import Derived.Test.YtiifagiebikmdaaGreatDoorBK25
namespace Go.Proofs.YtiifagiebikmdaaGreatDoor
open Go.RowKit
def DatN (w0:World) (P:Nat→Prop) (ss:ByteArray) (ds:List PD) (sv rv:Value) (xs:List Value) (s:ByteArray) (nt:TypeId) (nx:Value) (pl:Bool) (br f:Nat) (t:PT) (j:Nat):Prop:=
 ∀ (w:World) (v:Value),NC w0 P ss ds sv rv xs s nt nx pl br j w→TyV w P t v→
  Calls Tryz.prog 83 #[.pointer (some ⟨br,0,none⟩),v] w (NPost w sv rv s nt nx pl br (rdT s (envOf ds) pl f t j))
def stepL (R:Nat→Option (DT×Nat)) (l:List DT) (j:Nat):Option (List DT×Nat):=(R j).map (fun q=>(l++[q.1],q.2))
theorem items_list (R:Nat→Option (DT×Nat)) (s:ByteArray) (fin:Nat):∀ n l j last,itemsP (stepL R) s fin n l j=(rdItems R s fin false n last j).map (fun q=>(l++q.1.map Prod.snd,q.2)):=by
 intro n
 induction n with
 | zero=>intro l j last;rfl
 | succ n ih=>
  intro l j last
  rw[itemsP,rdItems]
  simp only[rdKey,Bool.false_eq_true,if_false,stepL]
  cases R j with
  | none=>rfl
  | some q=>
   obtain⟨d,j'⟩:=q
   simp only[Option.map_some]
   split
   ·rfl
   ·split
    ·rw[ih (l++[d]) (j'+1) (some noB)]
     cases rdItems R s fin false n (some noB) (j'+1) with
     | none=>rfl
     | some q=>simp
    ·rfl
theorem list_wrap (R:Nat→Option (DT×Nat)) (s:ByteArray) (i:Nat):rdWrap R s 91 i=(listP (stepL R) s 91 93 [] i).map (fun q=>(.mk 91 0 noB [] q.1,q.2)):=by
 unfold listP rdWrap rdList
 by_cases h:bt s i=91
 ·rw[if_pos h,if_pos h,show closing 91=93 from rfl,show((91:Nat)==123)=false from rfl]
  by_cases h2:bt s (i+1)=93
  ·rw[if_pos h2,if_pos h2]
   rfl
  ·rw[if_neg h2,if_neg h2,items_list R s 93 _ [] (i+1) none]
   cases rdItems R s 93 false (s.size+2) none (i+1) with
   | none=>rfl
   | some q=>simp
 ·rw[if_neg h,if_neg h]
  rfl
structure LI (w0 w:World) (P:Nat→Prop) (ss:ByteArray) (ds:List PD) (sv rv:Value) (xs:List Value) (s:ByteArray) (nt:TypeId) (nx:Value) (pl:Bool) (br i:Nat) (t:PT) (p:Int) (v:Value) (l:List DT) (j:Nat) (W:World):Prop where
 M:NC w0 P ss ds sv rv xs s nt nx pl br j W
 fr:Fr w W (· = br)
 lt:br<w.heap.size
 hB:w.heap.size+3≤W.heap.size
 b2:Blk W w.heap.size [.pointer (some ⟨br,0,none⟩)] 154
 b3:Blk W (w.heap.size+1) [.int .i64 p,v] 205
 ty:TyV W P t v
 c:i+l.length<j
 row:∃ lv,Blk W (w.heap.size+2) [lv] 156∧RowD W (w.heap.size+3) (fun g=>w.heap.size+3≤g∧lv.ownBlock≠some g) lv l
section
variable {w0 w:World} {P:Nat→Prop} {ss:ByteArray} {ds:List PD} {sv rv:Value} {xs:List Value} {s:ByteArray} {nt:TypeId} {nx:Value} {pl:Bool} {br i:Nat} {t:PT} {p:Int} {v:Value} {l:List DT} {j j':Nat} {W W':World}
theorem LI.call (L:LI w0 w P ss ds sv rv xs s nt nx pl br i t p v l j W) (h:RdAt W' br sv rv s j' (!pl)) (hf:Fr W W' (· = br)) (hj:j'≤s.size) (hc:i+l.length<j'):LI w0 w P ss ds sv rv xs s nt nx pl br i t p v l j' W':=by
 have h1:=L.lt
 obtain⟨lv,r1,r2⟩:=L.row
 obtain⟨ys,r3⟩:=r2.row
 exact⟨L.M.call h hf hj,L.fr.trans hf (fun _ _ e=>e),L.lt,Nat.le_trans L.hB hf.size,hf.blk L.b2 (by omega),hf.blk L.b3 (by omega),L.ty.fr hf (fun g hg e=>L.M.brP (e▸hg)),hc,lv,hf.blk r1 (by omega),r2.fr hf (fun g hg e=>by omega) (fun g hg e=>by have:=r3.lt g hg;omega)⟩
end
def BadL (w:World) (sv rv:Value) (s:ByteArray) (nt:TypeId) (nx:Value) (pl:Bool) (br:Nat) (ev:Value) (W:World):Prop:=
 Fr w W (· = br)∧ErrD W w.heap.size nt nx ev∧∃ j,RdAt W br sv rv s j (!pl)∧j≤s.size
theorem u_DList:Tryz.prog.underlying 156=some (.slice 89):=by kernel_rfl
theorem i_Datum2:(Tryz.prog.info? 89).map (fun i=>(i.zero,i.size,i.bytes))=some (some .nilIface,1,16):=by kernel_rfl
set_option maxHeartbeats 8000000 in
set_option maxRecDepth 100000 in
theorem nlist1_any {w0 w:World}{P:Nat→Prop}{ss:ByteArray}{ds:List PD}{sv rv:Value}{xs:List Value}{s:ByteArray}{nt:TypeId}{nx:Value}{pl:Bool}{br i:Nat}{t:PT}{p:Int}{vT:TypeId}{vx:Value}{l:List DT}{j f:Nat}{W:World}(L:LI w0 w P ss ds sv rv xs s nt nx pl br i t p (.iface vT vx) l j W) (hI:ItoaOK w0) (hR:DatN w0 P ss ds sv rv xs s nt nx pl br f t j) (hgo:∀ d j',rdT s (envOf ds) pl f t j=some (d,j')→j<j') :
 Calls Tryz.prog 144 #[.pointer (some ⟨w.heap.size,0,none⟩),.pointer (some ⟨w.heap.size+1,0,none⟩),.pointer (some ⟨w.heap.size+2,0,none⟩)] W fun e W'=>∃ v,e=.returned v∧match stepL (rdT s (envOf ds) pl f t) l j with|some (l',j')=>v=.nilIface∧j<j'∧LI w0 w P ss ds sv rv xs s nt nx pl br i t p (.iface vT vx) l' j' W'|none=>(∃ T x,v=.iface T x)∧BadL w sv rv s nt nx pl br v W':=by
 obtain⟨POST,hPOST⟩:∃ Q,Hid (Q=fun (e:Ending) (W':World)=>∃ v,e=.returned v∧match stepL (rdT s (envOf ds) pl f t) l j with|some (l',j')=>v=.nilIface∧j<j'∧LI w0 w P ss ds sv rv xs s nt nx pl br i t p (.iface vT vx) l' j' W'|none=>(∃ T x,v=.iface T x)∧BadL w sv rv s nt nx pl br v W'):=⟨_,rfl⟩
 rw[← hPOST.out]
 have hC:=hide (hR W _ L.M L.ty)
 have c20:=L.b2.cell 0
 have c31:=L.b3.cell 1
 simp only[List.getElem?_cons_zero,List.getElem?_cons_succ] at c20 c31
 have hjs:=L.M.il
 have hs3:=L.M.hs
 have hcn:=L.c
 have hlt:=L.lt
 replace L:=hide L
 cases hp:rdT s (envOf ds) pl f t j with
 | none=>
  have hst:=hide (show stepL (rdT s (envOf ds) pl f t) l j=none by unfold stepL;rw[hp];rfl)
  replace hp:=hide hp
  go_enter Tryz.func144,Tryz.ntmps144
  go_wp2_with (first
   |(go_at_call 83;refine hC.out.mono ?_;rintro e w1 ⟨v1,ev1,rfl,hf1,hm⟩;rw[hp.out] at hm;obtain⟨rfl,hErr,j1,h1,hj1⟩:=hm;obtain⟨eT,ex,rfl⟩:=hErr.iface;have G1:=(L.out.M.call h1 hf1 hj1).G;obtain⟨lv,r1,r2⟩:=L.out.row;obtain⟨ys,r3⟩:=r2.row;obtain⟨la,lc,rfl⟩:=own_sl r3;have k0:=(hf1.blk r1 (by omega)).cell 0;simp only[List.getElem?_cons_zero] at k0;replace hf1:=hide hf1;replace hErr:=hide hErr;replace h1:=hide h1;replace G1:=hide G1;clear r1 r2)
   |(go_at_call 145;refine(inItem_any (n:=l.length) hI G1.out (by omega)).mono ?_;intro e w2 hW;obtain⟨g2,tx2,rfl,hg2,hb2,hf2⟩:=hW;replace hf2:=hide hf2;replace hb2:=hide hb2))
  try go_ret
  rw[hPOST.out]
  refine⟨_,rfl,?_⟩
  rw[hst.out]
  have hs1:=(L.out.fr.trans hf1.out (fun _ _ e=>e)).size
  have hsW:=L.out.fr.size
  exact⟨⟨_,_,rfl⟩,(L.out.fr.trans hf1.out (fun _ _ e=>e)).trans hf2.out (fun _ _ f=>f.elim),.within g2 (by omega) tx2 hb2.out ((hErr.out.less hsW).fr hf2.out (fun _ _ f=>f)),j1,hf2.out.blk h1.out id,hj1⟩
 | some q=>
  obtain⟨d,j2⟩:=q
  have hj2:=hgo d j2 hp
  have hst:=hide (show stepL (rdT s (envOf ds) pl f t) l j=some (l++[d],j2) by unfold stepL;rw[hp];rfl)
  replace hp:=hide hp
  obtain⟨ti,hi1,hi2,hi3,hi4⟩:=info_parts i_Datum2
  go_enter Tryz.func144,Tryz.ntmps144
  go_wp2_with (first
   |(go_at_call 83;refine hC.out.mono ?_;rintro e w1 ⟨v1,ev1,rfl,hf1,hm⟩;rw[hp.out] at hm;obtain⟨rfl,hDv,h1,hj1⟩:=hm;obtain⟨dT,dx,rfl⟩:=hDv.iface;have L1:=L.out.call h1 hf1 hj1 (by omega);obtain⟨lv,q1,Y,q2,qY⟩:=L.out.row;have r3:=hide q2.lt;have r1:=hf1.blk q1 (by omega);have r2:=ownsRow_fr q2 hf1 (fun g hg e=>(by have:=q2.lt g hg;omega));have rY:=hide (fun i d (e:l[i]?=some d)=>(qY i d e).fr hf1 (fun g hg e=>(by omega)));obtain⟨la,lc,rfl⟩:=own_sl r2;replace hDv:=hide hDv;clear q1 q2 qY;have k0:=r1.cell 0;have kg:=r1.thaw 0;simp only[List.getElem?_cons_zero] at k0;have hB1:=L1.hB;replace L1:=hide L1;replace r1:=hide r1;replace r2:=hide r2;clear hf1 h1)
   |(at_builtin;go_must (refine wpList_append_own_at _ rfl _ _ 156 rfl (w.heap.size+3) 89 ti _ 1 16 u_DList hi1 hi2 hi3 hi4 rfl (by decide) (.slice la l.length lc) l.length ((List.range l.length).flatMap fun i=>[Y i]) rfl ?hown _ 1 1 [.iface dT dx] rfl rfl (news_new _ #[.iface dT dx] _ _ ?nn) ?one ?b1 ?b2 ?b3 ?_)
     case hown=>exact World.ownsRow.alloc r2.out _
     case nn=>simp
     case one=>simp[Value.oneCell']
     case b1=>unfold maxLen;omega
     case b2=>omega
     case b3=>simp;omega
     intro v5 w5 ho5 hg5 hn5 hl5
     have hF5:Fr w1 w5 (fun g=>(Value.slice la l.length lc).ownBlock=some g):=Fr.grown ((Fr.refl w1 _).alloc _) hg5 (fun k e _=>e)
     have e5:=(hF5.blk r1.out (fun e=>by have:=r2.out.lt _ e;omega)).cell 0
     have f5:=(hF5.blk r1.out (fun e=>by have:=r2.out.lt _ e;omega)).thaw 0
     have R5:=hF5.blk r1.out (fun e=>by have:=r2.out.lt _ e;omega)
     simp only[List.getElem?_cons_zero] at e5
     have hn5':∀ g,v5.ownBlock=some g→w.heap.size+3≤g:=(fun g hg=>(ho5.lt g hg).1)
     obtain⟨g5,cap5,rfl⟩:=own_form ho5 (by omega)
     replace hF5:=hide hF5
     replace ho5:=hide ho5
     replace R5:=hide R5
     replace hn5':=hide hn5'
     have hl6:Hid ((Value.slice (some ⟨g5,0,none⟩) (l.length+1) cap5).ownBlock=(Value.slice la l.length lc).ownBlock∨∃ h,(Value.slice (some ⟨g5,0,none⟩) (l.length+1) cap5).ownBlock=some h∧w1.heap.size≤h):=hide (hl5.imp id (fun e=>⟨_,e,by simp⟩))
     clear hg5 hl5 hn5))
  try go_ret
  rw[hPOST.out]
  refine⟨_,rfl,?_⟩
  rw[hst.out]
  refine⟨rfl,hj2,?_⟩
  have hG:Fr w5 (w5.setCell ⟨w.heap.size+2,0,none⟩ (.slice (some ⟨g5,0,none⟩) (l.length+1) cap5)) (fun g=>g=w.heap.size+2):=(Fr.refl w5 (fun g=>g=w.heap.size+2)).setCell ⟨w.heap.size+2,0,none⟩ _ (fun _=>rfl)
  have hH:Fr w1 (w5.setCell ⟨w.heap.size+2,0,none⟩ (.slice (some ⟨g5,0,none⟩) (l.length+1) cap5)) (fun g=>w.heap.size+2≤g):=(hF5.out.mono (fun g _ e=>by have:=r2.out.lt g e;omega)).trans hG (fun g _ e=>by omega)
  have hM1:=L1.out.M
  have hbG:=hM1.brG
  have hl1:=L1.out.lt
  have hPl:∀ g,P g→¬ (w.heap.size+2≤g):=fun g hg=>by have:=hM1.Pbr g hg;omega
  exact⟨⟨hH.blk hM1.R (by omega),hM1.D.fr hH hPl,hM1.G.fr hH (by have:=hM1.lt;omega) (fun g e=>by omega),hM1.E,hM1.Pbr,hM1.brG,hM1.hs,hM1.il⟩,L1.out.fr.trans hH (fun g hg e=>by omega),L1.out.lt,Nat.le_trans L1.out.hB hH.size,hH.blk L1.out.b2 (by omega),hH.blk L1.out.b3 (by omega),L1.out.ty.fr hH hPl,by rw[List.length_append,List.length_singleton];omega,_,R5.out.set 0 _,RowD.grow (c:=w.heap.size+2) rY.out (hDv.out.mono (fun g _ hg=>⟨by have:=L.out.hB;omega,fun e=>by have:=r3.out g e;omega⟩)) ((hF5.out.mono (fun _ _ e=>.inl e)).trans hG (fun _ _ e=>.inr e)) (by omega) hl6.out (ownsRow_fr ho5.out hG (fun g hg e=>by have:=hn5'.out g hg;omega))⟩
open Go.RowKit
theorem li_start {w0 w:World}{P:Nat→Prop}{ss:ByteArray}{ds:List PD}{sv rv:Value}{xs:List Value}{s:ByteArray}{nt:TypeId}{nx:Value}{pl:Bool}{br i:Nat}{t:PT}{p:Int}{vT:TypeId}{vx:Value}(M:NC w0 P ss ds sv rv xs s nt nx pl br i w) (hT:TyV w P t (.iface vT vx)){W':World}(h:RdAt W' br sv rv s (i+1) (!pl)) (hf:Fr (((w.alloc (.cells #[.pointer (some ⟨br,0,none⟩)] 154)).alloc (.cells #[.int .i64 p,.iface vT vx] 205)).alloc (.cells #[.slice none 0 0] 156)) W' (· = br)) (hi:i+1≤s.size) :
 LI w0 w P ss ds sv rv xs s nt nx pl br i t p (.iface vT vx) [] (i+1) W':=by
 have hbl:=M.lt
 have A:Fr w (((w.alloc (.cells #[.pointer (some ⟨br,0,none⟩)] 154)).alloc (.cells #[.int .i64 p,.iface vT vx] 205)).alloc (.cells #[.slice none 0 0] 156)) (fun _=>False):=(((Fr.refl w _).alloc _).alloc _).alloc _
 have hz:(((w.alloc (.cells #[.pointer (some ⟨br,0,none⟩)] 154)).alloc (.cells #[.int .i64 p,.iface vT vx] 205)).alloc (.cells #[.slice none 0 0] 156)).heap.size=w.heap.size+3:=by simp
 have z1:(w.alloc (.cells #[.pointer (some ⟨br,0,none⟩)] 154)).heap.size=w.heap.size+1:=by simp
 have z2:((w.alloc (.cells #[.pointer (some ⟨br,0,none⟩)] 154)).alloc (.cells #[.int .i64 p,.iface vT vx] 205)).heap.size=w.heap.size+2:=by simp
 have B2:=((Blk.new w #[.pointer (some ⟨br,0,none⟩)] 154).alloc (.cells #[.int .i64 p,.iface vT vx] 205)).alloc (.cells #[.slice none 0 0] 156)
 have B3:=(Blk.new (w.alloc (.cells #[.pointer (some ⟨br,0,none⟩)] 154)) #[.int .i64 p,.iface vT vx] 205).alloc (.cells #[.slice none 0 0] 156)
 have B6:=Blk.new ((w.alloc (.cells #[.pointer (some ⟨br,0,none⟩)] 154)).alloc (.cells #[.int .i64 p,.iface vT vx] 205)) #[.slice none 0 0] 156
 rw[z1] at B3
 rw[z2] at B6
 have hsz:=hf.size
 exact⟨(M.new A).call h hf hi,(A.mono (fun _ _ f=>f.elim)).trans hf (fun _ _ e=>e),hbl,by omega,hf.blk B2 (by omega),hf.blk B3 (by omega),(hT.fr A (fun _ _ f=>f)).fr hf (fun g hg e=>M.brP (e▸hg)),by simp,_,hf.blk B6 (by omega),RowD.nil _ _ _⟩
set_option maxHeartbeats 8000000 in
set_option maxRecDepth 100000 in
theorem nlist_any {w0 w:World}{P:Nat→Prop}{ss:ByteArray}{ds:List PD}{sv rv:Value}{xs:List Value}{s:ByteArray}{nt:TypeId}{nx:Value}{pl:Bool}{br i:Nat}{t:PT}{p:Int}{vT:TypeId}{vx:Value}{f:Nat}(M:NC w0 P ss ds sv rv xs s nt nx pl br i w) (hT:TyV w P t (.iface vT vx)) (hI:ItoaOK w0) (hR:∀ j,i<j→j≤s.size→DatN w0 P ss ds sv rv xs s nt nx pl br f t j) :
 Calls Tryz.prog 118 #[.pointer (some ⟨br,0,none⟩),.agg #[.int .i64 p,.iface vT vx]] w (NPost w sv rv s nt nx pl br (rdWrap (rdT s (envOf ds) pl f t) s 91 i)):=by
 obtain⟨POST,hPOST⟩:∃ Q,Hid (Q=NPost w sv rv s nt nx pl br (rdWrap (rdT s (envOf ds) pl f t) s 91 i)):=⟨_,rfl⟩
 rw[← hPOST.out]
 have hs4:s.size≤4000:=by have:=M.hs;omega
 have A:Fr w (((w.alloc (.cells #[.pointer (some ⟨br,0,none⟩)] 154)).alloc (.cells #[.int .i64 p,.iface vT vx] 205)).alloc (.cells #[.slice none 0 0] 156)) (fun _=>False):=(((Fr.refl w _).alloc _).alloc _).alloc _
 have hgo:=rdT_goes s (envOf ds) pl f t
 have IT:ItemOK sv rv s nt nx pl br 144 #[.pointer (some ⟨w.heap.size,0,none⟩),.pointer (some ⟨w.heap.size+1,0,none⟩),.pointer (some ⟨w.heap.size+2,0,none⟩)] (stepL (rdT s (envOf ds) pl f t)) (fun l j W=>LI w0 w P ss ds sv rv xs s nt nx pl br i t p (.iface vT vx) l j W) (BadL w sv rv s nt nx pl br):=
  { F:=fun W=>by kernel_rfl
    R:=fun h=>⟨h.M.R,h.M.il,h.M.e⟩
    K:=fun h h1 h2 h3 h4=>h.call h1 h2 h3 (by have:=h.c;omega)
    B:=fun h=>⟨h.fr,.base,_,h.M.R,h.M.il⟩
    C:=fun {l j W} h=>(nlist1_any h hI (hR j (by have:=h.c;omega) h.M.il) (fun d j' e=>(hgo j d j' e).1)).mono (by
     rintro e W' ⟨v,he,hm⟩
     refine⟨v,he,?_⟩
     cases hq:stepL (rdT s (envOf ds) pl f t) l j with
     | none=>rw[hq] at hm;exact hm
     | some q=>obtain⟨a,b⟩:=q;rw[hq] at hm;exact hm) }
 have hC:=hide (nitems_any IT (w:=(((w.alloc (.cells #[.pointer (some ⟨br,0,none⟩)] 154)).alloc (.cells #[.int .i64 p,.iface vT vx] 205)).alloc (.cells #[.slice none 0 0] 156))) (σ:=([]:List DT)) (i:=i) (co:=91) (cf:=93) 91 93 (A.blk M.R id) M.il (fun W' h hf hi=>li_start M hT h hf hi) (fun W' h hf=>⟨⟨(A.mono (fun _ _ f=>f.elim)).trans hf (fun _ _ e=>e),.base,i,h,M.il⟩,((M.new A).call h hf M.il).e⟩) hs4 rfl rfl (by decide) (by decide))
 have hres:=hide (list_wrap (rdT s (envOf ds) pl f t) s i)
 clear IT A hgo hT hR hI M
 cases hp:listP (stepL (rdT s (envOf ds) pl f t)) s 91 93 [] i with
 | none=>
  rw[hp] at hres
  replace hp:=hide hp
  go_enter Tryz.func118,Tryz.ntmps118
  go_wp2_with (go_at_call 143;refine hC.out.mono ?_;rintro e w2 ⟨v2,rfl,hm⟩;rw[hp.out] at hm;obtain⟨⟨eT,ex,rfl⟩,hB⟩:=hm;replace hB:=hide hB)
  try go_ret
  rw[hPOST.out,hres.out]
  obtain⟨h1,h2,h3⟩:=hB.out
  exact⟨.nilIface,_,rfl,h1,rfl,h2,h3⟩
 | some q=>
  obtain⟨n2,j2⟩:=q
  rw[hp] at hres
  replace hp:=hide hp
  go_enter Tryz.func118,Tryz.ntmps118
  go_wp2_with (go_at_call 143;refine hC.out.mono ?_;rintro e w2 ⟨v2,rfl,hm⟩;rw[hp.out] at hm;obtain⟨rfl,hL⟩:=hm;obtain⟨lv,r1,r2⟩:=hL.row;obtain⟨ys,r3⟩:=r2.row;obtain⟨la,lc,rfl⟩:=own_sl r3;have k0:=r1.cell 0;simp only[List.getElem?_cons_zero] at k0;have hDv:=hide (r2.dat (Q:=fun g=>w.heap.size≤g) (fun g _ hg=>(by omega)) (fun g hg=>(by have:=r3.lt g hg;omega)) (.inl ⟨rfl,rfl⟩));replace hL:=hide hL;clear r1 r2 r3)
  try go_ret
  rw[hPOST.out,hres.out]
  exact nok hDv.out hL.out.fr hL.out.M.R hL.out.M.il
open Go.RowKit
def stepR (R:PT→Nat→Option (DT×Nat)) (fs:List PF) (l:List DT) (j:Nat):Option (List DT×Nat):=
 match fs[l.length]? with|none=>none|some g=>(R g.ty j).map (fun q=>(l++[q.1],q.2))
def closeN (len:Nat):Option (List DT×Nat)→Option (DT×Nat)
 | none=>none
 | some (l,j)=>if l.length<len then none else some (.mk 114 0 noB [] l,j)
def closeF (s:ByteArray) (l:List DT):Option (List DT×Nat)→Option (DT×Nat)
 | none=>none
 | some (r,e)=>if bt s e=41 then some (.mk 114 0 noB [] (l++r),e+1) else none
theorem items_fields (R:PT→Nat→Option (DT×Nat)) (s:ByteArray) (fs:List PF) (hgo:∀ t,Goes s (R t)):∀ N l j,l.length<fs.length→j≤s.size→s.size+1-j≤N→
 closeN fs.length (itemsP (stepR R fs) s 41 N l j)=closeF s l (rdFields R s true ((fs.drop l.length).map PF.ty) j):=by
 intro N
 induction N with
 | zero=>intro l j _ hj hN;omega
 | succ N ih=>
  intro l j hk hj hN
  rw[itemsP,List.drop_eq_getElem_cons hk,List.map_cons,rdFields,if_pos rfl]
  simp only[stepR,List.getElem?_eq_getElem hk]
  cases hR:R (fs[l.length]).ty j with
  | none=>rfl
  | some q=>
   obtain⟨d,j'⟩:=q
   have hj':=hgo _ j d j' hR
   have hll:(l++[d]).length=l.length+1:=by simp
   simp only[Option.map_some]
   by_cases h41:bt s j'=41
   ·rw[if_pos h41]
    by_cases hk1:l.length+1<fs.length
    ·rw[List.drop_eq_getElem_cons hk1,List.map_cons,rdFields]
     simp only[Bool.false_eq_true,if_false]
     rw[if_neg (by omega)]
     simp only[closeN,closeF]
     rw[if_pos (by omega)]
    ·rw[List.drop_eq_nil_of_le (by omega),List.map_nil,rdFields]
     simp only[closeN,closeF]
     rw[if_neg (by omega),if_pos h41]
   ·rw[if_neg h41]
    by_cases h44:bt s j'=44
    ·rw[if_pos h44]
     have hlt:=bt_pos (s:=s) (i:=j') (by omega)
     by_cases hk1:l.length+1<fs.length
     ·have:=ih (l++[d]) (j'+1) (by omega) hlt (by omega)
      rw[this,hll]
      rw[List.drop_eq_getElem_cons hk1,List.map_cons,rdFields,rdFields,if_pos rfl]
      simp only[Bool.false_eq_true,if_false]
      rw[if_pos h44]
      cases R (fs[l.length+1]).ty (j'+1) with
      | none=>rfl
      | some q=>
       obtain⟨d2,j2⟩:=q
       simp only
       cases rdFields R s false ((fs.drop (l.length+1+1)).map PF.ty) j2 with
       | none=>rfl
       | some q=>
        simp only[closeF,List.append_assoc,List.cons_append,List.nil_append]
     ·rw[List.drop_eq_nil_of_le (by omega),List.map_nil,rdFields]
      have hn:itemsP (stepR R fs) s 41 N (l++[d]) (j'+1)=none:=by
       cases N with
       | zero=>rfl
       | succ N=>rw[itemsP];simp only[stepR];rw[List.getElem?_eq_none (by omega)]
      rw[hn]
      simp only[closeN,closeF]
      rw[if_neg h41]
    ·rw[if_neg h44]
     by_cases hk1:l.length+1<fs.length
     ·rw[List.drop_eq_getElem_cons hk1,List.map_cons,rdFields]
      simp only[Bool.false_eq_true,if_false]
      rw[if_neg h44]
      rfl
     ·rw[List.drop_eq_nil_of_le (by omega),List.map_nil,rdFields]
      simp only[closeN,closeF]
      rw[if_neg h41]
def smEnv (env:Nat→Option PB):Prop:=∀ c l o,env c=some (.enum l o)→∀ q∈l,isSmall q.1=true
theorem rdT_41 {s:ByteArray}{env:Nat→Option PB}{pl:Bool}(hsm:smEnv env){i:Nat}(h:bt s i=41):∀ (f:Nat) (t:PT),okT env t→rdT s env pl f t i=none:=by
 intro f
 induction f with
 | zero=>intro t _;rfl
 | succ f ih=>
  intro t ht
  cases t with
  | leaf c p=>
   rw[rdT]
   unfold rdLeaf
   split
   ·rw[if_neg (by omega)]
   ·split
    ·rw[if_neg (by omega),if_neg (by omega)]
    ·split
     ·have hno:rdNum s c i=none:=by
       unfold rdNum
       rw[if_neg]
       intro hq
       have hz:(numTx s i).size=0:=by
        unfold numTx numEnd
        have hsg:sgn s i=i:=by unfold sgn;rw[if_neg (by omega)]
        rw[hsg,runEnd_off (by omega),ByteArray.size_extract]
        omega
       exact absurd hq.1 (by omega)
      rw[hno]
     ·split
      ·rw[if_neg (by omega)]
      ·cases he:env c with
       | none=>rfl
       | some pb=>
        simp only
        unfold rdNamed
        cases pb with
        | recd fs=>simp only;rw[if_neg (by omega)]
        | enum l o=>
         simp only
         split
         ·have:(l.map Prod.fst).findIdx? (fun c=>c==bt s i)=none:=by
           rw[List.findIdx?_eq_none_iff]
           intro x hx
           obtain⟨q,hq,rfl⟩:=List.mem_map.1 hx
           have:=hsm c l o he q hq
           obtain⟨k,hk,_⟩:=small_k this
           rw[h,beq_eq_false_iff_ne]
           omega
          rw[this]
         ·rfl
        | bytes n=>simp only;rw[if_neg (by omega)]
  | wrap c p t=>
   unfold okT at ht
   rw[rdT]
   unfold rdWrap
   rw[if_neg (by omega)]
  | alts p ts=>
   rw[rdT]
   unfold rdBranch
   cases pl with
   | false=>rw[if_neg (by decide),if_neg (fun h'=>by omega)]
   | true=>
   rw[if_pos rfl]
   cases ts with
   | nil=>rfl
   | cons t r=>
    simp only
    have ht':okT env t:=by
     unfold okT at ht
     have h2:=ht.2
     unfold okTs at h2
     exact h2.2.1
    rw[ih t ht']
open Go.RowKit
structure RI (w0 w:World) (P:Nat→Prop) (ss:ByteArray) (ds:List PD) (sv rv:Value) (xs:List Value) (s:ByteArray) (nt:TypeId) (nx:Value) (pl:Bool) (br i:Nat) (fs:List PF) (p:Int) (fv:Value) (zs:List Value) (l:List DT) (j:Nat) (W:World):Prop where
 M:NC w0 P ss ds sv rv xs s nt nx pl br j W
 fr:Fr w W (· = br)
 lt:br<w.heap.size
 hB:w.heap.size+3≤W.heap.size
 b2:Blk W w.heap.size [.pointer (some ⟨br,0,none⟩)] 154
 b3:Blk W (w.heap.size+1) [.int .i64 p,fv] 211
 F:FlRow W P ss fs fv zs
 c:i+l.length<j
 nl:l.length≤fs.length
 row:∃ lv,Blk W (w.heap.size+2) [lv] 163∧RowD W (w.heap.size+3) (fun g=>w.heap.size+3≤g∧lv.ownBlock≠some g) lv l
section
variable {w0 w:World} {P:Nat→Prop} {ss:ByteArray} {ds:List PD} {sv rv:Value} {xs:List Value} {s:ByteArray} {nt:TypeId} {nx:Value} {pl:Bool} {br i:Nat} {fs:List PF} {p:Int} {fv:Value} {zs:List Value} {l:List DT} {j j':Nat} {W W':World}
theorem RI.call (L:RI w0 w P ss ds sv rv xs s nt nx pl br i fs p fv zs l j W) (h:RdAt W' br sv rv s j' (!pl)) (hf:Fr W W' (· = br)) (hj:j'≤s.size) (hc:i+l.length<j'):RI w0 w P ss ds sv rv xs s nt nx pl br i fs p fv zs l j' W':=by
 have h1:=L.lt
 obtain⟨lv,r1,r2⟩:=L.row
 obtain⟨ys,r3⟩:=r2.row
 exact⟨L.M.call h hf hj,L.fr.trans hf (fun _ _ e=>e),L.lt,Nat.le_trans L.hB hf.size,hf.blk L.b2 (by omega),hf.blk L.b3 (by omega),L.F.fr hf (fun g hg e=>L.M.brP (e▸hg)),hc,L.nl,lv,hf.blk r1 (by omega),r2.fr hf (fun g hg e=>by omega) (fun g hg e=>by have:=r3.lt g hg;omega)⟩
theorem RI.new (L:RI w0 w P ss ds sv rv xs s nt nx pl br i fs p fv zs l j W) (hf:Fr W W' (fun _=>False)):RI w0 w P ss ds sv rv xs s nt nx pl br i fs p fv zs l j W':=L.call (hf.blk L.M.R id) (hf.mono (fun _ _ f=>f.elim)) L.M.il L.c
end
theorem u_DRec:Tryz.prog.underlying 163=some (.slice 89):=by kernel_rfl
set_option maxHeartbeats 8000000 in
set_option maxRecDepth 100000 in
theorem nrec1_any {w0 w:World}{P:Nat→Prop}{ss:ByteArray}{ds:List PD}{sv rv:Value}{xs:List Value}{s:ByteArray}{nt:TypeId}{nx:Value}{pl:Bool}{br i:Nat}{fs:List PF}{p:Int}{fa:Option Addr}{fc:Nat}{zs:List Value}{ld:List DT}{j f:Nat}{W:World}(L:RI w0 w P ss ds sv rv xs s nt nx pl br i fs p (.slice fa fs.length fc) zs ld j W) (hsm:∀ g∈fs,isSmall g.letter=true) (hlen:fs.length≤300) (hR:∀ g∈fs,DatN w0 P ss ds sv rv xs s nt nx pl br f g.ty j) (hgo:∀ t d j',rdT s (envOf ds) pl f t j=some (d,j')→j<j') :
 Calls Tryz.prog 151 #[.pointer (some ⟨w.heap.size+2,0,none⟩),.pointer (some ⟨w.heap.size+1,0,none⟩),.pointer (some ⟨w.heap.size,0,none⟩)] W fun e W'=>∃ v,e=.returned v∧match stepR (rdT s (envOf ds) pl f) fs ld j with|some (l',j')=>v=.nilIface∧j<j'∧RI w0 w P ss ds sv rv xs s nt nx pl br i fs p (.slice fa fs.length fc) zs l' j' W'|none=>(∃ T x,v=.iface T x)∧BadL w sv rv s nt nx pl br v W':=by
 obtain⟨POST,hPOST⟩:∃ Q,Hid (Q=fun (e:Ending) (W':World)=>∃ v,e=.returned v∧match stepR (rdT s (envOf ds) pl f) fs ld j with|some (l',j')=>v=.nilIface∧j<j'∧RI w0 w P ss ds sv rv xs s nt nx pl br i fs p (.slice fa fs.length fc) zs l' j' W'|none=>(∃ T x,v=.iface T x)∧BadL w sv rv s nt nx pl br v W'):=⟨_,rfl⟩
 rw[← hPOST.out]
 have c20:=L.b2.cell 0
 have c31:=L.b3.cell 1
 simp only[List.getElem?_cons_zero,List.getElem?_cons_succ] at c20 c31
 have hjs:=L.M.il
 have hs3:=L.M.hs
 have hcn:=L.c
 have hlt:=L.lt
 have hnl:=L.nl
 have hBW:=L.hB
 have l2:w.heap.size<W.heap.size:=by omega
 obtain⟨lv,r1,Y,r2,rY⟩:=L.row
 obtain⟨la,lc,rfl⟩:=own_sl r2
 obtain⟨n,hnn⟩:∃ n,ld.length=n:=⟨_,rfl⟩
 rw[hnn] at r1 r2 rY hnl hcn
 have k0:=r1.cell 0
 simp only[List.getElem?_cons_zero] at k0
 by_cases hn:n=fs.length
 ·have hst:=hide (show stepR (rdT s (envOf ds) pl f) fs ld j=none by unfold stepR;rw[List.getElem?_eq_none (by omega)])
  have e0:=L.M.e
  replace L:=hide L
  subst hn
  clear r1 r2 rY hR hgo hnn
  go_enter Tryz.func151,Tryz.ntmps151
  go_wp2_with fail
  try go_ret
  rw[hPOST.out]
  refine⟨_,rfl,?_⟩
  rw[hst.out]
  exact⟨⟨_,_,rfl⟩,L.out.fr,.base,j,L.out.M.R,L.out.M.il⟩
 ·have hlt':n<fs.length:=by omega
  have hneq:((n:Int)==(fs.length:Int))=false:=by simp;omega
  have hd:fs[n]?=some fs[n]:=List.getElem?_eq_getElem hlt'
  have hmem:fs[n]∈fs:=List.getElem_mem hlt'
  generalize fs[n]=g0 at hd hmem
  have hni:(n:Int)<(fs.length:Int):=by omega
  obtain⟨g,cap,hgc⟩:=own_form L.F.row (by omega)
  cases hgc
  obtain⟨T,x,d0,c0,c1,c2,c3,hT,hDf⟩:=L.F.cells hd
  obtain⟨l,hl0⟩:∃ l,g0.letter=l:=⟨_,rfl⟩
  obtain⟨plq,hplq⟩:∃ q,g0.place=q:=⟨_,rfl⟩
  have hls:isSmall l=true:=by rw[← hl0];exact hsm _ hmem
  rw[hl0] at c1
  rw[hplq] at c0
  have A1:=(Fr.refl W (fun _=>False)).alloc (.cells #[.int .i64 (plq:Int),.int .u8 (l:Int),.iface T x,.pointer d0] 149)
  have N1:=Blk.new W #[.int .i64 (plq:Int),.int .u8 (l:Int),.iface T x,.pointer d0] 149
  have L1:=L.new A1
  have hC:=hide (hR _ hmem _ _ L1.M (hT.fr A1 (fun _ _ f=>f)))
  have hz1:(W.alloc (.cells #[.int .i64 (plq:Int),.int .u8 (l:Int),.iface T x,.pointer d0] 149)).heap.size=W.heap.size+1:=by simp
  replace hz1:=hide hz1
  replace L1:=hide L1
  replace N1:=hide N1
  replace r2:=hide r2
  replace rY:=hide rY
  replace L:=hide L
  replace hnn:=hide hnn
  replace r1:=hide r1
  have hA1:=hide A1
  clear hl0 hplq hT hDf hR A1
  cases hp:rdT s (envOf ds) pl f g0.ty j with
  | none=>
   have hst:=hide (show stepR (rdT s (envOf ds) pl f) fs ld j=none by unfold stepR;rw[hnn.out,hd];simp only;rw[hp];rfl)
   replace hp:=hide hp
   go_enter Tryz.func151,Tryz.ntmps151
   go_wp2_with (first
    |(go_at_call 83;refine hC.out.mono ?_;rintro e w1 ⟨v1,ev1,rfl,hf1,hm⟩;rw[hp.out] at hm;obtain⟨rfl,hErr,j1,h1,hj1⟩:=hm;obtain⟨eT,ex,rfl⟩:=hErr.iface;have n1:=(hf1.blk N1.out (by omega)).cell 1;simp only[List.getElem?_cons_zero,List.getElem?_cons_succ] at n1;replace hf1:=hide hf1;replace hErr:=hide hErr;replace h1:=hide h1)
    |(go_at_call 152;refine(inField_any hls).mono ?_;intro e w2 hW;obtain⟨g2,tx2,rfl,hg2,hb2,hf2⟩:=hW;replace hf2:=hide hf2;replace hb2:=hide hb2))
   try go_ret
   rw[hPOST.out]
   refine⟨_,rfl,?_⟩
   rw[hst.out]
   have hF1:=L1.out.fr.trans hf1.out (fun _ _ e=>e)
   have hs1:=hF1.size
   have hsW:=L1.out.fr.size
   exact⟨⟨_,_,rfl⟩,hF1.trans hf2.out (fun _ _ f=>f.elim),.within g2 (by omega) tx2 hb2.out ((hErr.out.less hsW).fr hf2.out (fun _ _ f=>f)),j1,hf2.out.blk h1.out id,hj1⟩
  | some q=>
   obtain⟨d,j2⟩:=q
   have hj2:=hgo _ d j2 hp
   have hst:=hide (show stepR (rdT s (envOf ds) pl f) fs ld j=some (ld++[d],j2) by unfold stepR;rw[hnn.out,hd];simp only;rw[hp];rfl)
   replace hp:=hide hp
   obtain⟨ti,hi1,hi2,hi3,hi4⟩:=info_parts i_Datum2
   clear hgo
   go_enter Tryz.func151,Tryz.ntmps151
   go_wp2_with (first
    |(go_at_call 83;refine hC.out.mono ?_;rintro e w1 ⟨v1,ev1,rfl,hf1,hm⟩;rw[hp.out] at hm;obtain⟨rfl,hDv,h1,hj1⟩:=hm;obtain⟨dT,dx,rfl⟩:=hDv.iface;have L2:=L1.out.call h1 hf1 hj1 (by rw[hnn.out];omega);clear k0 c20 c31;have r4:=(hf1.blk (hA1.out.blk r1.out id) (by omega));have r3:=ownsRow_fr (ownsRow_fr r2.out hA1.out (fun _ _ f=>f)) hf1 (fun g hg e=>(by have:=r2.out.lt g hg;omega));have rY1:=hide (fun i d (e:ld[i]?=some d)=>((rY.out i d e).fr hA1.out (fun _ _ f=>f)).fr hf1 (fun g hg e=>(by omega)));replace hDv:=hide hDv;have k0:=r4.cell 0;have kg:=r4.thaw 0;simp only[List.getElem?_cons_zero] at k0;have hB1:=L2.hB;replace L2:=hide L2;replace r4:=hide r4;replace r3:=hide r3;clear hf1 h1)
    |(at_builtin;go_must (refine wpList_append_own_at _ rfl _ _ 163 rfl (w.heap.size+3) 89 ti _ 1 16 u_DRec hi1 hi2 hi3 hi4 rfl (by decide) (.slice la n lc) n ((List.range n).flatMap fun i=>[Y i]) rfl ?hown _ 1 1 [.iface dT dx] rfl rfl (news_new _ #[.iface dT dx] _ _ ?nn) ?one ?b1 ?b2 ?b3 ?_)
      case hown=>exact World.ownsRow.alloc r3.out _
      case nn=>simp
      case one=>simp[Value.oneCell']
      case b1=>unfold maxLen;omega
      case b2=>omega
      case b3=>simp;omega
      intro v5 w5 ho5 hg5 hn5 hl5
      have hF5:Fr w1 w5 (fun g=>(Value.slice la n lc).ownBlock=some g):=Fr.grown ((Fr.refl w1 _).alloc _) hg5 (fun k e _=>e)
      have R5:=hF5.blk r4.out (fun e=>by have:=r3.out.lt _ e;omega)
      have e5:=R5.cell 0
      have f5:=R5.thaw 0
      simp only[List.getElem?_cons_zero] at e5
      have hn5':∀ g,v5.ownBlock=some g→w.heap.size+3≤g:=(fun g hg=>(ho5.lt g hg).1)
      obtain⟨g5,cap5,rfl⟩:=own_form ho5 (by omega)
      replace hF5:=hide hF5
      replace ho5:=hide ho5
      replace R5:=hide R5
      replace hn5':=hide hn5'
      have hl6:Hid ((Value.slice (some ⟨g5,0,none⟩) (n+1) cap5).ownBlock=(Value.slice la n lc).ownBlock∨∃ h,(Value.slice (some ⟨g5,0,none⟩) (n+1) cap5).ownBlock=some h∧w1.heap.size≤h):=hide (hl5.imp id (fun e=>⟨_,e,by simp⟩))
      clear hg5 hl5 hn5))
   try go_ret
   rw[hPOST.out]
   refine⟨_,rfl,?_⟩
   rw[hst.out]
   refine⟨rfl,hj2,?_⟩
   have hG:Fr w5 (w5.setCell ⟨w.heap.size+2,0,none⟩ (.slice (some ⟨g5,0,none⟩) (n+1) cap5)) (fun g=>g=w.heap.size+2):=(Fr.refl w5 (fun g=>g=w.heap.size+2)).setCell ⟨w.heap.size+2,0,none⟩ _ (fun _=>rfl)
   have hH:Fr w1 (w5.setCell ⟨w.heap.size+2,0,none⟩ (.slice (some ⟨g5,0,none⟩) (n+1) cap5)) (fun g=>w.heap.size+2≤g):=(hF5.out.mono (fun g _ e=>by have:=r3.out.lt g e;omega)).trans hG (fun g _ e=>by omega)
   have hM1:=L2.out.M
   have hbG:=hM1.brG
   have hl1:=L2.out.lt
   have hPl:∀ g,P g→¬ (w.heap.size+2≤g):=fun g hg=>by have:=hM1.Pbr g hg;omega
   exact⟨⟨hH.blk hM1.R (by omega),hM1.D.fr hH hPl,hM1.G.fr hH (by have:=hM1.lt;omega) (fun g e=>by omega),hM1.E,hM1.Pbr,hM1.brG,hM1.hs,hM1.il⟩,L2.out.fr.trans hH (fun g hg e=>by omega),L2.out.lt,Nat.le_trans L2.out.hB hH.size,hH.blk L2.out.b2 (by omega),hH.blk L2.out.b3 (by omega),L2.out.F.fr hH hPl,by rw[List.length_append,hnn.out,List.length_singleton];omega,by rw[List.length_append,hnn.out,List.length_singleton];omega,_,R5.out.set 0 _,RowD.grow (c:=w.heap.size+2) rY1.out (hDv.out.mono (fun g _ hg=>⟨by have:=L.out.hB;rw[hz1.out] at hg;omega,fun e=>by have:=r2.out.lt g e;rw[hz1.out] at hg;omega⟩)) ((hF5.out.mono (fun _ _ e=>.inl e)).trans hG (fun _ _ e=>.inr e)) (by omega) hl6.out (by rw[hnn.out];exact ownsRow_fr ho5.out hG (fun g hg e=>by have:=hn5'.out g hg;omega))⟩
open Go.RowKit
theorem rec_named {s:ByteArray}{env:Nat→Option PB}{pl:Bool}{f i:Nat}{fs:List PF}(hsm:smEnv env) (hok:∀ g∈fs,okT env g.ty) :
 closeN fs.length (listP (stepR (rdT s env pl f) fs) s 40 41 [] i)=rdNamed (rdT s env pl f) s (.recd fs) i:=by
 unfold listP rdNamed
 simp only
 by_cases h40:bt s i=40
 ·rw[if_pos h40,if_pos h40]
  have hlt:=bt_pos (s:=s) (i:=i) (by omega)
  by_cases h41:bt s (i+1)=41
  ·rw[if_pos h41]
   cases fs with
   | nil=>
    simp only[List.map_nil,rdFields,closeN]
    rw[if_pos h41]
    rfl
   | cons g r=>
    rw[List.map_cons,rdFields,if_pos rfl,rdT_41 hsm h41 f g.ty (hok g (by simp))]
    rfl
  ·rw[if_neg h41]
   cases hfs:fs with
   | nil=>
    rw[itemsP]
    simp only[stepR,List.getElem?_nil,List.map_nil,rdFields,closeN]
    rw[if_neg h41]
   | cons g r=>
    rw[← hfs]
    have h:=items_fields (rdT s env pl f) s fs (rdT_goes s env pl f) (s.size+2) [] (i+1) (by rw[hfs];simp) hlt (by omega)
    rw[h]
    simp only[List.length_nil,List.drop_zero]
    cases rdFields (rdT s env pl f) s true (fs.map PF.ty) (i+1) with
    | none=>rfl
    | some q=>
     obtain⟨l,e⟩:=q
     rfl
 ·rw[if_neg h40,if_neg h40]
  rfl
theorem ri_start {w0 w:World}{P:Nat→Prop}{ss:ByteArray}{ds:List PD}{sv rv:Value}{xs:List Value}{s:ByteArray}{nt:TypeId}{nx:Value}{pl:Bool}{br i:Nat}{fs:List PF}{p:Int}{fa:Option Addr}{fc:Nat}{zs:List Value}(M:NC w0 P ss ds sv rv xs s nt nx pl br i w) (hF:FlRow w P ss fs (.slice fa fs.length fc) zs){W':World}(h:RdAt W' br sv rv s (i+1) (!pl)) (hf:Fr (((w.alloc (.cells #[.pointer (some ⟨br,0,none⟩)] 154)).alloc (.cells #[.int .i64 p,.slice fa fs.length fc] 211)).alloc (.cells #[.slice none 0 0] 163)) W' (· = br)) (hi:i+1≤s.size) :
 RI w0 w P ss ds sv rv xs s nt nx pl br i fs p (.slice fa fs.length fc) zs [] (i+1) W':=by
 have hbl:=M.lt
 have A:Fr w (((w.alloc (.cells #[.pointer (some ⟨br,0,none⟩)] 154)).alloc (.cells #[.int .i64 p,.slice fa fs.length fc] 211)).alloc (.cells #[.slice none 0 0] 163)) (fun _=>False):=(((Fr.refl w _).alloc _).alloc _).alloc _
 have hz:(((w.alloc (.cells #[.pointer (some ⟨br,0,none⟩)] 154)).alloc (.cells #[.int .i64 p,.slice fa fs.length fc] 211)).alloc (.cells #[.slice none 0 0] 163)).heap.size=w.heap.size+3:=by simp
 have z1:(w.alloc (.cells #[.pointer (some ⟨br,0,none⟩)] 154)).heap.size=w.heap.size+1:=by simp
 have z2:((w.alloc (.cells #[.pointer (some ⟨br,0,none⟩)] 154)).alloc (.cells #[.int .i64 p,.slice fa fs.length fc] 211)).heap.size=w.heap.size+2:=by simp
 have B2:=((Blk.new w #[.pointer (some ⟨br,0,none⟩)] 154).alloc (.cells #[.int .i64 p,.slice fa fs.length fc] 211)).alloc (.cells #[.slice none 0 0] 163)
 have B3:=(Blk.new (w.alloc (.cells #[.pointer (some ⟨br,0,none⟩)] 154)) #[.int .i64 p,.slice fa fs.length fc] 211).alloc (.cells #[.slice none 0 0] 163)
 have B6:=Blk.new ((w.alloc (.cells #[.pointer (some ⟨br,0,none⟩)] 154)).alloc (.cells #[.int .i64 p,.slice fa fs.length fc] 211)) #[.slice none 0 0] 163
 rw[z1] at B3
 rw[z2] at B6
 have hsz:=hf.size
 exact⟨(M.new A).call h hf hi,(A.mono (fun _ _ f=>f.elim)).trans hf (fun _ _ e=>e),hbl,by omega,hf.blk B2 (by omega),hf.blk B3 (by omega),(hF.fr A (fun _ _ f=>f)).fr hf (fun g hg e=>M.brP (e▸hg)),by simp,Nat.zero_le _,_,hf.blk B6 (by omega),RowD.nil _ _ _⟩
set_option maxHeartbeats 8000000 in
set_option maxRecDepth 100000 in
theorem nrecord_any {w0 w:World}{P:Nat→Prop}{ss:ByteArray}{ds:List PD}{sv rv:Value}{xs:List Value}{s:ByteArray}{nt:TypeId}{nx:Value}{pl:Bool}{br i:Nat}{fs:List PF}{p:Int}{fa:Option Addr}{fc:Nat}{zs:List Value}{f:Nat}(M:NC w0 P ss ds sv rv xs s nt nx pl br i w) (hF:FlRow w P ss fs (.slice fa fs.length fc) zs) (hsm:∀ g∈fs,isSmall g.letter=true) (hlen:fs.length≤300) (hse:smEnv (envOf ds)) (hok:∀ g∈fs,okT (envOf ds) g.ty) (hR:∀ g∈fs,∀ j,i<j→j≤s.size→DatN w0 P ss ds sv rv xs s nt nx pl br f g.ty j) :
 Calls Tryz.prog 121 #[.pointer (some ⟨br,0,none⟩),.agg #[.int .i64 p,.slice fa fs.length fc]] w (NPost w sv rv s nt nx pl br (rdNamed (rdT s (envOf ds) pl f) s (.recd fs) i)):=by
 obtain⟨POST,hPOST⟩:∃ Q,Hid (Q=NPost w sv rv s nt nx pl br (rdNamed (rdT s (envOf ds) pl f) s (.recd fs) i)):=⟨_,rfl⟩
 rw[← hPOST.out]
 have hs4:s.size≤4000:=by have:=M.hs;omega
 have A:Fr w (((w.alloc (.cells #[.pointer (some ⟨br,0,none⟩)] 154)).alloc (.cells #[.int .i64 p,.slice fa fs.length fc] 211)).alloc (.cells #[.slice none 0 0] 163)) (fun _=>False):=(((Fr.refl w _).alloc _).alloc _).alloc _
 have hgo:=rdT_goes s (envOf ds) pl f
 have IT:ItemOK sv rv s nt nx pl br 151 #[.pointer (some ⟨w.heap.size+2,0,none⟩),.pointer (some ⟨w.heap.size+1,0,none⟩),.pointer (some ⟨w.heap.size,0,none⟩)] (stepR (rdT s (envOf ds) pl f) fs) (fun l j W=>RI w0 w P ss ds sv rv xs s nt nx pl br i fs p (.slice fa fs.length fc) zs l j W) (BadL w sv rv s nt nx pl br):=
  { F:=fun W=>by kernel_rfl
    R:=fun h=>⟨h.M.R,h.M.il,h.M.e⟩
    K:=fun h h1 h2 h3 h4=>h.call h1 h2 h3 (by have:=h.c;omega)
    B:=fun h=>⟨h.fr,.base,_,h.M.R,h.M.il⟩
    C:=fun {l j W} h=>(nrec1_any h hsm hlen (fun g hg=>hR g hg j (by have:=h.c;omega) h.M.il) (fun t d j' e=>(hgo t j d j' e).1)).mono (by
     rintro e W' ⟨v,he,hm⟩
     refine⟨v,he,?_⟩
     cases hq:stepR (rdT s (envOf ds) pl f) fs l j with
     | none=>rw[hq] at hm;exact hm
     | some q=>obtain⟨a,b⟩:=q;rw[hq] at hm;exact hm) }
 have hC:=hide (nitems_any IT (w:=(((w.alloc (.cells #[.pointer (some ⟨br,0,none⟩)] 154)).alloc (.cells #[.int .i64 p,.slice fa fs.length fc] 211)).alloc (.cells #[.slice none 0 0] 163))) (σ:=([]:List DT)) (i:=i) (co:=40) (cf:=41) 40 41 (A.blk M.R id) M.il (fun W' h hf hi=>ri_start M hF h hf hi) (fun W' h hf=>⟨⟨(A.mono (fun _ _ f=>f.elim)).trans hf (fun _ _ e=>e),.base,i,h,M.il⟩,((M.new A).call h hf M.il).e⟩) hs4 rfl rfl (by decide) (by decide))
 have hres:=hide (rec_named (s:=s) (pl:=pl) (f:=f) (i:=i) hse hok)
 clear IT A hgo hF hR M hok hsm
 cases hp:listP (stepR (rdT s (envOf ds) pl f) fs) s 40 41 [] i with
 | none=>
  rw[hp] at hres
  replace hp:=hide hp
  go_enter Tryz.func121,Tryz.ntmps121
  go_wp2_with (go_at_call 143;refine hC.out.mono ?_;rintro e w2 ⟨v2,rfl,hm⟩;rw[hp.out] at hm;obtain⟨⟨eT,ex,rfl⟩,hB⟩:=hm;replace hB:=hide hB)
  try go_ret
  rw[hPOST.out,← hres.out]
  obtain⟨h1,h2,h3⟩:=hB.out
  exact⟨.nilIface,_,rfl,h1,rfl,h2,h3⟩
 | some q=>
  obtain⟨l2,j2⟩:=q
  rw[hp] at hres
  replace hp:=hide hp
  obtain⟨n2,hn2⟩:∃ n,l2.length=n:=⟨_,rfl⟩
  by_cases hn:n2<fs.length
  ·have hn':(n2:Int)<(fs.length:Int):=by omega
   rw[show closeN fs.length (some (l2,j2))=none from if_pos (by omega)] at hres
   replace hn2:=hide hn2
   go_enter Tryz.func121,Tryz.ntmps121
   go_wp2_with (go_at_call 143;refine hC.out.mono ?_;rintro e w2 ⟨v2,rfl,hm⟩;rw[hp.out] at hm;obtain⟨rfl,hL⟩:=hm;obtain⟨lv,r1,r2⟩:=hL.row;obtain⟨ys,r3⟩:=r2.row;obtain⟨la,lc,rfl⟩:=own_sl r3;rw[hn2.out] at r1;have k0:=r1.cell 0;have c31:=hL.b3.cell 1;have e0:=hL.M.e;simp only[List.getElem?_cons_zero,List.getElem?_cons_succ] at k0 c31;replace hL:=hide hL;clear r1 r2 r3)
   go_quiet (fail)
   go_wp2_with fail
   try go_ret
   rw[hPOST.out,← hres.out]
   exact nerr (hL.out.fr.still (Still.drewN _ _)) (hL.out.M.R.still (Still.drewN _ _)) hL.out.M.il
  ·have hn':¬ ((n2:Int)<(fs.length:Int)):=by omega
   rw[show closeN fs.length (some (l2,j2))=some (.mk 114 0 noB [] l2,j2) from if_neg (by omega)] at hres
   replace hn2:=hide hn2
   go_enter Tryz.func121,Tryz.ntmps121
   go_wp2_with (go_at_call 143;refine hC.out.mono ?_;rintro e w2 ⟨v2,rfl,hm⟩;rw[hp.out] at hm;obtain⟨rfl,hL⟩:=hm;obtain⟨lv,r1,r2⟩:=hL.row;obtain⟨ys,r3⟩:=r2.row;obtain⟨la,lc,rfl⟩:=own_sl r3;have hDv:=r2.dat (Q:=fun g=>w.heap.size≤g) (fun g _ hg=>(by omega)) (fun g hg=>(by have:=r3.lt g hg;omega)) (.inr ⟨rfl,rfl⟩);rw[hn2.out] at r1 hDv;replace hDv:=hide hDv;have k0:=r1.cell 0;have c31:=hL.b3.cell 1;simp only[List.getElem?_cons_zero,List.getElem?_cons_succ] at k0 c31;replace hL:=hide hL;clear r1 r2 r3)
   try go_ret
   rw[hPOST.out,← hres.out]
   exact nok hDv.out hL.out.fr hL.out.M.R hL.out.M.il
def oneB (k:Nat):Option (DT×Nat)→Option (DT×Nat)
 | none=>none
 | some (d,j)=>some (.mk 40 (k:Int) noB [] [d],j)
set_option maxHeartbeats 8000000 in
set_option maxRecDepth 100000 in
theorem nbranch_any {w0 w:World}{P:Nat→Prop}{ss:ByteArray}{ds:List PD}{sv rv:Value}{xs:List Value}{s:ByteArray}{nt:TypeId}{nx:Value}{pl:Bool}{br i:Nat}{t:PT}{n k:Nat}{p:Int}{bv:Value}{f:Nat}{X:Nat→Value}(M:NC w0 P ss ds sv rv xs s nt nx pl br i w) (ho:w.ownsRow 0 83 1 bv n ((List.range n).map X)) (hkn:k<n) (hk4:k≤4000) (hX:TyV w P t (X k)) (hI:ItoaOK w0) (hR:DatN w0 P ss ds sv rv xs s nt nx pl br f t i) :
 Calls Tryz.prog 150 #[.pointer (some ⟨br,0,none⟩),.agg #[.int .i64 p,bv],.int .i64 (k:Int)] w (NPost w sv rv s nt nx pl br (oneB k (rdT s (envOf ds) pl f t i))):=by
 obtain⟨POST,hPOST⟩:∃ Q,Hid (Q=NPost w sv rv s nt nx pl br (oneB k (rdT s (envOf ds) pl f t i))):=⟨_,rfl⟩
 rw[← hPOST.out]
 obtain⟨g,cap,rfl⟩:=own_form ho (by omega)
 obtain⟨T,x,hx⟩:=hX.iface
 have c0:=own_cell ho rfl (k:=k) (x:=X k) (by simp[hkn])
 rw[hx] at c0 hX
 have A:Fr w (w.alloc (.cells #[.int .i64 p,.slice (some ⟨g,0,none⟩) n cap] 220)) (fun _=>False):=(Fr.refl w _).alloc _
 have M0:=M.new A
 have hgl:=World.block_lt_of_cell? w ⟨g,k,none⟩ c0
 have hC:=hide (hR _ _ M0 (hX.fr A (fun _ _ f=>f)))
 have hn0:(k:Int)<(n:Int):=by omega
 have hsz:=A.size
 replace A:=hide A
 replace M0:=hide M0
 clear ho hX hR M hx
 cases hp:rdT s (envOf ds) pl f t i with
 | none=>
  replace hp:=hide hp
  go_enter Tryz.func150,Tryz.ntmps150
  go_wp2_with (first
   |(go_at_call 83;refine hC.out.mono ?_;rintro e w1 ⟨v1,ev1,rfl,hf1,hm⟩;rw[hp.out] at hm;obtain⟨rfl,hErr,j1,h1,hj1⟩:=hm;obtain⟨eT,ex,rfl⟩:=hErr.iface;have G1:=(M0.out.call h1 hf1 hj1).G;replace hf1:=hide hf1;replace hErr:=hide hErr;replace h1:=hide h1;replace G1:=hide G1)
   |(go_at_call 158;refine(inBranch_any (n:=k) hI G1.out hk4).mono ?_;intro e w2 hW;obtain⟨g2,tx2,rfl,hg2,hb2,hf2⟩:=hW;replace hf2:=hide hf2;replace hb2:=hide hb2))
  try go_ret
  rw[hPOST.out,hp.out]
  have hF1:=(A.out.mono (T:=fun g=>g=br) (fun _ _ f=>f.elim)).trans hf1.out (fun _ _ e=>e)
  have hs1:=hF1.size
  exact⟨.nilIface,_,rfl,hF1.trans hf2.out (fun _ _ f=>f.elim),rfl,.within g2 (by omega) tx2 hb2.out ((hErr.out.less hsz).fr hf2.out (fun _ _ f=>f)),j1,hf2.out.blk h1.out id,hj1⟩
 | some q=>
  obtain⟨d,j2⟩:=q
  replace hp:=hide hp
  go_enter Tryz.func150,Tryz.ntmps150
  go_wp2_with (go_at_call 83;refine hC.out.mono ?_;rintro e w1 ⟨v1,ev1,rfl,hf1,hm⟩;rw[hp.out] at hm;obtain⟨rfl,hDv,h1,hj1⟩:=hm;obtain⟨dT,dx,rfl⟩:=hDv.iface;replace hDv:=hide hDv;replace hf1:=hide hf1;replace h1:=hide h1)
  try go_ret
  rw[hPOST.out,hp.out]
  exact nok (.branch k hk4 (hDv.out.mono (fun g _ hg=>by omega))) ((A.out.mono (T:=fun g=>g=br) (fun _ _ f=>f.elim)).trans hf1.out (fun _ _ e=>e)) h1.out hj1
set_option maxHeartbeats 4000000 in
set_option maxRecDepth 100000 in
theorem nunion_any {w0 w:World}{P:Nat→Prop}{ss:ByteArray}{ds:List PD}{sv rv:Value}{xs:List Value}{s:ByteArray}{nt:TypeId}{nx:Value}{br i:Nat}{t:PT}{l:List PT}{p:Int}{bv:Value}{f:Nat}{X:Nat→Value}(M:NC w0 P ss ds sv rv xs s nt nx true br i w) (ho:w.ownsRow 0 83 1 bv (t::l).length ((List.range (t::l).length).map X)) (hX:TyV w P t (X 0)) (hI:ItoaOK w0) (hR:DatN w0 P ss ds sv rv xs s nt nx true br f t i) :
 Calls Tryz.prog 120 #[.pointer (some ⟨br,0,none⟩),.agg #[.int .i64 p,bv]] w (NPost w sv rv s nt nx true br (oneB 0 (rdT s (envOf ds) true f t i))):=by
 obtain⟨POST,hPOST⟩:∃ Q,Hid (Q=NPost w sv rv s nt nx true br (oneB 0 (rdT s (envOf ds) true f t i))):=⟨_,rfl⟩
 rw[← hPOST.out]
 obtain⟨ba,bc,rfl⟩:=own_sl ho
 have A:Fr w (w.alloc (.cells #[.int .i64 p,.slice ba (t::l).length bc] 220)) (fun _=>False):=(Fr.refl w _).alloc _
 have M0:=M.new A
 have hC:=hide (nbranch_any (p:=p) (k:=0) M0 (ownsRow_fr ho A (fun _ _ f=>f)) (by simp) (by omega) (hX.fr A (fun _ _ f=>f)) hI hR)
 have c4:=M0.R.c4
 have hsz:=A.size
 replace A:=hide A
 clear M0 ho hX hR M
 generalize (t::l).length=n at hC A hsz c4⊢
 go_enter Tryz.func120,Tryz.ntmps120
 go_wp2_with (go_at_call 150;refine hC.out.mono ?_;rintro e w1 ⟨v1,ev1,rfl,hf1,hm⟩;replace hf1:=hide hf1;replace hm:=hide hm)
 try go_ret
 rw[hPOST.out]
 refine⟨v1,ev1,rfl,(A.out.mono (T:=fun g=>g=br) (fun _ _ f=>f.elim)).trans hf1.out (fun _ _ e=>e),?_⟩
 have hm':=hm.out
 cases hp:oneB 0 (rdT s (envOf ds) true f t i) with
 | none=>rw[hp] at hm';exact⟨hm'.1,hm'.2.1.less hsz,hm'.2.2⟩
 | some q=>obtain⟨d,j⟩:=q;rw[hp] at hm';exact⟨hm'.1,hm'.2.1.mono (fun g _ hg=>by omega),hm'.2.2⟩
end Go.Proofs.YtiifagiebikmdaaGreatDoor
