import Derived.Test.YtiifagiebikmdaaGreatDoorBK20
namespace Go.Proofs.YtiifagiebikmdaaGreatDoor
open Go.RowKit
def noSeen:Array Value:=(List.replicate 26 (Value.bool false)).toArray
theorem seen_new (w:World):SeenAt (w.alloc (.cells noSeen 240)) w.heap.size []:=by
 refine⟨List.replicate 26 (Value.bool false),Blk.new w noSeen _,by simp,fun k hk=>?_⟩
 rw[List.getElem?_replicate,if_pos hk]
 simp
theorem noSeen_eq:(#[.bool false,.bool false,.bool false,.bool false,.bool false,.bool false,.bool false,.bool false,.bool false,.bool false,.bool false,.bool false,.bool false,.bool false,.bool false,.bool false,.bool false,.bool false,.bool false,.bool false,.bool false,.bool false,.bool false,.bool false,.bool false,.bool false]:Array Value)=noSeen:=rfl
structure FlRow (w:World) (P:Nat→Prop) (s:ByteArray) (fs:List PF) (fv:Value) (ys:List Value):Prop where
 row:w.ownsRow 0 149 4 fv fs.length ys
 off:∀ g,fv.ownBlock=some g→P g
 V:FldsV w P s fs ys
theorem FlRow.fr {w w':World}{P S:Nat→Prop}{s:ByteArray}{fs:List PF}{sv:Value}{xs:List Value}(h:FlRow w P s fs sv xs) (hf:Fr w w' S) (hS:∀ g,P g→¬ S g):FlRow w' P s fs sv xs:=
 ⟨ownsRow_fr h.row hf (fun g hg=>hS g (h.off g hg)),h.off,h.V.fr hf hS⟩
theorem FlRow.cells {w:World}{P:Nat→Prop}{s:ByteArray}{fs:List PF}{g m cap:Nat}{xs:List Value}(h:FlRow w P s fs (.slice (some ⟨g,0,none⟩) m cap) xs){q:Nat}{f:PF}(hq:fs[q]?=some f) :
 ∃ T x d,w.cell? ⟨g,q*4,none⟩=some (.int .i64 (f.place:Int))∧w.cell? ⟨g,q*4+1,none⟩=some (.int .u8 (f.letter:Int))∧w.cell? ⟨g,q*4+2,none⟩=some (.iface T x)∧w.cell? ⟨g,q*4+3,none⟩=some (.pointer d)∧TyV w P f.ty (.iface T x)∧DfV w P s f.dflt (.pointer d):=by
 obtain⟨a,b,c,d,h1,h2,h3,h4,rfl,rfl,hT,hD⟩:=h.V q f hq
 obtain⟨T,x,rfl⟩:=hT.iface
 obtain⟨d',rfl⟩:∃ d',d=.pointer d':=by
  unfold DfV at hD
  split at hD
  ·exact⟨_,hD⟩
  ·obtain⟨g',x',_,e,_⟩:=hD;exact⟨_,e⟩
 have hm:=own_n h.row
 subst hm
 rw[Nat.mul_comm] at h1 h2 h3 h4
 exact⟨T,x,d',own_cell h.row rfl h1,own_cell h.row rfl h2,own_cell h.row rfl h3,own_cell h.row rfl h4,hT,hD⟩
theorem fldF_drop {env:Nat→Option PB}{fs:List PF}{q:Nat}{f:PF}(h:fs[q]?=some f) (seen:List Nat):fldF env seen (fs.drop q)=(if f.letter∈seen then [f.place] else [])++(useF env (usesOf f.ty)++fldF env (seen++[f.letter]) (fs.drop (q+1))):=by
 have hl:=(List.getElem?_eq_some_iff.1 h).1
 rw[List.drop_eq_getElem_cons hl,fldF,(List.getElem?_eq_some_iff.1 h).2]
theorem take_letters {fs:List PF}{q:Nat}{f:PF}(h:fs[q]?=some f):(fs.take (q+1)).map PF.letter=(fs.take q).map PF.letter++[f.letter]:=by
 rw[List.take_add_one,h];simp
def CFInv (w0:World) (bS:Nat) (env:Nat→Option PB) (fs:List PF) (m:Nat) (v:Value) (W:World):Prop:=
 ∃ q:Nat,v=.int .i64 (q:Int)∧q≤fs.length∧fs.length+1-q≤m∧Fr w0 W (fun g=>g=bS)∧SeenAt W bS ((fs.take q).map PF.letter)∧fldF env [] fs=fldF env ((fs.take q).map PF.letter) (fs.drop q)
set_option maxHeartbeats 8000000 in
set_option maxRecDepth 100000 in
theorem pcheckFields_any {w:World}{P:Nat→Prop}{s:ByteArray}{ds:List PD}{sv rv fv:Value}{xs ys:List Value}{fs:List PF}{p:Int}{et:TypeId}{ex:Value}(D:DRow w P s ds sv xs) (F:FlRow w P s fs fv ys) (hE:ErrV 1 w et ex) (hl:fs.length≤300) (hsm:∀ f∈fs,isSmall f.letter=true) (hfew:∀ f∈fs,fewB f.ty) (hPw:∀ g,P g→g<w.heap.size) :
 Calls Tryz.prog 109 #[.agg #[sv,rv],.agg #[.int .i64 p,fv]] w (ChkPost w (.iface et ex) (fldF (envOf ds) [] fs)):=by
 obtain⟨POST,hPOST⟩:∃ Q,Hid (Q=ChkPost w (.iface et ex) (fldF (envOf ds) [] fs)):=⟨_,rfl⟩
 rw[← hPOST.out]
 obtain⟨sa,sc,rfl⟩:=own_sl D.row
 obtain⟨fa,fc,rfl⟩:=own_sl F.row
 have hgE:=World.block_lt_of_cell? w ⟨1,0,none⟩ hE
 obtain⟨wA,hwA⟩:∃ W,W=(w.alloc (.cells #[.slice sa ds.length sc,rv] 85)).alloc (.cells #[.int .i64 p,.slice fa fs.length fc] 211):=⟨_,rfl⟩
 have hzA:wA.heap.size=w.heap.size+2:=by rw[hwA];simp
 have hfA:Fr w wA (fun _=>False):=by rw[hwA];exact((Fr.refl w _).alloc _).alloc _
 have hSA:Blk wA w.heap.size [.slice sa ds.length sc,rv] 85:=by rw[hwA];exact(Blk.new w #[.slice sa ds.length sc,rv] 85).alloc _
 obtain⟨w0,hw0⟩:∃ W,W=wA.alloc (.cells noSeen 240):=⟨_,rfl⟩
 have hf0:Fr w w0 (fun _=>False):=by rw[hw0];exact hfA.alloc _
 have hS0:Blk w0 w.heap.size [.slice sa ds.length sc,rv] 85:=by rw[hw0];exact hSA.alloc _
 have hN0:SeenAt w0 (w.heap.size+2) []:=by rw[hw0,← hzA];exact seen_new wA
 have hz0:w0.heap.size=w.heap.size+3:=by rw[hw0];simp[hzA]
 have D0:=hide (D.fr hf0 (fun _ _ f=>f))
 have F0:=hide (F.fr hf0 (fun _ _ f=>f))
 have hE0:=hide (hE.fr hf0 id)
 have start:Hid (CFInv w0 (w.heap.size+2) (envOf ds) fs (fs.length+1) (.int .i64 0) w0):=hide ⟨0,rfl,Nat.zero_le _,by omega,Fr.refl _ _,hN0,rfl⟩
 replace hS0:=hide hS0
 replace hf0:=hide hf0
 have hgE':1≠w.heap.size+2:=by omega
 have hPw:=hide hPw
 clear D F hE hN0 hzA hfA hSA hgE
 go_enter Tryz.func109,Tryz.ntmps109
 go_wp2_with fail
 rw[noSeen_eq,← hwA,← hw0]
 clear hwA hw0
 go_loopg [12] (fs.length+1) (fun m v W=>CFInv w0 (w.heap.size+2) (envOf ds) fs m v W)
 case atStart=>exact start.out
 case round=>
  clear start
  obtain⟨q,rfl,hq,hm,hf,hseen,he⟩:=hrel
  have hsz:=hf.size
  have hS:=hf.blk hS0.out (by omega)
  by_cases hlt:q<fs.length
  ·have hlt':(q:Int)<(fs.length:Int):=by omega
   have hd:fs[q]?=some fs[q]:=List.getElem?_eq_getElem hlt
   have hmem:fs[q]∈fs:=List.getElem_mem hlt
   generalize fs[q]=f at hd hmem
   have hfsm:=hsm f hmem
   obtain⟨g,cap,hgc⟩:=own_form F0.out.row (by omega)
   cases hgc
   have hoff:∀ g,P g→¬ g=w.heap.size+2:=fun g hg=>by have:=hPw.out g hg;omega
   obtain⟨T,x,d,c0,c1,c2,c3,hT,hDf⟩:=(F0.out.fr hf hoff).cells hd
   obtain⟨l,hl0⟩:∃ l,f.letter=l:=⟨_,rfl⟩
   obtain⟨pl,hpl⟩:∃ p,f.place=p:=⟨_,rfl⟩
   obtain⟨ty,hty⟩:∃ t,f.ty=t:=⟨_,rfl⟩
   have hfw:=hfew f hmem
   rw[fldF_drop hd] at he
   have htk:=take_letters hd
   rw[hl0] at hfsm c1 he htk
   rw[hpl] at c0 he
   rw[hty] at hT he hfw
   have A1:=(Fr.refl wr (fun _=>False)).alloc (.cells #[.int .i64 (pl:Int),.int .u8 (l:Int),.iface T x,.pointer d] 149)
   have N1:=Blk.new wr #[.int .i64 (pl:Int),.int .u8 (l:Int),.iface T x,.pointer d] 149
   have hz1:(wr.alloc (.cells #[.int .i64 (pl:Int),.int .u8 (l:Int),.iface T x,.pointer d] 149)).heap.size=wr.heap.size+1:=by simp
   have hCa:=hide (padd_any (p:=(pl:Int)) (hseen.fr A1 id) hfsm)
   have hT1:=hT.fr A1 (fun _ _ f=>f)
   have D1:=(D0.out.fr hf hoff).fr A1 (fun _ _ f=>f)
   have E1:=(hE0.out.fr hf hgE').fr A1 id
   have S1:=A1.blk hS id
   have hFw:=hide ((hf0.out.trans hf (fun y hy e=>by omega)).trans A1 (fun _ _ f=>f))
   have hf1:=hide (hf.trans A1 (fun _ _ f=>f.elim))
   replace hT1:=hide hT1
   replace D1:=hide D1
   replace E1:=hide E1
   replace S1:=hide S1
   replace N1:=hide N1
   replace hz1:=hide hz1
   replace hfw:=hide hfw
   clear hT hDf A1 hl0 hpl hty hS hf hseen hfsm hoff
   obtain⟨seen,hseen⟩:∃ l,(fs.take q).map PF.letter=l:=⟨_,rfl⟩
   rw[hseen] at he htk hCa
   clear hseen
   by_cases hdup:l∈seen
   ·have hd1:=hide (show(!decide (l∈seen))=false by rw[decide_eq_true hdup];rfl)
    rw[if_pos hdup] at he
    replace he:=hide he
    go_wp2_with (go_at_call 139;refine hCa.out.mono ?_;rintro e w2 ⟨rfl,hf2,hS2⟩;rw[hd1.out];have n0:=(hf2.blk N1.out (by omega)).cell 0;have e0:=E1.out.fr hf2 hgE';simp only[List.getElem?_cons_zero] at n0;replace hf2:=hide hf2;replace e0:_=_:=e0;clear hS2)
    refine wp_regionC 8 (fun W=>W.cell? ⟨wr.heap.size,0,none⟩=some (.int .i64 (pl:Int))∧W.cell? ⟨1,0,none⟩=some (.iface et ex)) (by kernel_rfl) ?_
    refine wpAnyC_take 0 ?v0 rfl (by kernel_rfl) (fun _ _ _ h=>h) (by kernel_rfl) ?y0 ?_
    case y0=>(rintro W ⟨h1,h2⟩;go_simp <;> rfl)
    refine wpAnyC_take 1 ?v1 rfl (by kernel_rfl) (fun _ _ _ h=>h) (by kernel_rfl) ?y1 ?_
    case y1=>(rintro W ⟨h1,h2⟩;go_simp <;> rfl)
    refine wpAnyC_take 2 ?v2 rfl (by kernel_rfl) (fun _ _ _ h=>h) (by kernel_rfl) ?y2 ?_
    case y2=>(rintro W ⟨h1,h2⟩;go_simp <;> rfl)
    refine wpAnyC_take 4 ?v4 rfl (by kernel_rfl) (fun _ _ _ h=>h) (by kernel_rfl) ?y4 ?_
    case y4=>(rintro W ⟨h1,h2⟩;go_simp <;> rfl)
    refine wpAnyC_one 3 rfl (by kernel_rfl) (fun _=>⟨n0,e0⟩) (fun K hK=>?_)
    go_simp
    refine(pplace_any (pl:Int) _).mono ?_
    rintro e w' ⟨rfl,rfl⟩
    refine hK _ _ ?_
    clear hK K
    refine wpAnyC_take 5 ?v5 rfl (by kernel_rfl) (fun _ _ _ h=>h) (by kernel_rfl) ?y5 ?_
    case y5=>(rintro W ⟨h1,h2⟩;go_simp <;> rfl)
    refine wpAnyC_one 6 rfl (by kernel_rfl) (fun _=>⟨n0,e0⟩) (fun K hK=>?_)
    go_simp
    refine hK _ _ ?_
    clear hK K
    have hAL:∀ {a:Addr} {x:Value},w2.cell? a=some x→(w2.drew.alloc (.cells #[.int .i64 (pl:Int),.iface et ex] 141)).cell? a=some x:=@fun a x h=>(World.cell?_alloc_lt (w2.drew) _ a (by exact World.block_lt_of_cell? w2 a h)).trans h
    refine wpAnyC_one 7 rfl (by kernel_rfl) (fun _=>⟨hAL n0,hAL e0⟩) (fun K hK=>?_)
    go_simp
    refine hK _ _ ?_
    clear hK K
    refine wpAnyC_one 8 rfl (by kernel_rfl) (fun _=>⟨hAL n0,hAL e0⟩) (fun K hK=>?_)
    go_simp
    refine hK _ _ ?_
    clear hK K
    refine wpAnyC_done (by kernel_rfl) (fun hm=>absurd hm (by decide)) ?_ _
    go_wp2_with fail
    try go_ret
    rw[hPOST.out]
    have hF2:=hFw.out.trans hf2.out (fun y hy e=>by omega)
    have hs2:=hF2.size
    refine⟨_,rfl,(hF2.alloc _).drew,?_⟩
    rw[he.out]
    exact⟨w2.heap.size,hs2,rfl,(Blk.new w2 _ _).drew⟩
   ·have hd1:=hide (show(!decide (l∈seen))=true by rw[decide_eq_false hdup];rfl)
    rw[if_neg hdup,List.nil_append] at he
    have hoff1:∀ g,P g→¬ g=w.heap.size+2:=fun g hg=>by have:=hPw.out g hg;omega
    have hCu:Hid (∀ w2,Fr (wr.alloc (.cells #[.int .i64 (pl:Int),.int .u8 (l:Int),.iface T x,.pointer d] 149)) w2 (fun g=>g=w.heap.size+2)→Calls Tryz.prog 79 #[.agg #[.slice sa ds.length sc,rv],.iface T x] w2 (ChkPost w2 (.iface et ex) (useF (envOf ds) (usesOf ty)))):=hide (fun w2 h2=>uses_ok _ ty (Nat.le_refl _) hfw.out w2 P s ds _ rv _ xs et ex (D1.out.fr h2 hoff1) (hT1.out.fr h2 hoff1) (E1.out.fr h2 hgE'))
    clear hoff1
    cases hu:useF (envOf ds) (usesOf ty) with
    | nil=>
     rw[hu,List.nil_append] at he
     replace he:=hide he
     replace hu:=hide hu
     go_wp2_with (first
      |(go_at_call 139;refine hCa.out.mono ?_;rintro e w2 ⟨rfl,hf2,hS2⟩;rw[hd1.out];have NN:=hf2.blk N1.out (by omega);have SS:=hf2.blk S1.out (by omega);have n2:=NN.cell 2;have s0:=SS.cell 0;have s1:=SS.cell 1;simp only[List.getElem?_cons_zero,List.getElem?_cons_succ] at n2 s0 s1;replace hf2:=hide hf2;replace hS2:=hide hS2;clear NN SS)
      |(go_at_call 79;refine(hCu.out w2 hf2.out).mono ?_;rintro e w3 ⟨v3,rfl,hf3,hm3⟩;rw[hu.out] at hm3;replace hm3:v3=.nilIface:=hm3;subst hm3;replace hf3:=hide hf3))
     go_roundg (fs.length+1-(q+1))
     case measure=>omega
     case rel=>exact⟨q+1,rfl,hlt,Nat.le_refl _,(hf1.out.trans hf2.out (fun _ _ e=>e)).trans hf3.out (fun _ _ f=>f.elim),by rw[htk];exact hS2.out.fr hf3.out id,by rw[htk];exact he.out⟩
    | cons y r=>
     rw[hu,List.cons_append] at he
     replace he:=hide he
     replace hu:=hide hu
     go_wp2_with (first
      |(go_at_call 139;refine hCa.out.mono ?_;rintro e w2 ⟨rfl,hf2,hS2⟩;rw[hd1.out];have NN:=hf2.blk N1.out (by omega);have SS:=hf2.blk S1.out (by omega);have n2:=NN.cell 2;have s0:=SS.cell 0;have s1:=SS.cell 1;simp only[List.getElem?_cons_zero,List.getElem?_cons_succ] at n2 s0 s1;replace hf2:=hide hf2;replace hS2:=hide hS2;clear NN SS)
      |(go_at_call 79;refine(hCu.out w2 hf2.out).mono ?_;rintro e w3 ⟨v3,rfl,hf3,hm3⟩;rw[hu.out] at hm3;obtain⟨g3,hg1,rfl,hg2⟩:=hm3;replace hf3:=hide hf3;replace hg2:=hide hg2))
     try go_ret
     rw[hPOST.out]
     have hF2:=hFw.out.trans hf2.out (fun y hy e=>by omega)
     have hs2:=hF2.size
     refine⟨_,rfl,hF2.trans hf3.out (fun _ _ f=>f),?_⟩
     rw[he.out]
     exact⟨g3,by omega,rfl,hg2.out⟩
  ·have hlt':¬ ((q:Int)<(fs.length:Int)):=by omega
   rw[List.drop_eq_nil_of_le (by omega),fldF] at he
   replace he:=hide he
   replace hf:=hide hf
   go_wp2_with fail
   try go_ret
   rw[hPOST.out]
   refine⟨.nilIface,rfl,hf0.out.trans hf.out (fun y hy e=>by omega),?_⟩
   rw[he.out]
open Go.RowKit
theorem symCells_get {l:List (Nat×Nat)}:∀ {q:Nat}{c p:Nat},l[q]?=some (c,p)→(symCells l)[q*2]?=some (.int .i64 (p:Int))∧(symCells l)[q*2+1]?=some (.int .u8 (c:Int)):=by
 induction l with
 | nil=>intro q c p h;simp at h
 | cons x r ih=>
  intro q c p h
  have hc:symCells (x::r)=.int .i64 (x.2:Int) :: .int .u8 (x.1:Int)::symCells r:=by simp[symCells]
  rw[hc]
  cases q with
  | zero=>
   simp only[List.getElem?_cons_zero,Option.some.injEq] at h
   subst h
   exact⟨rfl,rfl⟩
  | succ q=>
   rw[List.getElem?_cons_succ] at h
   have:=ih h
   rw[show(q+1)*2=q*2+1+1 by omega]
   exact this
theorem dupS_drop {l:List (Nat×Nat)}{q c p:Nat}(h:l[q]?=some (c,p)) (seen:List Nat):dupS seen (l.drop q)=(if c∈seen then [p] else [])++dupS (seen++[c]) (l.drop (q+1)):=by
 have hl:=(List.getElem?_eq_some_iff.1 h).1
 rw[List.drop_eq_getElem_cons hl,dupS,(List.getElem?_eq_some_iff.1 h).2]
theorem take_fst {l:List (Nat×Nat)}{q c p:Nat}(h:l[q]?=some (c,p)):(l.take (q+1)).map Prod.fst=(l.take q).map Prod.fst++[c]:=by
 rw[List.take_add_one,h];simp
def CSInv (w0:World) (bS:Nat) (l:List (Nat×Nat)) (m:Nat) (v:Value) (W:World):Prop:=
 ∃ q:Nat,v=.int .i64 (q:Int)∧q≤l.length∧l.length+1-q≤m∧Fr w0 W (fun g=>g=bS)∧SeenAt W bS ((l.take q).map Prod.fst)∧dupS [] l=dupS ((l.take q).map Prod.fst) (l.drop q)
set_option maxHeartbeats 8000000 in
set_option maxRecDepth 100000 in
theorem pcheckSymbols_any {w:World}{P:Nat→Prop}{sv u:Value}{l:List (Nat×Nat)}{o:Option (Nat×Nat)}{p:Int}{et:TypeId}{ex:Value}(ho:w.ownsRow 0 146 2 sv l.length (symCells l)) (hoP:∀ g,sv.ownBlock=some g→P g) (hU:UnkV w P o u) (hE:ErrV 1 w et ex) (hl:l.length≤300) (hsm:∀ q∈l,isSmall q.1=true) (hsmo:∀ c p,o=some (c,p)→isSmall c=true) (hPw:∀ g,P g→g<w.heap.size) :
 Calls Tryz.prog 110 #[.agg #[.int .i64 p,sv,u]] w (ChkPost w (.iface et ex) (dupS [] l++unkF l o)):=by
 obtain⟨POST,hPOST⟩:∃ Q,Hid (Q=ChkPost w (.iface et ex) (dupS [] l++unkF l o)):=⟨_,rfl⟩
 rw[← hPOST.out]
 obtain⟨sa,sc,rfl⟩:=own_sl ho
 obtain⟨d,rfl⟩:∃ d,u=.pointer d:=by
  unfold UnkV at hU
  split at hU
  ·exact⟨_,hU⟩
  ·obtain⟨g',_,e,_⟩:=hU;exact⟨_,e⟩
 have hgE:1<w.heap.size:=World.block_lt_of_cell? w ⟨1,0,none⟩ hE
 obtain⟨wA,hwA⟩:∃ W,W=w.alloc (.cells #[.int .i64 p,.slice sa l.length sc,.pointer d] 216):=⟨_,rfl⟩
 have hzA:wA.heap.size=w.heap.size+1:=by rw[hwA];simp
 have hfA:Fr w wA (fun _=>False):=by rw[hwA];exact(Fr.refl w _).alloc _
 have hSA:Blk wA w.heap.size [.int .i64 p,.slice sa l.length sc,.pointer d] 216:=by rw[hwA];exact Blk.new w #[.int .i64 p,.slice sa l.length sc,.pointer d] 216
 obtain⟨w0,hw0⟩:∃ W,W=wA.alloc (.cells noSeen 240):=⟨_,rfl⟩
 have hf0:Fr w w0 (fun _=>False):=by rw[hw0];exact hfA.alloc _
 have hS0:Blk w0 w.heap.size [.int .i64 p,.slice sa l.length sc,.pointer d] 216:=by rw[hw0];exact hSA.alloc _
 have hN0:SeenAt w0 (w.heap.size+1) []:=by rw[hw0,← hzA];exact seen_new wA
 have hz0:w0.heap.size=w.heap.size+2:=by rw[hw0];simp[hzA]
 have ho0:=hide (ownsRow_fr ho hf0 (fun _ _ f=>f))
 have hU0:=hide (hU.fr hf0 (fun _ _ f=>f))
 have hE0:=hide (hE.fr hf0 id)
 have start:Hid (CSInv w0 (w.heap.size+1) l (l.length+1) (.int .i64 0) w0):=hide ⟨0,rfl,Nat.zero_le _,by omega,Fr.refl _ _,hN0,rfl⟩
 replace hS0:=hide hS0
 replace hf0:=hide hf0
 have hgE':1≠w.heap.size+1:=by omega
 replace hPw:=hide hPw
 replace hoP:=hide hoP
 clear ho hU hE hN0 hzA hfA hSA hgE
 go_enter Tryz.func110,Tryz.ntmps110
 go_wp2_with fail
 rw[noSeen_eq,← hwA,← hw0]
 clear hwA hw0
 go_loopg [9] (l.length+1) (fun m v W=>CSInv w0 (w.heap.size+1) l m v W)
 case atStart=>exact start.out
 case round=>
  clear start
  obtain⟨q,rfl,hq,hm,hf,hseen,he⟩:=hrel
  have hsz:=hf.size
  have hS:=hf.blk hS0.out (by omega)
  by_cases hlt:q<l.length
  ·have hlt':(q:Int)<(l.length:Int):=by omega
   have hd:l[q]?=some l[q]:=List.getElem?_eq_getElem hlt
   have hmem:l[q]∈l:=List.getElem_mem hlt
   generalize l[q]=f at hd hmem
   obtain⟨c,pl⟩:=f
   have hfsm:isSmall c=true:=hsm _ hmem
   obtain⟨g,cap,hgc⟩:=own_form ho0.out (by omega)
   cases hgc
   have hne:¬ g=w.heap.size+1:=by have:=hPw.out g (hoP.out g rfl);omega
   have hrow:=ownsRow_fr ho0.out hf (fun g' e=>by simp only[Value.ownBlock,Option.some.injEq] at e;subst e;exact hne)
   have c0:=own_cell hrow rfl (symCells_get hd).1
   have c1:=own_cell hrow rfl (symCells_get hd).2
   rw[dupS_drop hd] at he
   have htk:=take_fst hd
   have A1:=(Fr.refl wr (fun _=>False)).alloc (.cells #[.int .i64 (pl:Int),.int .u8 (c:Int)] 146)
   have N1:=Blk.new wr #[.int .i64 (pl:Int),.int .u8 (c:Int)] 146
   have hCa:=hide (padd_any (p:=(pl:Int)) (hseen.fr A1 id) hfsm)
   have E1:=(hE0.out.fr hf hgE').fr A1 id
   have hFw:=hide ((hf0.out.trans hf (fun y hy e=>by omega)).trans A1 (fun _ _ f=>f))
   have hf1:=hide (hf.trans A1 (fun _ _ f=>f.elim))
   replace E1:=hide E1
   replace N1:=hide N1
   clear A1 hS hf hseen hfsm hrow
   obtain⟨seen,hseen⟩:∃ l',(l.take q).map Prod.fst=l':=⟨_,rfl⟩
   rw[hseen] at he htk hCa
   clear hseen
   by_cases hdup:c∈seen
   ·have hd1:=hide (show(!decide (c∈seen))=false by rw[decide_eq_true hdup];rfl)
    rw[if_pos hdup] at he
    replace he:=hide he
    go_wp2_with (go_at_call 139;refine hCa.out.mono ?_;rintro e w2 ⟨rfl,hf2,hS2⟩;rw[hd1.out];have n0:=(hf2.blk N1.out (by omega)).cell 0;have e0:=E1.out.fr hf2 hgE';simp only[List.getElem?_cons_zero] at n0;replace hf2:=hide hf2;replace e0:_=_:=e0;clear hS2)
    refine wp_regionC 7 (fun W=>W.cell? ⟨wr.heap.size,0,none⟩=some (.int .i64 (pl:Int))∧W.cell? ⟨1,0,none⟩=some (.iface et ex)) (by kernel_rfl) ?_
    refine wpAnyC_take 0 ?v0 rfl (by kernel_rfl) (fun _ _ _ h=>h) (by kernel_rfl) ?y0 ?_
    case y0=>(rintro W ⟨h1,h2⟩;go_simp <;> rfl)
    refine wpAnyC_take 1 ?v1 rfl (by kernel_rfl) (fun _ _ _ h=>h) (by kernel_rfl) ?y1 ?_
    case y1=>(rintro W ⟨h1,h2⟩;go_simp <;> rfl)
    refine wpAnyC_take 3 ?v3 rfl (by kernel_rfl) (fun _ _ _ h=>h) (by kernel_rfl) ?y3 ?_
    case y3=>(rintro W ⟨h1,h2⟩;go_simp <;> rfl)
    refine wpAnyC_one 2 rfl (by kernel_rfl) (fun _=>⟨n0,e0⟩) (fun K hK=>?_)
    go_simp
    refine(pplace_any (pl:Int) _).mono ?_
    rintro e w' ⟨rfl,rfl⟩
    refine hK _ _ ?_
    clear hK K
    refine wpAnyC_take 4 ?v4 rfl (by kernel_rfl) (fun _ _ _ h=>h) (by kernel_rfl) ?y4 ?_
    case y4=>(rintro W ⟨h1,h2⟩;go_simp <;> rfl)
    refine wpAnyC_one 5 rfl (by kernel_rfl) (fun _=>⟨n0,e0⟩) (fun K hK=>?_)
    go_simp
    refine hK _ _ ?_
    clear hK K
    have hAL:∀ {a:Addr} {x:Value},w2.cell? a=some x→(w2.drew.alloc (.cells #[.int .i64 (pl:Int),.iface et ex] 141)).cell? a=some x:=@fun a x h=>(World.cell?_alloc_lt (w2.drew) _ a (by exact World.block_lt_of_cell? w2 a h)).trans h
    refine wpAnyC_one 6 rfl (by kernel_rfl) (fun _=>⟨hAL n0,hAL e0⟩) (fun K hK=>?_)
    go_simp
    refine hK _ _ ?_
    clear hK K
    refine wpAnyC_one 7 rfl (by kernel_rfl) (fun _=>⟨hAL n0,hAL e0⟩) (fun K hK=>?_)
    go_simp
    refine hK _ _ ?_
    clear hK K
    refine wpAnyC_done (by kernel_rfl) (fun hm=>absurd hm (by decide)) ?_ _
    go_wp2_with fail
    try go_ret
    rw[hPOST.out]
    have hF2:=hFw.out.trans hf2.out (fun y hy e=>by omega)
    have hs2:=hF2.size
    refine⟨_,rfl,(hF2.alloc _).drew,?_⟩
    rw[he.out]
    exact⟨w2.heap.size,hs2,rfl,(Blk.new w2 _ _).drew⟩
   ·have hd1:=hide (show(!decide (c∈seen))=true by rw[decide_eq_false hdup];rfl)
    rw[if_neg hdup,List.nil_append] at he
    replace he:=hide he
    go_wp2_with (go_at_call 139;refine hCa.out.mono ?_;rintro e w2 ⟨rfl,hf2,hS2⟩;rw[hd1.out];replace hf2:=hide hf2;replace hS2:=hide hS2)
    go_roundg (l.length+1-(q+1))
    case measure=>omega
    case rel=>exact⟨q+1,rfl,hlt,Nat.le_refl _,hf1.out.trans hf2.out (fun _ _ e=>e),by rw[htk];exact hS2.out,by rw[htk];exact he.out⟩
  ·have hlt':¬ ((q:Int)<(l.length:Int)):=by omega
   have hql:q=l.length:=by omega
   rw[List.drop_eq_nil_of_le (by omega),dupS] at he
   rw[hql,List.take_length] at hseen
   have c2:=hS.cell 2
   simp only[List.getElem?_cons_zero,List.getElem?_cons_succ] at c2
   have hUw:=hU0.out.fr hf (fun g hg e=>by have:=hPw.out g hg;omega)
   have e1:=hE0.out.fr hf hgE'
   have hFw:=hide (hf0.out.trans hf (fun y hy e=>by omega))
   replace hseen:=hide hseen
   replace hS:=hide hS
   replace e1:=hide e1
   clear hf hql
   cases o with
   | none=>
    have hn:d=none:=by
     have:Value.pointer d=.pointer none:=hUw
     cases this;rfl
    subst hn
    have hL:=hide (show dupS [] l++unkF l none=[] by rw[he];rfl)
    clear hUw he
    go_wp2_with fail
    try go_ret
    rw[hPOST.out]
    refine⟨.nilIface,rfl,hFw.out,?_⟩
    rw[hL.out]
   | some r=>
    obtain⟨c,pl⟩:=r
    obtain⟨g,hg,hdg,hB⟩:∃ g,P g∧Value.pointer d=.pointer (some ⟨g,0,none⟩)∧Blk wr g [.int .i64 (pl:Int),.int .u8 (c:Int)] 146:=hUw
    cases hdg
    have b0:=hB.cell 0
    have b1:=hB.cell 1
    simp only[List.getElem?_cons_zero,List.getElem?_cons_succ] at b0 b1
    have hCh:=hide (phas_any (p:=(pl:Int)) hseen.out (hsmo c pl rfl))
    replace hB:=hide hB
    by_cases hin:c∈l.map Prod.fst
    ·have hd1:=hide (show decide (c∈l.map Prod.fst)=true from decide_eq_true hin)
     have hL:=hide (show dupS [] l++unkF l (some (c,pl))=[] by rw[he];simp only[unkF];rw[if_pos hin];rfl)
     clear he
     go_wp2_with (go_at_call 140;refine hCh.out.mono ?_;rintro e w2 ⟨rfl,hf2⟩;rw[hd1.out];replace hf2:=hide hf2)
     try go_ret
     rw[hPOST.out]
     refine⟨.nilIface,rfl,hFw.out.trans hf2.out (fun _ _ f=>f),?_⟩
     rw[hL.out]
    ·have hd1:=hide (show decide (c∈l.map Prod.fst)=false from decide_eq_false hin)
     have hL:=hide (show dupS [] l++unkF l (some (c,pl))=[pl] by rw[he];simp only[unkF];rw[if_neg hin];rfl)
     clear he
     go_wp2_with (go_at_call 140;refine hCh.out.mono ?_;rintro e w2 ⟨rfl,hf2⟩;rw[hd1.out];have n0:=(hf2.blk hB.out id).cell 0;have n2:=(hf2.blk hS.out id).cell 2;have e0:=e1.out.fr hf2 id;simp only[List.getElem?_cons_zero,List.getElem?_cons_succ] at n0 n2;replace hf2:=hide hf2;replace e0:_=_:=e0)
     refine wp_regionC 10 (fun W=>W.cell? ⟨w.heap.size,2,none⟩=some (.pointer (some ⟨g,0,none⟩))∧W.cell? ⟨g,0,none⟩=some (.int .i64 (pl:Int))∧W.cell? ⟨1,0,none⟩=some (.iface et ex)) (by kernel_rfl) ?_
     refine wpAnyC_take 0 ?v0b rfl (by kernel_rfl) (fun _ _ _ h=>h) (by kernel_rfl) ?y0b ?_
     case y0b=>(rintro W ⟨h1,h2,h3⟩;go_simp <;> rfl)
     refine wpAnyC_take 1 ?v1b rfl (by kernel_rfl) (fun _ _ _ h=>h) (by kernel_rfl) ?y1b ?_
     case y1b=>(rintro W ⟨h1,h2,h3⟩;go_simp <;> rfl)
     refine wpAnyC_take 2 ?v2b rfl (by kernel_rfl) (fun _ _ _ h=>h) (by kernel_rfl) ?y2b ?_
     case y2b=>(rintro W ⟨h1,h2,h3⟩;go_simp <;> rfl)
     refine wpAnyC_take 3 ?v3b rfl (by kernel_rfl) (fun _ _ _ h=>h) (by kernel_rfl) ?y3b ?_
     case y3b=>(rintro W ⟨h1,h2,h3⟩;go_simp <;> rfl)
     refine wpAnyC_take 4 ?v4b rfl (by kernel_rfl) (fun _ _ _ h=>h) (by kernel_rfl) ?y4b ?_
     case y4b=>(rintro W ⟨h1,h2,h3⟩;go_simp <;> rfl)
     refine wpAnyC_take 6 ?v6b rfl (by kernel_rfl) (fun _ _ _ h=>h) (by kernel_rfl) ?y6b ?_
     case y6b=>(rintro W ⟨h1,h2,h3⟩;go_simp <;> rfl)
     refine wpAnyC_one 5 rfl (by kernel_rfl) (fun _=>⟨n2,n0,e0⟩) (fun K hK=>?_)
     go_simp
     refine(pplace_any (pl:Int) _).mono ?_
     rintro e w' ⟨rfl,rfl⟩
     refine hK _ _ ?_
     clear hK K
     refine wpAnyC_take 7 ?v7b rfl (by kernel_rfl) (fun _ _ _ h=>h) (by kernel_rfl) ?y7b ?_
     case y7b=>(rintro W ⟨h1,h2,h3⟩;go_simp <;> rfl)
     refine wpAnyC_one 8 rfl (by kernel_rfl) (fun _=>⟨n2,n0,e0⟩) (fun K hK=>?_)
     go_simp
     refine hK _ _ ?_
     clear hK K
     have hAL:∀ {a:Addr} {x:Value},w2.cell? a=some x→(w2.drew.alloc (.cells #[.int .i64 (pl:Int),.iface et ex] 141)).cell? a=some x:=@fun a x h=>(World.cell?_alloc_lt (w2.drew) _ a (by exact World.block_lt_of_cell? w2 a h)).trans h
     refine wpAnyC_one 9 rfl (by kernel_rfl) (fun _=>⟨hAL n2,hAL n0,hAL e0⟩) (fun K hK=>?_)
     go_simp
     refine hK _ _ ?_
     clear hK K
     refine wpAnyC_one 10 rfl (by kernel_rfl) (fun _=>⟨hAL n2,hAL n0,hAL e0⟩) (fun K hK=>?_)
     go_simp
     refine hK _ _ ?_
     clear hK K
     refine wpAnyC_done (by kernel_rfl) (fun hm=>absurd hm (by decide)) ?_ _
     go_wp2_with fail
     try go_ret
     rw[hPOST.out]
     have hF2:=hFw.out.trans hf2.out (fun y hy e=>e)
     have hs2:=hF2.size
     refine⟨_,rfl,(hF2.alloc _).drew,?_⟩
     rw[hL.out]
     exact⟨w2.heap.size,hs2,rfl,(Blk.new w2 _ _).drew⟩
open Go.RowKit
def plB:PB→Prop
 | .recd fs=>fs.length≤300∧(∀ f∈fs,isSmall f.letter=true)∧∀ f∈fs,fewB f.ty
 | .enum l o=>l.length≤300∧(∀ q∈l,isSmall q.1=true)∧∀ c p,o=some (c,p)→isSmall c=true
 | .bytes _=>True
set_option maxHeartbeats 4000000 in
set_option maxRecDepth 100000 in
theorem pcheckBody_any {w:World}{P:Nat→Prop}{s:ByteArray}{ds:List PD}{sv rv v:Value}{xs:List Value}{b:PB}{et:TypeId}{ex:Value}(D:DRow w P s ds sv xs) (hb:BodyV w P s b v) (hE:ErrV 1 w et ex) (hok:plB b) (hPw:∀ g,P g→g<w.heap.size) :
 Calls Tryz.prog 78 #[.agg #[sv,rv],v] w (ChkPost w (.iface et ex) (bodyF (envOf ds) b)):=by
 obtain⟨POST,hPOST⟩:∃ Q,Hid (Q=ChkPost w (.iface et ex) (bodyF (envOf ds) b)):=⟨_,rfl⟩
 rw[← hPOST.out]
 obtain⟨sa,sc,rfl⟩:=own_sl D.row
 cases hb with
 | recd p ho hP h=>
  rename_i fs fv ys
  obtain⟨fa,fc,rfl⟩:=own_sl ho
  have hf0:Fr w ((w.alloc (.cells #[.slice sa ds.length sc,rv] 85)).alloc (.cells #[.int .i64 (p:Int),.slice fa fs.length fc] 211)) (fun _=>False):=((Fr.refl w _).alloc _).alloc _
  have hsz:=hf0.size
  have hC:=hide (pcheckFields_any (rv:=rv) (p:=(p:Int)) (D.fr hf0 (fun _ _ f=>f)) ((⟨ho,hP,h⟩:FlRow w P s fs _ _).fr hf0 (fun _ _ f=>f)) (hE.fr hf0 id) hok.1 hok.2.1 hok.2.2 (fun g hg=>Nat.lt_of_lt_of_le (hPw g hg) hsz))
  replace hf0:=hide hf0
  have a1:=asRecord_yes
  clear D ho hP h hE hok hPw
  go_enter Tryz.func78,Tryz.ntmps78
  go_wp2_with (go_at_call 109;refine hC.out.mono ?_;rintro e w2 ⟨v2,rfl,hf2,hm⟩;replace hf2:=hide hf2;replace hm:=hide hm)
  try go_ret
  rw[hPOST.out]
  refine⟨v2,rfl,hf0.out.trans hf2.out (fun _ _ f=>f),?_⟩
  have hm':=hm.out
  rw[bodyF]
  cases hL:fldF (envOf ds) [] fs with
  | nil=>rw[hL] at hm';exact hm'
  | cons x r=>rw[hL] at hm';exact hm'.less hsz
 | enum p ho hP hu=>
  rename_i l o lv u
  obtain⟨fa,fc,rfl⟩:=own_sl ho
  obtain⟨d,rfl⟩:∃ d,u=.pointer d:=by
   have hu':=hu
   unfold UnkV at hu'
   split at hu'
   ·exact⟨_,hu'⟩
   ·obtain⟨g',_,e,_⟩:=hu';exact⟨_,e⟩
  have hf0:Fr w ((w.alloc (.cells #[.slice sa ds.length sc,rv] 85)).alloc (.cells #[.int .i64 (p:Int),.slice fa l.length fc,.pointer d] 216)) (fun _=>False):=((Fr.refl w _).alloc _).alloc _
  have hsz:=hf0.size
  have hC:=hide (pcheckSymbols_any (p:=(p:Int)) (ownsRow_fr ho hf0 (fun _ _ f=>f)) hP (hu.fr hf0 (fun _ _ f=>f)) (hE.fr hf0 id) hok.1 hok.2.1 hok.2.2 (fun g hg=>Nat.lt_of_lt_of_le (hPw g hg) hsz))
  replace hf0:=hide hf0
  have a1:=asRecord_no 216 (by decide)
  have a2:=asEnum_yes
  clear D ho hP hu hE hok hPw
  go_enter Tryz.func78,Tryz.ntmps78
  go_wp2_with (go_at_call 110;refine hC.out.mono ?_;rintro e w2 ⟨v2,rfl,hf2,hm⟩;replace hf2:=hide hf2;replace hm:=hide hm)
  try go_ret
  rw[hPOST.out]
  refine⟨v2,rfl,hf0.out.trans hf2.out (fun _ _ f=>f),?_⟩
  have hm':=hm.out
  rw[bodyF]
  cases hL:dupS [] l++unkF l o with
  | nil=>rw[hL] at hm';exact hm'
  | cons x r=>rw[hL] at hm';exact hm'.less hsz
 | bytes p n=>
  have a1:=asRecord_no 233 (by decide)
  have a2:=asEnum_no 233 (by decide)
  clear D hE hok hPw
  go_enter Tryz.func78,Tryz.ntmps78
  go_wp2_with fail
  try go_ret
  rw[hPOST.out]
  exact⟨.nilIface,rfl,(Fr.refl w _).alloc _,rfl⟩
theorem DRow.pre {w:World}{P:Nat→Prop}{s:ByteArray}{ds:List PD}{g m cap:Nat}{xs:List Value}(h:DRow w P s ds (.slice (some ⟨g,0,none⟩) m cap) xs){q:Nat}(hq:q≤ds.length):DRow w P s (ds.take q) (.slice (some ⟨g,0,none⟩) q cap) (xs.take (q*3)):=by
 have hlen:(ds.take q).length=q:=by rw[List.length_take];omega
 refine⟨?_,fun g' e=>h.off g' e,fun i d e=>?_,by rw[hlen];have:=h.len;omega⟩
 ·rw[hlen]
  obtain⟨h1,h2⟩:=h.row
  refine⟨by rw[List.length_take,h1];omega,.inr ?_⟩
  rcases h2 with⟨e,_⟩|⟨g',cap',cur,e,k1,k2,k3,k4,k5,k6⟩
  ·cases e
  ·cases e
   refine⟨g,cap,cur,rfl,k1,k2,by omega,k4,k5,?_⟩
   rw[← k6,List.take_take]
   congr 1
   omega
 ·have hi:=(List.getElem?_eq_some_iff.1 e).1
  rw[hlen] at hi
  rw[List.getElem?_take,if_pos hi] at e
  obtain⟨c,k1,k2,k3,k4⟩:=h.V i d e
  exact⟨c,by rw[List.getElem?_take,if_pos (by omega)];exact k1,by rw[List.getElem?_take,if_pos (by omega)];exact k2,by rw[List.getElem?_take,if_pos (by omega)];exact k3,k4⟩
theorem defF_drop {env:Nat→Option PB}{ds:List PD}{q:Nat}{d:PD}(h:ds[q]?=some d) (seen:List Nat):defF env seen (ds.drop q)=(if d.letter∈seen then [d.place] else [])++(bodyF env d.body++defF env (seen++[d.letter]) (ds.drop (q+1))):=by
 have hl:=(List.getElem?_eq_some_iff.1 h).1
 rw[List.drop_eq_getElem_cons hl,defF,(List.getElem?_eq_some_iff.1 h).2]
theorem take_defs {ds:List PD}{q:Nat}{d:PD}(h:ds[q]?=some d):(ds.take (q+1)).map PD.letter=(ds.take q).map PD.letter++[d.letter]:=by
 rw[List.take_add_one,h];simp
theorem envOf_none {ds:List PD}{c:Nat}:envOf ds c=none↔c∉ds.map PD.letter:=by
 unfold envOf
 rw[← look_none 0 c ds]
 cases look 0 c ds <;> simp
set_option maxHeartbeats 8000000 in
set_option maxRecDepth 100000 in
theorem pcheckNames_any {w:World}{P:Nat→Prop}{s:ByteArray}{ds:List PD}{t:PT}{sv rv:Value}{xs:List Value}{et:TypeId}{ex:Value}(D:DRow w P s ds sv xs) (hT:TyV w P t rv) (hE:ErrV 1 w et ex) (hok:∀ d∈ds,plB d.body) (hfew:fewB t) (hPw:∀ g,P g→g<w.heap.size) :
 Calls Tryz.prog 51 #[.agg #[sv,rv]] w (ChkPost w (.iface et ex) (nameF ds t)):=by
 obtain⟨POST,hPOST⟩:∃ Q,Hid (Q=ChkPost w (.iface et ex) (nameF ds t)):=⟨_,rfl⟩
 rw[← hPOST.out]
 obtain⟨sa,sc,rfl⟩:=own_sl D.row
 obtain⟨rT,rx,rfl⟩:=hT.iface
 have hl6:=D.len
 obtain⟨w0,hw0⟩:∃ W,W=w.alloc (.cells #[.slice sa ds.length sc,.iface rT rx] 85):=⟨_,rfl⟩
 have hf0:Fr w w0 (fun _=>False):=by rw[hw0];exact(Fr.refl w _).alloc _
 have hS0:Blk w0 w.heap.size [.slice sa ds.length sc,.iface rT rx] 85:=by rw[hw0];exact Blk.new w #[.slice sa ds.length sc,.iface rT rx] 85
 have D0:=hide (D.fr hf0 (fun _ _ f=>f))
 have hT0:=hide (hT.fr hf0 (fun _ _ f=>f))
 have hE0:=hide (hE.fr hf0 id)
 have hP0:=hide (fun g (hg:P g)=>Nat.lt_of_lt_of_le (hPw g hg) hf0.size)
 have start:Hid (∃ q:Nat,Value.int .i64 0=.int .i64 (q:Int)∧q≤ds.length∧ds.length+1-q≤ds.length+1∧Fr w0 w0 (fun _=>False)∧defF (envOf ds) [] ds=defF (envOf ds) ((ds.take q).map PD.letter) (ds.drop q)):=hide ⟨0,rfl,Nat.zero_le _,by omega,Fr.refl _ _,rfl⟩
 replace hS0:=hide hS0
 replace hf0:=hide hf0
 clear D hE hT hPw
 go_enter Tryz.func51,Tryz.ntmps51
 go_wp2_with fail
 rw[← hw0]
 clear hw0
 go_loopg [3,10] (ds.length+1) (fun m u v W=>∃ q:Nat,v=.int .i64 (q:Int)∧q≤ds.length∧ds.length+1-q≤m∧Fr w0 W (fun _=>False)∧defF (envOf ds) [] ds=defF (envOf ds) ((ds.take q).map PD.letter) (ds.drop q))
 case atStart=>exact start.out
 case round=>
  clear start
  obtain⟨q,rfl,hq,hm,hf,he⟩:=hrel
  have hsz:=hf.size
  have hS:=hf.blk hS0.out id
  have hSlt:w.heap.size<wr.heap.size:=hS.lt
  have s0:=hS.cell 0
  have s1:=hS.cell 1
  simp only[List.getElem?_cons_zero,List.getElem?_cons_succ] at s0 s1
  by_cases hlt:q<ds.length
  ·have hlt':(q:Int)<(ds.length:Int):=by omega
   have hd:ds[q]?=some ds[q]:=List.getElem?_eq_getElem hlt
   have hmem:ds[q]∈ds:=List.getElem_mem hlt
   generalize ds[q]=d at hd hmem
   obtain⟨g,cap,hgc⟩:=own_form D0.out.row (by omega)
   cases hgc
   have Dw:=D0.out.fr hf (fun _ _ f=>f)
   obtain⟨T,x,c0,c1,c2,hb⟩:=Dw.cells hd
   have hqc:q≤sc:=by
    obtain⟨_,h2⟩:=D0.out.row
    rcases h2 with⟨e,_⟩|⟨g',cap',cur,e,k1,k2,k3,k4,k5,k6⟩
    ·cases e
    ·cases e;omega
   have hqc':(q:Int)≤(sc:Int):=by omega
   have hokd:=hok d hmem
   rw[defF_drop hd] at he
   have htk:=take_defs hd
   obtain⟨l,hl0⟩:∃ l,d.letter=l:=⟨_,rfl⟩
   obtain⟨pl,hpl⟩:∃ p,d.place=p:=⟨_,rfl⟩
   obtain⟨b,hb0⟩:∃ b,d.body=b:=⟨_,rfl⟩
   rw[hl0] at c1 he htk
   rw[hpl] at c0 he
   rw[hb0] at hb he hokd
   have A1:=((Fr.refl wr (fun _=>False)).alloc (.cells #[.int .i64 (pl:Int),.int .u8 (l:Int),.iface T x] 132)).alloc (.cells #[.slice (some ⟨g,0,none⟩) q sc,.nilIface] 85)
   have N1:=(Blk.new wr #[.int .i64 (pl:Int),.int .u8 (l:Int),.iface T x] 132).alloc (.cells #[.slice (some ⟨g,0,none⟩) q sc,.nilIface] 85)
   have hC:=hide (meaning_any (rv:=.nilIface) l ((Dw.pre hq).fr A1 (fun _ _ f=>f)))
   have D1:=Dw.fr A1 (fun _ _ f=>f)
   have B1:=hb.fr A1 (fun _ _ f=>f)
   have E1:=(hE0.out.fr hf id).fr A1 id
   have S1:=A1.blk hS id
   have hf1:=hide (hf.trans A1 (fun _ _ f=>f))
   replace D1:=hide D1
   replace B1:=hide B1
   replace E1:=hide E1
   replace S1:=hide S1
   replace N1:=hide N1
   replace hokd:=hide hokd
   clear A1 hb Dw hl0 hpl hb0 hS
   by_cases hdup:l∈(ds.take q).map PD.letter
   ·rw[if_pos hdup] at he
    have hL:=hide (show nameF ds t=pl::(bodyF (envOf ds) b++defF (envOf ds) ((ds.take q).map PD.letter++[l]) (ds.drop (q+1))++useF (envOf ds) (usesOf t)) by unfold nameF;rw[he];rfl)
    obtain⟨bb,hbb⟩:∃ bb,envOf (ds.take q) l=some bb:=by
     cases h:envOf (ds.take q) l with
     | none=>exact absurd hdup (envOf_none.1 h)
     | some bb=>exact⟨bb,rfl⟩
    replace hbb:=hide hbb
    clear he htk
    go_wp2_with (go_at_call 76;refine hC.out.mono ?_;rintro e w2 ⟨v2,rfl,hf2,hm2⟩;rw[hbb.out] at hm2;obtain⟨bT,bx,rfl⟩:=hm2.iface;have n0:=(hf2.blk N1.out id).cell 0;have e0:=E1.out.fr hf2 id;simp only[List.getElem?_cons_zero] at n0;replace hf2:=hide hf2;replace e0:_=_:=e0;clear hm2)
    refine wp_regionC 7 (fun W=>W.cell? ⟨wr.heap.size,0,none⟩=some (.int .i64 (pl:Int))∧W.cell? ⟨1,0,none⟩=some (.iface et ex)) (by kernel_rfl) ?_
    refine wpAnyC_take 0 ?v0 rfl (by kernel_rfl) (fun _ _ _ h=>h) (by kernel_rfl) ?y0 ?_
    case y0=>(rintro W ⟨h1,h2⟩;go_simp <;> rfl)
    refine wpAnyC_take 1 ?v1 rfl (by kernel_rfl) (fun _ _ _ h=>h) (by kernel_rfl) ?y1 ?_
    case y1=>(rintro W ⟨h1,h2⟩;go_simp <;> rfl)
    refine wpAnyC_take 3 ?v3 rfl (by kernel_rfl) (fun _ _ _ h=>h) (by kernel_rfl) ?y3 ?_
    case y3=>(rintro W ⟨h1,h2⟩;go_simp <;> rfl)
    refine wpAnyC_one 2 rfl (by kernel_rfl) (fun _=>⟨n0,e0⟩) (fun K hK=>?_)
    go_simp
    refine(pplace_any (pl:Int) _).mono ?_
    rintro e w' ⟨rfl,rfl⟩
    refine hK _ _ ?_
    clear hK K
    refine wpAnyC_take 4 ?v4 rfl (by kernel_rfl) (fun _ _ _ h=>h) (by kernel_rfl) ?y4 ?_
    case y4=>(rintro W ⟨h1,h2⟩;go_simp <;> rfl)
    refine wpAnyC_one 5 rfl (by kernel_rfl) (fun _=>⟨n0,e0⟩) (fun K hK=>?_)
    go_simp
    refine hK _ _ ?_
    clear hK K
    have hAL:∀ {a:Addr} {x:Value},w2.cell? a=some x→(w2.drew.alloc (.cells #[.int .i64 (pl:Int),.iface et ex] 141)).cell? a=some x:=@fun a x h=>(World.cell?_alloc_lt (w2.drew) _ a (by exact World.block_lt_of_cell? w2 a h)).trans h
    refine wpAnyC_one 6 rfl (by kernel_rfl) (fun _=>⟨hAL n0,hAL e0⟩) (fun K hK=>?_)
    go_simp
    refine hK _ _ ?_
    clear hK K
    refine wpAnyC_one 7 rfl (by kernel_rfl) (fun _=>⟨hAL n0,hAL e0⟩) (fun K hK=>?_)
    go_simp
    refine hK _ _ ?_
    clear hK K
    refine wpAnyC_done (by kernel_rfl) (fun hm=>absurd hm (by decide)) ?_ _
    go_wp2_with fail
    try go_ret
    rw[hPOST.out]
    have hF2:=(hf0.out.trans hf1.out (fun _ _ f=>f)).trans hf2.out (fun _ _ f=>f)
    have hs2:=hF2.size
    refine⟨_,rfl,(hF2.alloc _).drew,?_⟩
    rw[hL.out]
    exact⟨w2.heap.size,hs2,rfl,(Blk.new w2 _ _).drew⟩
   ·rw[if_neg hdup,List.nil_append] at he
    have hnn:=hide (envOf_none.2 hdup)
    have hCb:Hid (∀ w2,Fr ((wr.alloc (.cells #[.int .i64 (pl:Int),.int .u8 (l:Int),.iface T x] 132)).alloc (.cells #[.slice (some ⟨g,0,none⟩) q sc,.nilIface] 85)) w2 (fun _=>False)→Calls Tryz.prog 78 #[.agg #[.slice (some ⟨g,0,none⟩) ds.length sc,.iface rT rx],.iface T x] w2 (ChkPost w2 (.iface et ex) (bodyF (envOf ds) b))):=hide (fun w2 h2=>pcheckBody_any (D1.out.fr h2 (fun _ _ f=>f)) (B1.out.fr h2 (fun _ _ f=>f)) (E1.out.fr h2 id) hokd.out (fun g hg=>Nat.lt_of_lt_of_le (hP0.out g hg) (Nat.le_trans hf1.out.size h2.size)))
    cases hu:bodyF (envOf ds) b with
    | nil=>
     rw[hu,List.nil_append] at he
     replace he:=hide he
     replace hu:=hide hu
     go_wp2_with (first
      |(go_at_call 76;refine hC.out.mono ?_;rintro e w2 ⟨v2,rfl,hf2,hm2⟩;rw[hnn.out] at hm2;replace hm2:v2=.nilIface:=hm2;subst hm2;have n2:=(hf2.blk N1.out id).cell 2;have SS:=hf2.blk S1.out id;have z0:=SS.cell 0;have z1:=SS.cell 1;simp only[List.getElem?_cons_zero,List.getElem?_cons_succ] at n2 z0 z1;replace hf2:=hide hf2;clear SS)
      |(go_at_call 78;refine(hCb.out w2 hf2.out).mono ?_;rintro e w3 ⟨v3,rfl,hf3,hm3⟩;rw[hu.out] at hm3;replace hm3:v3=.nilIface:=hm3;subst hm3;replace hf3:=hide hf3))
     go_roundg (ds.length+1-(q+1))
     case measure=>omega
     case rel=>exact⟨q+1,rfl,hlt,Nat.le_refl _,(hf1.out.trans hf2.out (fun _ _ e=>e)).trans hf3.out (fun _ _ f=>f),by rw[htk];exact he.out⟩
    | cons y r=>
     rw[hu,List.cons_append] at he
     have hL:=hide (show nameF ds t=y::(r++defF (envOf ds) ((ds.take q).map PD.letter++[l]) (ds.drop (q+1))++useF (envOf ds) (usesOf t)) by unfold nameF;rw[he];rfl)
     clear he htk
     replace hu:=hide hu
     go_wp2_with (first
      |(go_at_call 76;refine hC.out.mono ?_;rintro e w2 ⟨v2,rfl,hf2,hm2⟩;rw[hnn.out] at hm2;replace hm2:v2=.nilIface:=hm2;subst hm2;have n2:=(hf2.blk N1.out id).cell 2;have SS:=hf2.blk S1.out id;have z0:=SS.cell 0;have z1:=SS.cell 1;simp only[List.getElem?_cons_zero,List.getElem?_cons_succ] at n2 z0 z1;replace hf2:=hide hf2;clear SS)
      |(go_at_call 78;refine(hCb.out w2 hf2.out).mono ?_;rintro e w3 ⟨v3,rfl,hf3,hm3⟩;rw[hu.out] at hm3;obtain⟨g3,hg1,rfl,hg2⟩:=hm3;replace hf3:=hide hf3;replace hg2:=hide hg2))
     try go_ret
     rw[hPOST.out]
     have hF2:=(hf0.out.trans hf1.out (fun _ _ f=>f)).trans hf2.out (fun _ _ f=>f)
     have hs2:=hF2.size
     refine⟨_,rfl,hF2.trans hf3.out (fun _ _ f=>f),?_⟩
     rw[hL.out]
     exact⟨g3,by omega,rfl,hg2.out⟩
  ·have hlt':¬ ((q:Int)<(ds.length:Int)):=by omega
   rw[List.drop_eq_nil_of_le (by omega),defF] at he
   have hL:=hide (show nameF ds t=useF (envOf ds) (usesOf t) by unfold nameF;rw[he];rfl)
   have hC:=hide (uses_ok _ t (Nat.le_refl _) hfew wr P s ds (.slice sa ds.length sc) (.iface rT rx) (.iface rT rx) xs et ex (D0.out.fr hf (fun _ _ f=>f)) (hT0.out.fr hf (fun _ _ f=>f)) (hE0.out.fr hf id))
   replace hf:=hide hf
   clear he hS
   go_wp2_with (go_at_call 79;refine hC.out.mono ?_;rintro e w2 ⟨v2,rfl,hf2,hm2⟩;replace hf2:=hide hf2;replace hm2:=hide hm2)
   try go_ret
   rw[hPOST.out]
   have hF:=hf0.out.trans hf.out (fun _ _ f=>f)
   have hs:=hF.size
   refine⟨v2,rfl,hF.trans hf2.out (fun _ _ f=>f),?_⟩
   rw[hL.out]
   have hm':=hm2.out
   cases hu:useF (envOf ds) (usesOf t) with
   | nil=>rw[hu] at hm';exact hm'
   | cons y r=>rw[hu] at hm';exact hm'.less hs
end Go.Proofs.YtiifagiebikmdaaGreatDoor
