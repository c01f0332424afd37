import Derived.Test.YtiifagiebikmdaaGreatDoorAG30
namespace Go.Proofs.YtiifagiebikmdaaGreatDoor
open Go.RowKit
section
variable {w:World} {P:Nat→Prop} {s:ByteArray} {g:Nat} {cs:List Value} (hb:Blk w g cs 153) (x:Value)
theorem own_put (hb:Blk w g cs 153) (x:Value){b e k n:Nat}{v:Value}{xs:List Value}(ho:w.ownsRow b e k v n xs) (hne:e≠153):(w.setCell ⟨g,2,none⟩ x).ownsRow b e k v n xs:=by
 refine ownsRow_fr ho (Fr.one w ⟨g,2,none⟩ x) (fun g' hg' e'=>?_)
 have e'':g'=g:=e'
 subst e''
 rcases ho.2 with⟨e0,_⟩|⟨g2,cap,cur,rfl,_,h2,_⟩
 ·rw[e0] at hg';simp[Value.ownBlock] at hg'
 ·simp only[Value.ownBlock,Option.some.injEq] at hg'
  subst hg'
  unfold Blk at hb
  rw[hb] at h2
  simp only[Option.some.injEq,Obj.cells.injEq] at h2
  exact hne h2.2.1.symm
theorem TyV.put (hb:Blk w g cs 153) (x:Value){t:PT}{v:Value}(h:TyV w P t v):TyV (w.setCell ⟨g,2,none⟩ x) P t v:=by
 induction h with
 | base c p h=>exact .base c p h
 | name c p h=>exact .name c p h
 | wrap c p h ih=>exact .wrap c p ih
 | alts p X ho hP h ih=>exact .alts p X (own_put hb x ho (by decide)) hP ih
theorem DfV.put (hb:Blk w g cs 153) (x:Value) (hx:IfV x){o:Option (Nat×Nat)}{d:Value}(h:DfV w P s o d):DfV (w.setCell ⟨g,2,none⟩ x) P s o d:=by
 match o with
 | none=>exact h
 | some (a,e)=>
  obtain⟨g',x',h1,h2,h3,h4⟩:=h
  by_cases hg:g'=g
  ·subst hg
   exact⟨g',x,h1,h2,hx,h4.set 2 x⟩
  ·exact⟨g',x',h1,h2,h3,h4.other (a:=⟨g,2,none⟩) x hg⟩
theorem FldsV.put (hb:Blk w g cs 153) (x:Value) (hx:IfV x){fs:List PF}{ys:List Value}(h:FldsV w P s fs ys):FldsV (w.setCell ⟨g,2,none⟩ x) P s fs ys:=fun i f e=>by
 obtain⟨a,b,c,d,h1,h2,h3,h4,h5⟩:=h i f e
 exact⟨a,b,c,d,h1,h2,h3,h4,h5.1,h5.2.1,h5.2.2.1.put hb x,h5.2.2.2.put hb x hx⟩
theorem FlRow.put (hb:Blk w g cs 153) (x:Value) (hx:IfV x){fs:List PF}{fv:Value}{ys:List Value}(h:FlRow w P s fs fv ys):FlRow (w.setCell ⟨g,2,none⟩ x) P s fs fv ys:=
 ⟨own_put hb x h.row (by decide),h.off,h.V.put hb x hx⟩
theorem UnkV.put (hb:Blk w g cs 153) (x:Value){o:Option (Nat×Nat)}{d:Value}(h:UnkV w P o d):UnkV (w.setCell ⟨g,2,none⟩ x) P o d:=by
 match o with
 | none=>exact h
 | some (a,e)=>
  obtain⟨g',h1,h2,h4⟩:=h
  refine⟨g',h1,h2,h4.other (a:=⟨g,2,none⟩) x (fun e'=>?_)⟩
  have e'':g'=g:=e'
  subst e''
  unfold Blk at hb h4
  rw[hb] at h4
  simp only[Option.some.injEq,Obj.cells.injEq] at h4
  exact absurd h4.2.1 (by decide)
theorem BodyV.put (hb:Blk w g cs 153) (x:Value) (hx:IfV x){b:PB}{v:Value}(h:BodyV w P s b v):BodyV (w.setCell ⟨g,2,none⟩ x) P s b v:=by
 cases h with
 | recd p ho hP h=>exact .recd p (own_put hb x ho (by decide)) hP (h.put hb x hx)
 | enum p ho hP h=>exact .enum p (own_put hb x ho (by decide)) hP (h.put hb x)
 | bytes p n=>exact .bytes p n
theorem DRow.put (hb:Blk w g cs 153) (x:Value) (hx:IfV x){ds:List PD}{sv:Value}{xs:List Value}(h:DRow w P s ds sv xs):DRow (w.setCell ⟨g,2,none⟩ x) P s ds sv xs:=
 ⟨own_put hb x h.row (by decide),h.off,fun i d e=>by
  obtain⟨c,h1,h2,h3,h4⟩:=h.V i d e
  exact⟨c,h1,h2,h3,h4.put hb x hx⟩,h.len⟩
end
theorem DRow.mono {w:World}{P Q:Nat→Prop}{s:ByteArray}{ds:List PD}{sv:Value}{xs:List Value}(h:DRow w P s ds sv xs) (hQ:∀ g,g<w.heap.size→P g→Q g):DRow w Q s ds sv xs:=
 ⟨h.row,fun g e=>hQ g (h.row.lt g e).2 (h.off g e),h.V.mono hQ,h.len⟩
theorem dfB_drop {s:ByteArray}{env:Nat→Option PB}{fs:List PF}{q:Nat}{f:PF}(h:fs[q]?=some f):(fs.drop q).flatMap (dfB s env)=dfB s env f++(fs.drop (q+1)).flatMap (dfB s env):=by
 have hl:=(List.getElem?_eq_some_iff.1 h).1
 rw[List.drop_eq_getElem_cons hl,List.flatMap_cons,(List.getElem?_eq_some_iff.1 h).2]
def RDPost (w:World) (P:Nat→Prop) (s:ByteArray) (ds:List PD) (sv:Value) (xs:List Value) (nt:TypeId) (nx:Value) (L:List Nat) (e:Ending) (w':World):Prop:=
 ∃ v,e=.returned v∧Fr w w' P∧match L with | []=>v=.nilIface∧DRow w' P s ds sv xs∧(∀ t x,TyV w P t x→TyV w' P t x)|y::_=>∃ ev,FaultAt w' w.heap.size v (y:Int) ev∧ErrD w' w.heap.size nt nx ev
structure RDM (w0 w:World) (P:Nat→Prop) (s:ByteArray) (ds:List PD) (sv rv:Value) (xs:List Value) (fv:Value) (ys:List Value) (W:World):Prop where
 fr:Fr w W P
 D:DRow W P s ds sv xs
 F:FlRow W (fun g=>P g∨w.heap.size+1≤g) s (fieldsOf ds) fv ys
 B:Blk W w.heap.size [sv,rv] 85
 G:SameG w0 W
 T:∀ t x,TyV w P t x→TyV W P t x
section
variable {w0 w W W':World} {P:Nat→Prop} {s:ByteArray} {ds:List PD} {sv rv:Value} {xs:List Value} {fv:Value} {ys:List Value}
theorem RDM.new (M:RDM w0 w P s ds sv rv xs fv ys W) (hk:w0.heap.size≤w.heap.size) (hf:Fr W W' (fun _=>False)):RDM w0 w P s ds sv rv xs fv ys W':=
 ⟨M.fr.trans hf (fun _ _ f=>f.elim),M.D.fr hf (fun _ _ f=>f),M.F.fr hf (fun _ _ f=>f),hf.blk M.B id,M.G.fr hf (Nat.le_trans hk M.fr.size) (fun _ f=>f.elim),fun t x h=>(M.T t x h).fr hf (fun _ _ f=>f)⟩
theorem RDM.put (M:RDM w0 w P s ds sv rv xs fv ys W) (hk:w0.heap.size≤w.heap.size) (hPK:∀ g,P g→w0.heap.size≤g){g:Nat}{cs:List Value}(hb:Blk W g cs 153) (hg:P g∨w.heap.size+1≤g) (x:Value) (hx:IfV x):RDM w0 w P s ds sv rv xs fv ys (W.setCell ⟨g,2,none⟩ x):=by
 have hgk:w0.heap.size≤g:=by
  rcases hg with h|h
  ·exact hPK g h
  ·omega
 refine⟨M.fr.setCell ⟨g,2,none⟩ x (fun h=>?_),M.D.put hb x hx,M.F.put hb x hx,M.B.other (a:=⟨g,2,none⟩) x (fun e=>?_),M.G.fr (Fr.one W ⟨g,2,none⟩ x) (Nat.le_trans hk M.fr.size) (fun g' e=>?_),fun t y h=>(M.T t y h).put hb x⟩
 ·rcases hg with h'|h'
  ·exact h'
  ·have:g<w.heap.size:=h
   omega
 ·have e':w.heap.size=g:=e
  have hB:=M.B
  rw[e'] at hB
  unfold Blk at hb hB
  rw[hb] at hB
  simp only[Option.some.injEq,Obj.cells.injEq] at hB
  exact absurd hB.2.1 (by decide)
 ·have e':g'=g:=e
  omega
end
set_option maxHeartbeats 16000000 in
set_option maxRecDepth 100000 in
theorem preadDefaults_any {w0 w:World}{P:Nat→Prop}{s:ByteArray}{ds:List PD}{sv:Value}{rT:TypeId}{rx:Value}{xs:List Value}{nt:TypeId}{nx:Value}(D:DRow w P s ds sv xs) (hG:SameG w0 w) (hk:w0.heap.size≤w.heap.size) (hPK:∀ g,P g→w0.heap.size≤g) (hPw:∀ g,P g→g<w.heap.size) (hE:ErrV 3 w0 nt nx) (hs:s.size≤300) (hlf:(fieldsOf ds).length≤300) (hok:∀ f∈fieldsOf ds,okT (envOf ds) f.ty) (hen:goodEnv ds) (hI:ItoaOK w0) (hQ:QuoteOK w0) (hN:NumAll w0) :
 Calls Tryz.prog 53 #[.agg #[sv,.iface rT rx]] w (RDPost w P s ds sv xs nt nx (dfltF s ds)):=by
 obtain⟨POST,hPOST⟩:∃ Q,Hid (Q=RDPost w P s ds sv xs nt nx (dfltF s ds)):=⟨_,rfl⟩
 rw[← hPOST.out]
 obtain⟨sa,sc,rfl⟩:=own_sl D.row
 have hf0:Fr w (w.alloc (.cells #[.slice sa ds.length sc,.iface rT rx] 85)) (fun _=>False):=(Fr.refl w _).alloc _
 have hz0:(w.alloc (.cells #[.slice sa ds.length sc,.iface rT rx] 85)).heap.size=w.heap.size+1:=by simp
 have hC0:=pFields_any (rv:=.iface rT rx) (D.fr hf0 (fun _ _ f=>f)) hlf (fun g hg=>Nat.lt_of_lt_of_le (hPw g hg) hf0.size)
 rw[hz0] at hC0
 have hM0:Hid (∀ w1 fv ys,Fr (w.alloc (.cells #[.slice sa ds.length sc,.iface rT rx] 85)) w1 (fun _=>False)→FlRow w1 (fun g=>P g∨w.heap.size+1≤g) s (fieldsOf ds) fv ys→RDM w0 w P s ds (.slice sa ds.length sc) (.iface rT rx) xs fv ys w1):=hide (fun w1 fv ys hf hF=>⟨(hf0.mono (fun _ _ f=>f.elim)).trans hf (fun _ _ f=>f.elim),(D.fr hf0 (fun _ _ f=>f)).fr hf (fun _ _ f=>f),hF,hf.blk (Blk.new w #[.slice sa ds.length sc,.iface rT rx] 85) id,(hG.fr hf0 hk (fun _ f=>f.elim)).fr hf (by omega) (fun _ f=>f.elim),fun t x h=>(h.fr hf0 (fun _ _ f=>f)).fr hf (fun _ _ f=>f)⟩)
 replace hC0:=hide hC0
 clear D hf0 hz0 hG
 go_enter Tryz.func53,Tryz.ntmps53
 go_wp2_with (go_at_call 80;refine hC0.out.mono ?_;rintro e w1 ⟨fv,ys,rfl,hf1,hF⟩;have M1:=hM0.out w1 fv ys hf1 hF;obtain⟨fa,fc,rfl⟩:=own_sl hF.row;replace M1:=hide M1;clear hf1 hF)
 have start:Hid (∃ q:Nat,Value.int .i64 0=.int .i64 (q:Int)∧q≤(fieldsOf ds).length∧(fieldsOf ds).length+1-q≤(fieldsOf ds).length+1∧RDM w0 w P s ds (.slice sa ds.length sc) (.iface rT rx) xs (.slice fa (fieldsOf ds).length fc) ys w1∧dfltF s ds=((fieldsOf ds).drop q).flatMap (dfB s (envOf ds))):=hide ⟨0,rfl,Nat.zero_le _,by omega,M1.out,rfl⟩
 clear M1 hC0 hM0
 go_loopg [10] ((fieldsOf ds).length+1) (fun m v W=>∃ q:Nat,v=.int .i64 (q:Int)∧q≤(fieldsOf ds).length∧(fieldsOf ds).length+1-q≤m∧RDM w0 w P s ds (.slice sa ds.length sc) (.iface rT rx) xs (.slice fa (fieldsOf ds).length fc) ys W∧dfltF s ds=((fieldsOf ds).drop q).flatMap (dfB s (envOf ds)))
 case atStart=>exact start.out
 case round=>
  clear start
  obtain⟨q,rfl,hq,hm,M,he⟩:=hrel
  by_cases hlt:q<(fieldsOf ds).length
  ·have hlt':(q:Int)<((fieldsOf ds).length:Int):=by omega
   have hd:(fieldsOf ds)[q]?=some (fieldsOf ds)[q]:=List.getElem?_eq_getElem hlt
   have hmem:(fieldsOf ds)[q]∈fieldsOf ds:=List.getElem_mem hlt
   generalize (fieldsOf ds)[q]=f at hd hmem
   obtain⟨g,cap,hgc⟩:=own_form M.F.row (by omega)
   cases hgc
   obtain⟨T,x,d,c0,c1,c2,c3,hT,hDf⟩:=M.F.cells hd
   rw[dfB_drop hd] at he
   obtain⟨l,hl0⟩:∃ l,f.letter=l:=⟨_,rfl⟩
   obtain⟨pl,hpl⟩:∃ p,f.place=p:=⟨_,rfl⟩
   rw[hl0] at c1
   rw[hpl] at c0
   have hoky:=hok f hmem
   have A1:=(Fr.refl wr (fun _=>False)).alloc (.cells #[.int .i64 (pl:Int),.int .u8 (l:Int),.iface T x,.pointer d] 149)
   have N1:=Blk.new wr #[.int .i64 (pl:Int),.int .u8 (l:Int),.iface T x,.pointer d] 149
   have M1:=M.new hk A1
   clear hl0 hpl
   cases hdf:f.dflt with
   | none=>
    rw[hdf] at hDf
    have hdn:d=none:=by
     have:Value.pointer d=.pointer none:=hDf
     cases this;rfl
    subst hdn
    have he':=hide (show dfltF s ds=((fieldsOf ds).drop (q+1)).flatMap (dfB s (envOf ds)) by rw[he];unfold dfB;rw[hdf];rfl)
    replace M1:=hide M1
    clear hDf hT A1 N1 he M
    go_wp2_with fail
    go_roundg ((fieldsOf ds).length+1-(q+1))
    case measure=>omega
    case rel=>exact⟨q+1,rfl,hlt,Nat.le_refl _,M1.out,he'.out⟩
   | some ae=>
    obtain⟨a,en⟩:=ae
    rw[hdf] at hDf
    obtain⟨gd,xd,hgP,hdg,hIf,hBd⟩:=hDf
    cases hdg
    have hdfb:dfB s (envOf ds) f=if (readT (envOf ds) true f.ty (s.extract a en)).isSome=true then [] else [a]:=by unfold dfB;rw[hdf]
    rw[hdfb] at he
    have hBd1:=A1.blk hBd id
    have hsw:=A1.size
    have A1d:=A1.drew
    have M1d:=M.new hk A1d
    have hC:=nDefault_any (s:=s.extract a en) (P:=fun g=>(P g∨w.heap.size+1≤g)∧g<wr.heap.size) (rT:=rT) (rx:=rx) (M1d.D.mono (fun g _ h=>⟨.inl h,by have:=hPw g h;have:=M.fr.size;omega⟩)) ((hT.mono (Q:=fun g=>(P g∨w.heap.size+1≤g)∧g<wr.heap.size) (fun g h1 h2=>⟨h2,h1⟩)).fr A1d (fun _ _ f=>f)) M1d.G (Nat.le_trans hk M1d.fr.size) (fun g hg=>by have:=A1d.size;omega) hE (by rw[ByteArray.size_extract];omega) hoky hen hI hQ hN
    have s0:=M1.B.cell 0
    have s1:=M1.B.cell 1
    have n2:=N1.cell 2
    have n3:=N1.cell 3
    have d1:=hBd1.cell 1
    simp only[List.getElem?_cons_zero,List.getElem?_cons_succ] at s0 s1 n2 n3 d1
    have hcalls:=hide (And.intro M1d (And.intro (A1d.blk hBd id) (And.intro N1.drew hC)))
    clear M1 hBd1 N1 hC hT A1 hdfb hBd M M1d A1d
    go_wp2_with fail
    obtain⟨M1,hBd1,N1,hC⟩:=hcalls.out
    have hfr:=hide (show w.heap.size≤(wr.alloc (.cells #[.int .i64 (pl:Int),.int .u8 (l:Int),.iface T x,.pointer (some ⟨gd,0,none⟩)] 149)).drew.heap.size from M1.fr.size)
    refine wp_regionAll (fun W=>W.cell? ⟨w.heap.size,0,none⟩=some (.slice sa ds.length sc)∧W.cell? ⟨w.heap.size,1,none⟩=some (.iface rT rx)∧W.cell? ⟨wr.heap.size,2,none⟩=some (.iface T x)∧W.cell? ⟨wr.heap.size,3,none⟩=some (.pointer (some ⟨gd,0,none⟩))∧W.cell? ⟨gd,1,none⟩=some (.string (s.extract a en))) (by kernel_rfl) ?_
    refine wpAllC_take 0 ?v0 rfl (by kernel_rfl) (fun _ _ _ h=>h) (by kernel_rfl) ?y0 ?_
    case y0=>(rintro W ⟨h1,h2,h3,h4,h5⟩;go_simp <;> rfl)
    refine wpAllC_take 1 ?v1 rfl (by kernel_rfl) (fun _ _ _ h=>h) (by kernel_rfl) ?y1 ?_
    case y1=>(rintro W ⟨h1,h2,h3,h4,h5⟩;go_simp <;> rfl)
    refine wpAllC_take 2 ?v2 rfl (by kernel_rfl) (fun _ _ _ h=>h) (by kernel_rfl) ?y2 ?_
    case y2=>(rintro W ⟨h1,h2,h3,h4,h5⟩;go_simp <;> rfl)
    refine wpAllC_take 3 ?v3 rfl (by kernel_rfl) (fun _ _ _ h=>h) (by kernel_rfl) ?y3 ?_
    case y3=>(rintro W ⟨h1,h2,h3,h4,h5⟩;go_simp <;> rfl)
    refine wpAllC_take 4 ?v4 rfl (by kernel_rfl) (fun _ _ _ h=>h) (by kernel_rfl) ?y4 ?_
    case y4=>(rintro W ⟨h1,h2,h3,h4,h5⟩;go_simp <;> rfl)
    refine wpAllC_take 5 ?v5 rfl (by kernel_rfl) (fun _ _ _ h=>h) (by kernel_rfl) ?y5 ?_
    case y5=>(rintro W ⟨h1,h2,h3,h4,h5⟩;go_simp <;> rfl)
    refine wpAllC_take 6 ?v6 rfl (by kernel_rfl) (fun _ _ _ h=>h) (by kernel_rfl) ?y6 ?_
    case y6=>(rintro W ⟨h1,h2,h3,h4,h5⟩;go_simp <;> rfl)
    refine wpAllC_take 7 ?v7 rfl (by kernel_rfl) (fun _ _ _ h=>h) (by kernel_rfl) ?y7 ?_
    case y7=>(rintro W ⟨h1,h2,h3,h4,h5⟩;go_simp <;> rfl)
    refine wpAllC_one 8 rfl (by kernel_rfl) ⟨s0,s1,n2,n3,d1⟩ (fun K hK=>?_)
    go_simp
    refine hC.mono ?_
    rintro e w2 ⟨v2,ev2,rfl,hf2,hm2⟩
    refine hK _ _ ?_
    clear hK K
    have M2:=M1.new hk hf2
    have N2:=hf2.blk N1 id
    have B2:=hf2.blk hBd1 id
    have x0:=M2.B.cell 0
    have x1:=M2.B.cell 1
    have m2:=N2.cell 2
    have m3:=N2.cell 3
    have b0:=B2.cell 0
    have b1:=B2.cell 1
    have b2:=B2.cell 2
    have bg:=B2.thaw 2
    simp only[List.getElem?_cons_zero,List.getElem?_cons_succ] at x0 x1 m2 m3 b0 b1 b2
    clear hC M1 hBd1 N1 hcalls s0 s1 n2 n3 d1 c0 c1 c2 c3
    refine wpAllC_take 9 ?v9 rfl (by kernel_rfl) (fun _ _ _ h=>h) (by kernel_rfl) ?y9 ?_
    case y9=>(rintro W ⟨h1,h2,h3,h4,h5⟩;go_simp <;> rfl)
    refine wpAllC_take 10 ?v10 rfl (by kernel_rfl) (fun _ _ _ h=>h) (by kernel_rfl) ?y10 ?_
    case y10=>(rintro W ⟨h1,h2,h3,h4,h5⟩;go_simp <;> rfl)
    refine wpAllC_take 11 ?v11 rfl (by kernel_rfl) (fun _ _ _ h=>h) (by kernel_rfl) ?y11 ?_
    case y11=>(rintro W ⟨h1,h2,h3,h4,h5⟩;go_simp <;> rfl)
    refine wpAllC_take 12 ?v12 rfl (by kernel_rfl) (fun _ _ _ h=>h) (by kernel_rfl) ?y12 ?_
    case y12=>(rintro W ⟨h1,h2,h3,h4,h5⟩;go_simp <;> rfl)
    refine wpAllC_take 13 ?v13 rfl (by kernel_rfl) (fun _ _ _ h=>h) (by kernel_rfl) ?y13 ?_
    case y13=>(rintro W ⟨h1,h2,h3,h4,h5⟩;go_simp <;> rfl)
    refine wpAllC_done (by kernel_rfl) ⟨x0,x1,m2,m3,b1⟩ ?_ _
    replace M2:=hide M2
    replace B2:=hide B2
    replace hf2:=hide hf2
    clear x0 x1 m2 b1 N2
    by_cases hrd:(readT (envOf ds) true f.ty (s.extract a en)).isSome=true
    ·rw[if_pos hrd] at hm2 he
     rw[List.nil_append] at he
     obtain⟨rfl,dT,dx,rfl⟩:=hm2
     replace he:=hide he
     clear b0 hrd
     go_wp2_with fail
     go_roundg ((fieldsOf ds).length+1-(q+1))
     case measure=>omega
     case rel=>exact⟨q+1,rfl,hlt,Nat.le_refl _,M2.out.put hk hPK B2.out hgP (.iface dT dx) (.inr ⟨_,_,rfl⟩),he.out⟩
    ·rw[if_neg hrd] at hm2 he
     obtain⟨rfl,hErr⟩:=hm2
     obtain⟨eT,ex,rfl⟩:=hErr.iface
     replace he:=hide he
     replace hErr:=hide hErr
     clear b2 bg hrd
     go_wp2_with (go_at_call 77;refine(pplace_any (a:Int) _).mono ?_;rintro e w3 ⟨rfl,hw3⟩;rw[hw3];clear hw3)
     try go_ret
     rw[hPOST.out]
     have hs2:=M2.out.fr.size
     have A3:Fr w2 (w2.alloc (.cells #[.int .i64 (a:Int),.iface eT ex] 141)) (fun _=>False):=(Fr.refl w2 _).alloc _
     refine⟨_,rfl,M2.out.fr.trans A3 (fun _ _ f=>f.elim),?_⟩
     rw[he.out]
     exact⟨.iface eT ex,⟨w2.heap.size,hs2,rfl,Blk.new w2 _ _⟩,(hErr.out.fr A3 (fun _ _ f=>f)).less (by have:=hfr.out;omega)⟩
  ·have hlt':¬ ((q:Int)<((fieldsOf ds).length:Int)):=by omega
   rw[List.drop_eq_nil_of_le (by omega),List.flatMap_nil] at he
   replace he:=hide he
   replace M:=hide M
   go_wp2_with fail
   try go_ret
   rw[hPOST.out]
   refine⟨.nilIface,rfl,M.out.fr,?_⟩
   rw[he.out]
   exact⟨rfl,M.out.D,M.out.T⟩
end Go.Proofs.YtiifagiebikmdaaGreatDoor
