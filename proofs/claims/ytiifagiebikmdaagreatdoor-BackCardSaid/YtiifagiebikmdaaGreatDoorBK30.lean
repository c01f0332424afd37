import Derived.Test.YtiifagiebikmdaaGreatDoorBK28
namespace Go.Proofs.YtiifagiebikmdaaGreatDoor
open Go.RowKit
theorem pField_few {s:ByteArray}(hs:s.size≤300){i:Nat}{f:PF}{j:Nat}(h:pField s i=.ok (f,j)):fewB f.ty∧i<j:=by
 unfold pField at h
 split at h
 ·split at h
  ·rename_i h58
   have hl:=bt_pos (s:=s) (i:=i+1) (by omega)
   split at h
   ·cases h
   ·rename_i t k hp
    have:=pT_few hs (i:=i+2) (by omega) hp
    have hb:=(pT_bounds (s:=s) (i:=i+2) (by omega)).1 t k hp
    split at h
    ·split at h
     ·cases h
     ·rename_i e hd
      have:=pD_bounds hd
      simp only[Except.ok.injEq,Prod.mk.injEq] at h
      obtain⟨rfl,rfl⟩:=h
      exact⟨by assumption,by omega⟩
    ·simp only[Except.ok.injEq,Prod.mk.injEq] at h
     obtain⟨rfl,rfl⟩:=h
     exact⟨by assumption,by omega⟩
  ·cases h
 ·cases h
theorem pFieldsN_few (s:ByteArray) (hs:s.size≤300):∀ (n i:Nat) (l:List PF) (j:Nat),pFieldsN s n i=.ok (l,j)→(∀ f∈l,fewB f.ty)∧i+l.length≤j:=by
 intro n
 induction n with
 | zero=>intro i l j h;cases h
 | succ n ih=>
  intro i l j h
  unfold pFieldsN at h
  split at h
  ·cases h
  ·rename_i f k hf
   obtain⟨h1,h2⟩:=pField_few hs hf
   split at h
   ·simp only[Except.ok.injEq,Prod.mk.injEq] at h
    obtain⟨rfl,rfl⟩:=h
    exact⟨fun g hg=>by rw[List.mem_singleton] at hg;subst hg;exact h1,by simp;omega⟩
   ·split at h
    ·split at h
     ·cases h
     ·rename_i fs k2 hr
      obtain⟨g1,g2⟩:=ih _ _ _ hr
      simp only[Except.ok.injEq,Prod.mk.injEq] at h
      obtain⟨rfl,rfl⟩:=h
      refine⟨fun g hg=>?_,by simp;omega⟩
      rcases List.mem_cons.1 hg with rfl|hg
      ·exact h1
      ·exact g1 g hg
    ·cases h
theorem pDefn_few {s:ByteArray}(hs:s.size≤300){i:Nat}{b:PB}{j:Nat}(h:pDefn s i=.ok (b,j)):(∀ f∈b.fs,fewB f.ty)∧i+b.fs.length≤j:=by
 unfold pDefn at h
 split at h
 ·split at h
  ·cases h
  ·rename_i ds k hr
   simp only[Except.ok.injEq,Prod.mk.injEq] at h
   obtain⟨rfl,rfl⟩:=h
   unfold pRecord at hr
   split at hr
   ·split at hr
    ·simp only[Except.ok.injEq,Prod.mk.injEq] at hr
     obtain⟨rfl,rfl⟩:=hr
     exact⟨fun f hf=>by simp[PB.fs] at hf,by simp[PB.fs];omega⟩
    ·obtain⟨g1,g2⟩:=pFieldsN_few s hs _ _ _ _ hr
     exact⟨g1,by show i+ds.length≤k;omega⟩
   ·cases hr
 ·split at h
  ·split at h
   ·cases h
   ·rename_i l o k hr
    simp only[Except.ok.injEq,Prod.mk.injEq] at h
    obtain⟨rfl,rfl⟩:=h
    have:=(pEnum_asc hr).2.2.2
    exact⟨fun f hf=>by simp[PB.fs] at hf,by simp[PB.fs];omega⟩
  ·split at h
   ·split at h
    ·simp only[Except.ok.injEq,Prod.mk.injEq] at h
     obtain⟨rfl,rfl⟩:=h
     exact⟨fun f hf=>by simp[PB.fs] at hf,by simp[PB.fs]⟩
    ·cases h
   ·cases h
theorem pDefsN_few (s:ByteArray) (hs:s.size≤300):∀ (n i:Nat) (ds:List PD) (j:Nat),i≤s.size→pDefsN s n i=.ok (ds,j)→(∀ f∈fieldsOf ds,fewB f.ty)∧i+(fieldsOf ds).length≤j∧j≤s.size:=by
 intro n
 induction n with
 | zero=>
  intro i ds j hi h
  simp only[pDefsN,Except.ok.injEq,Prod.mk.injEq] at h
  obtain⟨rfl,rfl⟩:=h
  exact⟨fun f hf=>by simp[fieldsOf] at hf,by simp[fieldsOf],hi⟩
 | succ n ih=>
  intro i ds j hi h
  unfold pDefsN at h
  split at h
  ·split at h
   ·split at h
    ·cases h
    ·rename_i b k hb
     obtain⟨b1,b2⟩:=pDefn_few hs hb
     have b3:=pDefn_le hb
     split at h
     ·rename_i h59
      have h4:=bt_pos (s:=s) (i:=k) (by omega)
      split at h
      ·cases h
      ·rename_i r e hr
       obtain⟨r1,r2,r3⟩:=ih _ _ _ h4 hr
       simp only[Except.ok.injEq,Prod.mk.injEq] at h
       obtain⟨rfl,rfl⟩:=h
       rw[fieldsOf_cons]
       refine⟨fun f hf=>?_,by rw[List.length_append];show i+(b.fs.length+_)≤_;omega,r3⟩
       rcases List.mem_append.1 hf with hf|hf
       ·exact b1 f hf
       ·exact r1 f hf
     ·cases h
   ·cases h
  ·simp only[Except.ok.injEq,Prod.mk.injEq] at h
   obtain⟨rfl,rfl⟩:=h
   exact⟨fun f hf=>by simp[fieldsOf] at hf,by simp[fieldsOf],hi⟩
theorem mem_fieldsOf {ds:List PD}{d:PD}(hd:d∈ds){f:PF}(hf:f∈d.body.fs):f∈fieldsOf ds:=by
 unfold fieldsOf
 exact List.mem_flatMap.2 ⟨d,hd,hf⟩
theorem fieldsOf_mem {ds:List PD}{f:PF}(hf:f∈fieldsOf ds):∃ d∈ds,f∈d.body.fs:=by
 unfold fieldsOf at hf
 exact List.mem_flatMap.1 hf
theorem pSchema_all {s:ByteArray}(hs:s.size≤300){ds:List PD}{t:PT}(h:pSchema s=.ok (ds,t)) :
 (∀ d∈ds,plB d.body)∧fewB t∧shT t∧(fieldsOf ds).length≤300∧(∀ f∈fieldsOf ds,fewB f.ty∧shT f.ty)∧ds.length≤6:=by
 obtain⟨_,_,_,a4,a5⟩:=pSchema_asc h
 obtain⟨s1,s2⟩:=pSchema_shape h
 have h0:=h
 unfold pSchema at h0
 split at h0
 ·cases h0
 ·rename_i ds' i hd
  obtain⟨f1,f2,f3⟩:=pDefsN_few s hs _ _ _ _ (Nat.zero_le _) hd
  split at h0
  ·cases h0
  ·rename_i t' j ht
   have ft:=pT_few hs f3 ht
   split at h0
   ·cases h0
   ·simp only[Except.ok.injEq,Prod.mk.injEq] at h0
    obtain⟨rfl,rfl⟩:=h0
    refine⟨fun d hd'=>?_,ft,s2,by omega,fun f hf=>⟨f1 f hf,?_⟩,a5⟩
    ·have h1:=(a4 d hd').2
     have h2:=s1 d hd'
     have h3:∀ f∈d.body.fs,fewB f.ty:=fun f hf=>f1 f (mem_fieldsOf hd' hf)
     cases hb:d.body with
     | recd fs=>rw[hb] at h1 h2 h3;exact⟨by have:=h2.2;omega,h1,h3⟩
     | enum l o=>rw[hb] at h1 h2;exact⟨by have:=h2.2;omega,h1.1,h1.2⟩
     | bytes n=>trivial
    ·obtain⟨d,hd',hf'⟩:=fieldsOf_mem hf
     have h2:=s1 d hd'
     cases hb:d.body with
     | recd fs=>rw[hb] at h2 hf';exact h2.1 f hf'
     | enum l o=>rw[hb] at hf';simp[PB.fs] at hf'
     | bytes n=>rw[hb] at hf';simp[PB.fs] at hf'
open Go.RowKit
theorem schema_good {s:ByteArray}(hs:s.size≤300){ds:List PD}{t:PT}(h:pSchema s=.ok (ds,t)) (hn:nameF ds t=[]) (hu:unionF ds t=[]):goodEnv ds∧∀ f∈fieldsOf ds,okT (envOf ds) f.ty:=by
 obtain⟨a1,a2,_,_,_⟩:=pSchema_asc h
 rw[hn] at a1
 rw[hu] at a2
 have hw:wrU (envOf ds) (accU ds++usesOf t) (accW [] ds (-1))<0:=by rw[a1];decide
 have hm:mix t (accM ds (-1))<0:=by rw[a2];decide
 obtain⟨g1,g2,_,_⟩:=schema_ok hs h hw hm
 obtain⟨p1,_⟩:=pSchema_all hs h
 obtain⟨s1,s2⟩:=pSchema_shape h
 obtain⟨_,h3⟩:=wrU_neg hw
 have h4:=okT_of (envOf ds) t _ s2 hm (fun u hu=>h3 u (List.mem_append_right _ hu))
 have h5:=(accM_neg (env:=envOf ds) s1 (fun u hu=>h3 u (List.mem_append_left _ hu)) h4.1).2
 refine⟨fun c b he=>⟨?_,g1 c b he⟩,fun f hf=>?_⟩
 ·unfold envOf at he
  cases hl:look 0 c ds with
  | none=>rw[hl] at he;cases he
  | some q=>
   obtain⟨pb',b'⟩:=q
   rw[hl] at he
   simp only[Option.map_some,Option.some.injEq] at he
   subst he
   obtain⟨d,hd,rfl⟩:=look_mem hl
   exact p1 d hd
 ·obtain⟨d,hd,hf'⟩:=fieldsOf_mem hf
  cases hb:d.body with
  | recd fs=>rw[hb] at hf';exact h5 d hd fs hb f hf'
  | enum l o=>rw[hb] at hf';simp[PB.fs] at hf'
  | bytes n=>rw[hb] at hf';simp[PB.fs] at hf'
structure Errs where
 lt:TypeId
 lx:Value
 gt:TypeId
 gx:Value
 mt:TypeId
 mx:Value
 ut:TypeId
 ux:Value
 nt:TypeId
 nx:Value
structure Errs.At (E:Errs) (w:World):Prop where
 l:ErrV 7 w E.lt E.lx
 g:ErrV 0 w E.gt E.gx
 m:ErrV 1 w E.mt E.mx
 u:ErrV 2 w E.ut E.ux
 n:ErrV 3 w E.nt E.nx
def ErrFor (E:Errs) (w:World) (lo:Nat) (ev:Value) (a:Int×Int):Prop:=
 (a.1=0∧a.2=0∧ev=.nilIface)∨(a.1=1∧a.2=0∧ev=.iface E.lt E.lx)∨(a.1=2∧FaultAt w lo ev a.2 (.iface E.gt E.gx))∨(a.1=3∧FaultAt w lo ev a.2 (.iface E.mt E.mx))∨(a.1=4∧FaultAt w lo ev a.2 (.iface E.ut E.ux))∨(a.1=5∧∃ cv,FaultAt w lo ev a.2 cv∧ErrD w lo E.nt E.nx cv)
def SchM (lo:Nat) (w:World) (s:ByteArray) (sv rv:Value):Prop:=
 ∃ ds t xs,s.size≤300∧pSchema s=.ok (ds,t)∧nameF ds t=[]∧unionF ds t=[]∧DRow w (fun g=>lo≤g∧g<w.heap.size) s ds sv xs∧TyV w (fun g=>lo≤g∧g<w.heap.size) t rv
def SReadPost (w:World) (s:ByteArray) (E:Errs) (e:Ending) (w':World):Prop:=
 ∃ sv rv ev,e=.returned (.tuple #[.agg #[sv,rv],ev])∧(∃ a n c,sv=.slice a n c)∧IfV rv∧Fr w w' (fun _=>False)∧ErrFor E w' w.heap.size ev (parseAns s)∧((parseAns s).1=0→SchM w.heap.size w' s sv rv)
theorem read_err {w W W':World}{s:ByteArray}{E:Errs}{ev:Value}(hf:Fr w W (fun _=>False)) (h4:Fr W W' (fun g=>g=w.heap.size)) (h0:(parseAns s).1≠0) (h:ErrFor E W' w.heap.size ev (parseAns s)) :
 SReadPost w s E (.returned (.tuple #[.agg #[.slice none 0 0,.nilIface],ev])) W':=
 ⟨_,_,ev,rfl,⟨_,_,_,rfl⟩,.inl rfl,hf.trans h4 (fun x hx e=>by omega),h,fun e=>absurd e h0⟩
structure RSt (w w1:World) (s:ByteArray) (ds:List PD) (t:PT) (sv rv:Value) (xs:List Value) (q:Nat) (W:World):Prop where
 z:w1.heap.size+2≤W.heap.size
 z0:w.heap.size+2≤w1.heap.size
 al:Fr w W (fun _=>False)
 q3:q≤3
 d:DRow W (fun g=>w.heap.size+2≤g∧g<w1.heap.size) s ds sv xs∧TyV W (fun g=>w.heap.size+2≤g∧g<w1.heap.size) t rv
 n:1≤q→nameF ds t=[]
 u:2≤q→unionF ds t=[]
 e:3≤q→dfltF s ds=[]
 R:Blk W w.heap.size [.slice none 0 0,.nilIface] 85
 B:Blk W w1.heap.size [sv,rv] 85
 L:∃ ty,Blk W (w1.heap.size+1) [.func (.func 51) #[] #[],.func (.func 52) #[] #[],.func (.func 53) #[] #[]] ty
section
variable {w w1 W W':World} {s:ByteArray} {ds:List PD} {t:PT} {sv rv:Value} {xs:List Value} {q:Nat}
theorem RSt.chk (M:RSt w w1 s ds t sv rv xs q W) (hf:Fr W W' (fun _=>False)):RSt w w1 s ds t sv rv xs q W':=
 ⟨Nat.le_trans M.z hf.size,M.z0,M.al.trans hf (fun _ _ f=>f.elim),M.q3,⟨M.d.1.fr hf (fun _ _ f=>f),M.d.2.fr hf (fun _ _ f=>f)⟩,M.n,M.u,M.e,hf.blk M.R id,hf.blk M.B id,M.L.imp fun _ h=>hf.blk h id⟩
theorem RSt.next0 (M:RSt w w1 s ds t sv rv xs 0 W) (h:nameF ds t=[]):RSt w w1 s ds t sv rv xs 1 W:=
 ⟨M.z,M.z0,M.al,by omega,M.d,fun _=>h,fun h=>by omega,fun h=>by omega,M.R,M.B,M.L⟩
theorem RSt.next1 (M:RSt w w1 s ds t sv rv xs 1 W) (h:unionF ds t=[]):RSt w w1 s ds t sv rv xs 2 W:=
 ⟨M.z,M.z0,M.al,by omega,M.d,fun _=>M.n (by omega),fun _=>h,fun h=>by omega,M.R,M.B,M.L⟩
theorem RSt.dft (M:RSt w w1 s ds t sv rv xs 2 W) (hf:Fr W W' (fun g=>w.heap.size+2≤g∧g<w1.heap.size)):Fr w W' (fun _=>False)∧Blk W' w.heap.size [.slice none 0 0,.nilIface] 85:=
 ⟨M.al.trans hf (fun x hx e=>by omega),hf.blk M.R (fun e=>by omega)⟩
theorem RSt.next2 (M:RSt w w1 s ds t sv rv xs 2 W) (hf:Fr W W' (fun g=>w.heap.size+2≤g∧g<w1.heap.size)) (h:dfltF s ds=[]) (hD:DRow W' (fun g=>w.heap.size+2≤g∧g<w1.heap.size) s ds sv xs) (hT:∀ t x,TyV W (fun g=>w.heap.size+2≤g∧g<w1.heap.size) t x→TyV W' (fun g=>w.heap.size+2≤g∧g<w1.heap.size) t x):RSt w w1 s ds t sv rv xs 3 W':=
 ⟨Nat.le_trans M.z hf.size,M.z0,(M.dft hf).1,by omega,⟨hD,hT _ _ M.d.2⟩,fun _=>M.n (by omega),fun _=>M.u (by omega),fun _=>h,(M.dft hf).2,hf.blk M.B (fun e=>by omega),M.L.imp fun _ h=>hf.blk h (fun e=>by omega)⟩
end
set_option maxHeartbeats 16000000 in
set_option maxRecDepth 100000 in
theorem pRead_any {w:World}{s:ByteArray}{E:Errs}(hE:E.At w) (hI:ItoaOK w) (hQ:QuoteOK w) (hN:NumAll w) :
 Calls Tryz.prog 28 #[.string s] w (SReadPost w s E):=by
 obtain⟨POST,hPOST⟩:∃ Q,Hid (Q=SReadPost w s E):=⟨_,rfl⟩
 rw[← hPOST.out]
 have hf0:Fr w (w.alloc (.cells #[.slice none 0 0,.nilIface] 85)) (fun _=>False):=(Fr.refl w _).alloc _
 have R0:=Blk.new w #[.slice none 0 0,.nilIface] 85
 have hsz0:(w.alloc (.cells #[.slice none 0 0,.nilIface] 85)).heap.size=w.heap.size+1:=by simp
 by_cases hl:300<s.size
 ·have hl':(300:Int)<(s.size:Int):=by omega
  have cL:=hE.l.fr hf0 id
  unfold ErrV at cL
  replace R0:=hide R0
  go_enter Tryz.func28,Tryz.ntmps28
  go_wp2_with fail
  go_region
  go_wp2_with fail
  have q0:=R0.out.drew.cell 0
  have q1:=R0.out.drew.cell 1
  simp only[List.getElem?_cons_zero,List.getElem?_cons_succ] at q0 q1
  refine bodyPost_ret (v:=.tuple #[.agg #[.slice none 0 0,.nilIface],.iface E.lt E.lx]) (by simp[results,Tryz.results28,go_sem,q0,q1]) rfl ?_
  rw[hPOST.out]
  exact⟨_,_,_,rfl,⟨_,_,_,rfl⟩,.inl rfl,hf0.drew,.inr (.inl ⟨by unfold parseAns;rw[if_pos hl],by unfold parseAns;rw[if_pos hl],rfl⟩),fun e=>by unfold parseAns at e;rw[if_pos hl] at e;simp at e⟩
 ·have hl':¬ (300:Int)<(s.size:Int):=by omega
  have hs:s.size≤300:=by omega
  have hf1:=hf0.alloc (.cells #[.string s,.int .i64 0] 109)
  have hP1:PAt ((w.alloc (.cells #[.slice none 0 0,.nilIface] 85)).alloc (.cells #[.string s,.int .i64 0] 109)) (w.heap.size+1) s 0:=by
   have:=Blk.new (w.alloc (.cells #[.slice none 0 0,.nilIface] 85)) #[.string s,.int .i64 0] 109
   rwa[hsz0] at this
  have hgl:=World.block_lt_of_cell? w ⟨0,0,none⟩ hE.g
  have hC1:=hide (pschema_any hP1 (hE.g.fr hf1 id) (by show w.heap.size+1≠_;simp only at hgl;omega) hs)
  replace hP1:=hide hP1
  replace R0:=hide (R0.alloc (.cells #[.string s,.int .i64 0] 109))
  replace hf1:=hide hf1
  clear hf0
  cases hp:pSchema s with
  | error k=>
   have hans:=hide (show parseAns s=(2,(k:Int)) by unfold parseAns;rw[if_neg hl,hp])
   replace hp:=hide hp
   go_enter Tryz.func28,Tryz.ntmps28
   go_wp2_with (go_at_call 50;refine hC1.out.mono ?_;rintro e w1 ⟨sv,rv,ev,rfl,⟨sa,sn,sc,rfl⟩,hIr,hf2,hm⟩;rw[hp.out] at hm;obtain⟨g,hg1,rfl,hg2⟩:=hm;have hz1:=hf2.size;have hw1:w.heap.size+2≤w1.heap.size:=(by simp at hz1;omega);have hw2:w.heap.size<w1.heap.size:=(by omega);rcases hIr with rfl|⟨rT,rx,rfl⟩;have R3:=hf2.blk R0.out (by omega);have r0:=R3.cell 0;have r1:=R3.cell 1;have g0:=R3.thaw 0;have g1:=R3.thaw 1;simp only[List.getElem?_cons_zero,List.getElem?_cons_succ] at r0 r1;replace R3:=hide R3;replace hf2:=hide hf2;replace hg2:=hide hg2;rotate_left;have R3:=hf2.blk R0.out (by omega);have r0:=R3.cell 0;have r1:=R3.cell 1;have g0:=R3.thaw 0;have g1:=R3.thaw 1;simp only[List.getElem?_cons_zero,List.getElem?_cons_succ] at r0 r1;replace R3:=hide R3;replace hf2:=hide hf2;replace hg2:=hide hg2)
   ·have S2:=(Blk.pair R3.out (.slice none 0 0) .nilIface).alloc (.cells #[.slice sa sn sc,.iface rT rx] 85)
    have q0:=S2.cell 0
    have q1:=S2.cell 1
    simp only[List.getElem?_cons_zero,List.getElem?_cons_succ] at q0 q1
    refine bodyPost_ret (v:=.tuple #[.agg #[.slice none 0 0,.nilIface],.iface 139 (.pointer (some ⟨g,0,none⟩))]) (by simp[results,Tryz.results28,go_sem,q0,q1]) rfl ?_
    rw[hPOST.out]
    have h4:=(Fr.pair w1 w.heap.size (.slice none 0 0) .nilIface).alloc (.cells #[.slice sa sn sc,.iface rT rx] 85)
    refine read_err (hf1.out.trans hf2.out (fun x hx e=>by omega)) h4 (by rw[hans.out];simp) ?_
    rw[hans.out]
    exact .inr (.inr (.inl ⟨rfl,g,by simp at hg1;omega,rfl,h4.blk hg2.out (fun e=>by simp at hg1;omega)⟩))
   ·have S2:=(Blk.pair R3.out (.slice none 0 0) .nilIface).alloc (.cells #[.slice sa sn sc,.nilIface] 85)
    have q0:=S2.cell 0
    have q1:=S2.cell 1
    simp only[List.getElem?_cons_zero,List.getElem?_cons_succ] at q0 q1
    refine bodyPost_ret (v:=.tuple #[.agg #[.slice none 0 0,.nilIface],.iface 139 (.pointer (some ⟨g,0,none⟩))]) (by simp[results,Tryz.results28,go_sem,q0,q1]) rfl ?_
    rw[hPOST.out]
    have h4:=(Fr.pair w1 w.heap.size (.slice none 0 0) .nilIface).alloc (.cells #[.slice sa sn sc,.nilIface] 85)
    refine read_err (hf1.out.trans hf2.out (fun x hx e=>by omega)) h4 (by rw[hans.out];simp) ?_
    rw[hans.out]
    exact .inr (.inr (.inl ⟨rfl,g,by simp at hg1;omega,rfl,h4.blk hg2.out (fun e=>by simp at hg1;omega)⟩))
  | ok r=>
   obtain⟨ds,t⟩:=r
   have hans:=hide (parseAns_first hs hp)
   have hgood:=hide (schema_good hs hp)
   have hall:=hide (pSchema_all hs hp)
   replace hp:=hide hp
   go_enter Tryz.func28,Tryz.ntmps28
   go_wp2_with (go_at_call 50;refine hC1.out.mono ?_;rintro e w1 ⟨sv,rv,ev,rfl,_,hIr,hf2,hm⟩;rw[hp.out] at hm;obtain⟨rfl,xs,o1,o2,o3,o4⟩:=hm;have hz1:=hf2.size;have hw1:w.heap.size+2≤w1.heap.size:=(by simp at hz1;omega);have hw2:w.heap.size<w1.heap.size:=(by omega);have hD1:=hide (And.intro (DRow.mono (Q:=fun g=>w.heap.size+2≤g∧g<w1.heap.size) (⟨o1,o2,o3,hall.out.2.2.2.2.2⟩:DRow w1 _ s ds sv xs) (fun g h1 h2=>⟨by simp at h2;omega,h1⟩)) (o4.mono (Q:=fun g=>w.heap.size+2≤g∧g<w1.heap.size) (fun g h1 h2=>⟨by simp at h2;omega,h1⟩)));obtain⟨sa,sc,rfl⟩:=own_sl o1;obtain⟨rT,rx,rfl⟩:=o4.iface;have R1:=hide (hf2.blk R0.out (by omega));replace hf2:=hide hf2;clear o1 o2 o3 o4 hIr)
   have start:Hid (∃ q:Nat,Value.int .i64 0=.int .i64 (q:Int)∧4-q≤4∧RSt w w1 s ds t (.slice sa ds.length sc) (.iface rT rx) xs q ((w1.alloc (.cells #[.slice sa ds.length sc,.iface rT rx] 85)).alloc (.cells #[.func (.func 51) #[] #[],.func (.func 52) #[] #[],.func (.func 53) #[] #[]] 111))):=by
    have hfa:Fr w1 ((w1.alloc (.cells #[.slice sa ds.length sc,.iface rT rx] 85)).alloc (.cells #[.func (.func 51) #[] #[],.func (.func 52) #[] #[],.func (.func 53) #[] #[]] 111)) (fun _=>False):=((Fr.refl w1 _).alloc _).alloc _
    refine hide ⟨0,rfl,by omega,⟨by simp,hw1,((hf1.out.trans hf2.out (fun x hx e=>by omega)).alloc _).alloc _,by omega,⟨hD1.out.1.fr hfa (fun _ _ f=>f),hD1.out.2.fr hfa (fun _ _ f=>f)⟩,fun h=>by omega,fun h=>by omega,fun h=>by omega,hfa.blk R1.out id,(Blk.new w1 #[.slice sa ds.length sc,.iface rT rx] 85).alloc _,⟨111,?_⟩⟩⟩
    have:=Blk.new (w1.alloc (.cells #[.slice sa ds.length sc,.iface rT rx] 85)) #[.func (.func 51) #[] #[],.func (.func 52) #[] #[],.func (.func 53) #[] #[]] 111
    simpa using this
   clear hC1 hP1 R0 hf1 hf2 hD1 R1 hz1
   go_loopg [27] 4 (fun m v W=>∃ q:Nat,v=.int .i64 (q:Int)∧4-q≤m∧RSt w w1 s ds t (.slice sa ds.length sc) (.iface rT rx) xs q W)
   case atStart=>exact start.out
   case round=>
    clear start
    obtain⟨q,rfl,hm,M⟩:=hrel
    have hz:=M.z
    have hz':w1.heap.size<wr.heap.size:=by omega
    have hz'':w.heap.size<wr.heap.size:=by omega
    obtain⟨lt,hL⟩:=M.L
    have b0:=M.B.cell 0
    have b1:=M.B.cell 1
    have l0:=hL.cell 0
    have l1:=hL.cell 1
    have l2:=hL.cell 2
    simp only[List.getElem?_cons_zero,List.getElem?_cons_succ] at b0 b1 l0 l1 l2
    clear hL
    have hq:q=0∨q=1∨q=2∨q=3:=by have:=M.q3;omega
    rcases hq with rfl|rfl|rfl|rfl
    ·have hM:=M.d
     have hC:=pcheckNames_any hM.1 hM.2 (hE.m.fr M.al id) hall.out.1 hall.out.2.1 (fun g hg=>by omega)
     replace hC:=hide hC
     have l0:=l0
     cases hF:nameF ds t with
     | nil=>
      replace hF:=hide hF
      replace M:=hide M
      clear hM
      go_wp2_with (go_at_call 51;refine hC.out.mono ?_;rintro e w3 ⟨v,rfl,hf3,hm⟩;rw[hF.out] at hm;obtain rfl:=hm;have M3:=hide ((M.out.chk hf3).next0 hF.out);clear hf3)
      go_roundg 3
      case measure=>omega
      case rel=>exact⟨1,rfl,Nat.le_refl _,M3.out⟩
     | cons x r=>
      replace hans:=hide (show parseAns s=(3,(x:Int)) by rw[hans.out];simp only[hF])
      replace hF:=hide hF
      replace M:=hide M
      clear hM
      go_wp2_with (go_at_call 51;refine hC.out.mono ?_;rintro e w3 ⟨v,rfl,hf3,hm⟩;rw[hF.out] at hm;obtain⟨g,hg1,rfl,hg2⟩:=hm;have M3:=M.out.chk hf3;have R3:=M3.R;have r0:=R3.cell 0;have r1:=R3.cell 1;have g0:=R3.thaw 0;have g1:=R3.thaw 1;simp only[List.getElem?_cons_zero,List.getElem?_cons_succ] at r0 r1;replace R3:=hide R3;replace M3:=hide M3.al;replace hf3:=hide hf3;replace hg2:=hide hg2)
      have S2:=Blk.pair R3.out (.slice none 0 0) .nilIface
      have q0:=S2.cell 0
      have q1:=S2.cell 1
      simp only[List.getElem?_cons_zero,List.getElem?_cons_succ] at q0 q1
      refine bodyPost_ret (v:=.tuple #[.agg #[.slice none 0 0,.nilIface],.iface 139 (.pointer (some ⟨g,0,none⟩))]) (by simp[results,Tryz.results28,go_sem,q0,q1]) rfl ?_
      rw[hPOST.out]
      have h4:=Fr.pair w3 w.heap.size (.slice none 0 0) .nilIface
      refine read_err M3.out h4 (by rw[hans.out];simp) ?_
      rw[hans.out]
      exact .inr (.inr (.inr (.inl ⟨rfl,g,by omega,rfl,h4.blk hg2.out (fun e=>by omega)⟩)))
    ·have hM:=M.d
     have hnm:=M.n (by omega)
     have hC:=pcheckUnions_any hM.1 hM.2 (hE.u.fr M.al id) hall.out.2.2.2.1 hall.out.2.2.2.2.1 ⟨hall.out.2.1,hall.out.2.2.1⟩ (fun g hg=>by omega)
     replace hC:=hide hC
     have l0:=l1
     cases hF:unionF ds t with
     | nil=>
      replace hF:=hide hF
      replace M:=hide M
      clear hM
      go_wp2_with (go_at_call 52;refine hC.out.mono ?_;rintro e w3 ⟨v,rfl,hf3,hm⟩;rw[hF.out] at hm;obtain rfl:=hm;have M3:=hide ((M.out.chk hf3).next1 hF.out);clear hf3)
      go_roundg 2
      case measure=>omega
      case rel=>exact⟨2,rfl,Nat.le_refl _,M3.out⟩
     | cons x r=>
      replace hans:=hide (show parseAns s=(4,(x:Int)) by rw[hans.out,hnm];simp only[hF])
      replace hF:=hide hF
      replace M:=hide M
      clear hM
      go_wp2_with (go_at_call 52;refine hC.out.mono ?_;rintro e w3 ⟨v,rfl,hf3,hm⟩;rw[hF.out] at hm;obtain⟨g,hg1,rfl,hg2⟩:=hm;have M3:=M.out.chk hf3;have R3:=M3.R;have r0:=R3.cell 0;have r1:=R3.cell 1;have g0:=R3.thaw 0;have g1:=R3.thaw 1;simp only[List.getElem?_cons_zero,List.getElem?_cons_succ] at r0 r1;replace R3:=hide R3;replace M3:=hide M3.al;replace hf3:=hide hf3;replace hg2:=hide hg2)
      have S2:=Blk.pair R3.out (.slice none 0 0) .nilIface
      have q0:=S2.cell 0
      have q1:=S2.cell 1
      simp only[List.getElem?_cons_zero,List.getElem?_cons_succ] at q0 q1
      refine bodyPost_ret (v:=.tuple #[.agg #[.slice none 0 0,.nilIface],.iface 139 (.pointer (some ⟨g,0,none⟩))]) (by simp[results,Tryz.results28,go_sem,q0,q1]) rfl ?_
      rw[hPOST.out]
      have h4:=Fr.pair w3 w.heap.size (.slice none 0 0) .nilIface
      refine read_err M3.out h4 (by rw[hans.out];simp) ?_
      rw[hans.out]
      exact .inr (.inr (.inr (.inr (.inl ⟨rfl,g,by omega,rfl,h4.blk hg2.out (fun e=>by omega)⟩))))
    ·have hM:=M.d
     have hnm:=M.n (by omega)
     have hun:=M.u (by omega)
     obtain⟨hg1',hg2'⟩:=hgood.out hnm hun
     have hC:=preadDefaults_any (w0:=w) (rT:=rT) (rx:=rx) hM.1 ((SameG.refl w).fr M.al (Nat.le_refl _) (fun _ f=>f.elim)) M.al.size (fun g hg=>by omega) (fun g hg=>by omega) hE.n hs hall.out.2.2.2.1 hg2' hg1' hI hQ hN
     replace hC:=hide hC
     have l0:=l2
     cases hF:dfltF s ds with
     | nil=>
      replace hF:=hide hF
      replace M:=hide M
      clear hM
      go_wp2_with (go_at_call 53;refine hC.out.mono ?_;rintro e w3 ⟨v,rfl,hf3,hm⟩;rw[hF.out] at hm;obtain⟨rfl,hD3,hT3⟩:=hm;have M3:=hide (M.out.next2 hf3 hF.out hD3 hT3);clear hf3 hD3 hT3)
      go_roundg 1
      case measure=>omega
      case rel=>exact⟨3,rfl,Nat.le_refl _,M3.out⟩
     | cons x r=>
      replace hans:=hide (show parseAns s=(5,(x:Int)) by rw[hans.out,hnm,hun];simp only[hF])
      replace hF:=hide hF
      replace M:=hide M
      clear hM
      go_wp2_with (go_at_call 53;refine hC.out.mono ?_;rintro e w3 ⟨v,rfl,hf3,hm⟩;rw[hF.out] at hm;obtain⟨ev,⟨g,hg1,rfl,hg2⟩,hEv⟩:=hm;have M3:=M.out.dft hf3;have R3:=M3.2;have r0:=R3.cell 0;have r1:=R3.cell 1;have g0:=R3.thaw 0;have g1:=R3.thaw 1;simp only[List.getElem?_cons_zero,List.getElem?_cons_succ] at r0 r1;replace R3:=hide R3;replace M3:=hide M3.1;replace hf3:=hide hf3;replace hg2:=hide hg2;replace hEv:=hide hEv)
      have S2:=Blk.pair R3.out (.slice none 0 0) .nilIface
      have q0:=S2.cell 0
      have q1:=S2.cell 1
      simp only[List.getElem?_cons_zero,List.getElem?_cons_succ] at q0 q1
      refine bodyPost_ret (v:=.tuple #[.agg #[.slice none 0 0,.nilIface],.iface 139 (.pointer (some ⟨g,0,none⟩))]) (by simp[results,Tryz.results28,go_sem,q0,q1]) rfl ?_
      rw[hPOST.out]
      have h4:=Fr.pair w3 w.heap.size (.slice none 0 0) .nilIface
      refine read_err M3.out h4 (by rw[hans.out];simp) ?_
      rw[hans.out]
      exact .inr (.inr (.inr (.inr (.inr ⟨rfl,ev,⟨g,by omega,rfl,h4.blk hg2.out (fun e=>by omega)⟩,(hEv.out.fr h4 (fun g hg e=>by omega)).less (by omega)⟩))))
    ·have r0:=M.R.cell 0
     have r1:=M.R.cell 1
     have g0:=M.R.thaw 0
     have g1:=M.R.thaw 1
     simp only[List.getElem?_cons_zero,List.getElem?_cons_succ] at r0 r1
     have S2:=hide (Blk.pair M.R (.slice sa ds.length sc) (.iface rT rx))
     replace M:=hide M
     go_wp2_with fail
     have q0:=S2.out.cell 0
     have q1:=S2.out.cell 1
     simp only[List.getElem?_cons_zero,List.getElem?_cons_succ] at q0 q1
     refine bodyPost_ret (v:=.tuple #[.agg #[.slice sa ds.length sc,.iface rT rx],.nilIface]) (by simp[results,Tryz.results28,go_sem,q0,q1]) rfl ?_
     rw[hPOST.out]
     have h4:=Fr.pair wr w.heap.size (.slice sa ds.length sc) (.iface rT rx)
     refine⟨_,_,_,rfl,⟨_,_,_,rfl⟩,.inr ⟨_,_,rfl⟩,M.out.al.trans h4 (fun x hx e=>by omega),.inl ?_,fun _=>?_⟩
     ·rw[hans.out,M.out.n (by omega),M.out.u (by omega),M.out.e (by omega)]
      exact⟨rfl,rfl,rfl⟩
     ·have up:∀ g,w.heap.size+2≤g∧g<w1.heap.size→¬ g=w.heap.size:=fun g h=>by omega
      have hz4:=h4.size
      have hw4:=M.out.z
      exact⟨ds,t,xs,hs,hp.out,M.out.n (by omega),M.out.u (by omega),(M.out.d.1.fr h4 up).mono (fun g h1 h2=>⟨by omega,h1⟩),(M.out.d.2.fr h4 up).mono (fun g h1 h2=>⟨by omega,h1⟩)⟩
end Go.Proofs.YtiifagiebikmdaaGreatDoor
