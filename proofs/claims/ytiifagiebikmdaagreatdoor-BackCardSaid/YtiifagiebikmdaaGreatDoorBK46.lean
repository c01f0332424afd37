import Derived.Test.YtiifagiebikmdaaGreatDoorRows
import Derived.Stop.LaidErr
import Derived.ProofKit
import Derived.Lay
import Derived.LaidHandle
import Derived.Test.YtiifagiebikmdaaGreatDoorShelf
import Derived.PinnedBridge
import Derived.Lib.LaidPrint
import Derived.Lib.LaidTab
import Derived.Test.YtiifagiebikmdaaGreatDoorBK38
import Derived.Test.YtiifagiebikmdaaGreatDoorBK29
import Derived.Stop.Joined
namespace Go.Proofs.YtiifagiebikmdaaGreatDoor
open Go.RowKit
def RowsOK (P:Program) (W:World) (ps:List MemPlace):Prop:=∀ b off,MemPlace.cell b off∈ps→
 (∃ c t,W.heap[b]?=some (.cells c t (0,0)))∧∀ u v,W.cell? ⟨b,off,none⟩=some (.iface u v)→Value.okWide P W .any 0 u v
def errD (nm:String) (text:List UInt8):DataW Unit:=.iface nm (.ptr (.agg [.lit (.string text)]))
structure ErrTypes (P:Program) (nm:String) (ti tp:TypeId):Prop where
 all:∃ te ts ms f,P.underlying ti=some (.interface ms)∧(∀ u,P.typeName? 3 u=some nm→u=tp)∧P.underlying tp=some (.pointer te)∧P.underlying te=some (.struct #[f])∧f.type=ts∧f.offset=0∧P.underlying ts=some .string∧P.cellsOf te=1∧P.cellsOf ts=1
theorem laid_err_head {P:Program}{W:World}{nm n:String}{ti tp:TypeId}{text:List UInt8}{r:List (String×DataW Unit)}{ps:List MemPlace}{g:Nat}(T:ErrTypes P nm ti tp) (h:DataW.LaidVars P W ((n,errD nm text)::r) ps) (hR:RowsOK P W ps)
 (hg:P.globalNamed n=some g) (ht:(P.globals[g]?).map (·.type)=some ti) :
 ∃ a q,W.var? P n=some #[.iface tp (.pointer (some a))]∧DataW.LaidVars P W r q∧ps=[.cell g 0,.cell a.block a.off]++q:=by
 obtain⟨te,ts,ms,f,hi,hrow,hp,he,hft,hfo,hs,hc,hcs⟩:=T.all
 obtain⟨g0,t0,cs0,f0,p0,q0,hg0,ht0,hv0,hd0,hq,e0⟩:=h
 obtain rfl:=Option.some.inj (hg.symm.trans hg0)
 obtain rfl:=Option.some.inj (ht.symm.trans ht0)
 obtain⟨l0⟩:=cs0
 have ok0:∀ u v,l0=[.iface u v]→Value.okWide P W .any 0 u v:=fun u v e=>by
  subst e
  exact(hR g 0 (by rw[e0];simp[MemPlace.row])).2 u v (by simpa using World.var?_cell hg0 hv0 0)
 obtain⟨a0,s0,rfl,hc0,hs0,hz0,hp0⟩:=errorString_of_trod hi hrow hp he hft hfo hs hc hcs hd0 ok0
 refine⟨a0,q0,hv0,hq,?_⟩
 rw[e0,hp0]
 simp[MemPlace.row]
theorem laid_err {P:Program}{W:World}{nm:String}{ti tp:TypeId}(T:ErrTypes P nm ti tp){n:String}{text:List UInt8}{g:Nat}(hg:P.globalNamed n=some g) (ht:(P.globals[g]?).map (·.type)=some ti) :
 ∀ {l:List (String×DataW Unit)} {ps:List MemPlace},DataW.LaidVars P W l ps→RowsOK P W ps→(n,errD nm text)∈l→
  ∃ a,W.var? P n=some #[.iface tp (.pointer (some a))]∧.cell a.block a.off∈ps
 | [],_,_,_,hm=>by cases hm
 |(n',d')::r,ps,h,hR,hm=>by
  rcases List.mem_cons.1 hm with e|hm
  ·cases e
   obtain⟨a,q,hv,_,rfl⟩:=laid_err_head T h hR hg ht
   exact⟨a,hv,by simp⟩
  ·obtain⟨g0,t0,cs0,f0,p0,q0,_,_,_,_,hq,rfl⟩:=h
   obtain⟨a,hv,hin⟩:=laid_err T hg ht hq (fun b off hb=>hR b off (by simp[hb])) hm
   exact⟨a,hv,by simp[hin]⟩
theorem laid_err_ne {P:Program}{W:World}{nm:String}{ti tp:TypeId}(T:ErrTypes P nm ti tp){n m:String}(hnm:n≠m){text text':List UInt8}{g g':Nat}(hg:P.globalNamed n=some g) (ht:(P.globals[g]?).map (·.type)=some ti) (hg':P.globalNamed m=some g') (ht':(P.globals[g']?).map (·.type)=some ti){a a':Addr}
 (ha:W.var? P n=some #[.iface tp (.pointer (some a))]) (ha':W.var? P m=some #[.iface tp (.pointer (some a'))]) :
 ∀ {l:List (String×DataW Unit)} {ps:List MemPlace},DataW.LaidVars P W l ps→RowsOK P W ps→ps.Nodup→(n,errD nm text)∈l→(m,errD nm text')∈l→a≠a'
 | [],_,_,_,_,hm,_=>by cases hm
 |(n',d')::r,ps,h,hR,hn,hm,hm'=>by
  rcases List.mem_cons.1 hm with e|hr
  ·cases e
   rcases List.mem_cons.1 hm' with e'|hm'
   ·cases e';exact absurd rfl hnm
   ·obtain⟨b,q,hv,hq,rfl⟩:=laid_err_head T h hR hg ht
    obtain⟨b',hv',hin⟩:=laid_err T hg' ht' hq (fun x off hb=>hR x off (by simp[hb])) hm'
    rw[ha] at hv
    rw[ha'] at hv'
    have e1:a=b:=by simpa using hv
    have e2:a'=b':=by simpa using hv'
    subst e1;subst e2
    rintro rfl
    simp[hin] at hn
  ·rcases List.mem_cons.1 hm' with e'|hm'
   ·cases e'
    obtain⟨b,q,hv,hq,rfl⟩:=laid_err_head T h hR hg' ht'
    obtain⟨b',hv',hin⟩:=laid_err T hg ht hq (fun x off hb=>hR x off (by simp[hb])) hr
    rw[ha'] at hv
    rw[ha] at hv'
    have e1:a'=b:=by simpa using hv
    have e2:a=b':=by simpa using hv'
    subst e1;subst e2
    rintro rfl
    simp[hin] at hn
   ·obtain⟨g0,t0,cs0,f0,p0,q0,_,_,_,_,hq,rfl⟩:=h
    exact laid_err_ne T hnm hg ht hg' ht' ha ha' hq (fun b off hb=>hR b off (by simp[hb])) (List.Nodup.sublist (List.sublist_append_right _ _) hn) hr hm'
open Go.ChangeShapes Go.WideShapes Go.ChangeAt Go.RowKit
def laidPlain:List (String×DataW Unit):=Rows.encodesRow.laid
theorem laid_plain:(laidPlain.filter fun x=>x.2.handleName?.isNone)=laidPlain:=by kernel_rfl
theorem laid_handles:(laidPlain.filter fun x=>x.2.handleName?.isSome)=[]:=by kernel_rfl
theorem laidWorld_os (os:Os):((World.holding Tryz.prog os ⟨#[],#[],[]⟩).layVars Tryz.prog laidPlain).os=os:=World.layVars_os _ _ _
theorem laidWorld_fits (os:Os):(World.holding Tryz.prog os ⟨#[],#[],[]⟩).layFits Tryz.prog laidPlain []=true:=by kernel_rfl
theorem laidWorld_ifaces (os:Os):(World.holding Tryz.prog os ⟨#[],#[],[]⟩).layIfaces Tryz.prog laidPlain ((World.holding Tryz.prog os ⟨#[],#[],[]⟩).layVars Tryz.prog laidPlain)=true:=by kernel_rfl
theorem laidWorld_met (os:Os) (args:Array Value):laidMetH Tryz.prog laidPlain (((World.holding Tryz.prog os ⟨#[],#[],[]⟩).layVars Tryz.prog laidPlain).forCall (fun _ _=>0) ⟨#[],args,[]⟩).memory:=by
 have e1:(laidPlain.filter fun x=>(laidPlain.map (·.1)).contains x.1)=laidPlain:=List.filter_eq_self.2 fun x hx=>List.contains_iff_mem.2 (List.mem_map.2 ⟨x,hx,rfl⟩)
 have e2:(laidPlain.filter fun x=>!(laidPlain.map (·.1)).contains x.1)=[]:=List.filter_eq_nil_iff.2 fun x hx=>by rw[List.contains_iff_mem.2 (List.mem_map.2 ⟨x,hx,rfl⟩)];simp
 have h:laidMet Tryz.prog laidPlain ((World.holding Tryz.prog os ⟨#[],#[],[]⟩).layVars Tryz.prog laidPlain):=laidMet_layVars (w0:=World.holding Tryz.prog os ⟨#[],#[],[]⟩) (laidPlain.map (·.1)) [] (by rw[e1]) (by rw[e1];exact laidWorld_fits os) (by rw[e1];exact laidWorld_ifaces os) (by rw[e2];exact LaidIn.none)
 refine laidMetH_of_parts ?_ ?_
 ·rw[laid_plain]
  exact h.of_heap (by simp[World.memory,World.forCall,Input.heap])
 ·rw[laid_handles]
  rfl
theorem laidWorld_shaped (os:Os) (args:Array Value):(((World.holding Tryz.prog os ⟨#[],#[],[]⟩).layVars Tryz.prog laidPlain).forCall (fun _ _=>0) ⟨#[],args,[]⟩).Shaped Tryz.prog:=World.shaped_of_ZipB (by kernel_rfl) (by kernel_rfl)
open Go.RowKit
theorem star_err : "*" ++ "errors.errorString" = "*errors.errorString":=by decide
theorem err_row (u:TypeId) (h:Tryz.prog.typeName? 3 u=some "*errors.errorString"):u=309:=
 typeName_ptr_named (nm:= "errors.errorString") (by rw[star_err];kernel_rfl) (by kernel_rfl) (by decide) u (by rw[star_err];exact h)
theorem errTypes:ErrTypes Tryz.prog "*errors.errorString" 53 309:=
 ⟨⟨_,_,_,_,Tryz.underlying53,err_row,Tryz.underlying309,Tryz.underlying311,rfl,rfl,Tryz.underlying9,by kernel_rfl,by kernel_rfl⟩⟩
def errNames:List (Nat×String×Nat):=[(7,"kin/schemas.ErrLong",9),(0,"kin/schemas.ErrGrammar",10),(1,"kin/schemas.ErrName",11),(2,"kin/schemas.ErrUnion",12),(3,"kin/notation.ErrNotOf",8),(4,"kin/wire.ErrData",14),(5,"kin/data.ErrBig",6),(6,"kin/reading.ErrNothing",15),(8,"kin/notation.ErrLong",7),(9,"kin/wire.ErrLong",13),(12,"strconv.ErrRange",4),(11,"strconv.ErrSyntax",5)]
theorem errNames_g:∀ x∈errNames,Tryz.prog.globalNamed x.2.1=some x.1:=by
 intro x hx
 simp only[errNames,List.mem_cons,List.mem_nil_iff,or_false] at hx
 rcases hx with rfl|rfl|rfl|rfl|rfl|rfl|rfl|rfl|rfl|rfl|rfl|rfl <;> kernel_rfl
theorem errNames_t:∀ x∈errNames,(Tryz.prog.globals[x.1]?).map (·.type)=some 53:=by
 intro x hx
 simp only[errNames,List.mem_cons,List.mem_nil_iff,or_false] at hx
 rcases hx with rfl|rfl|rfl|rfl|rfl|rfl|rfl|rfl|rfl|rfl|rfl|rfl <;> kernel_rfl
theorem errNames_l:∀ x∈errNames,∃ text,(x.2.1,errD "*errors.errorString" text)∈laidPlain:=by
 intro x hx
 simp only[errNames,List.mem_cons,List.mem_nil_iff,or_false] at hx
 rcases hx with rfl|rfl|rfl|rfl|rfl|rfl|rfl|rfl|rfl|rfl|rfl|rfl <;> first
  | exact⟨_,List.mem_of_getElem? (i:=4) rfl⟩|exact⟨_,List.mem_of_getElem? (i:=5) rfl⟩|exact⟨_,List.mem_of_getElem? (i:=6) rfl⟩|exact⟨_,List.mem_of_getElem? (i:=7) rfl⟩|exact⟨_,List.mem_of_getElem? (i:=8) rfl⟩|exact⟨_,List.mem_of_getElem? (i:=9) rfl⟩|exact⟨_,List.mem_of_getElem? (i:=10) rfl⟩|exact⟨_,List.mem_of_getElem? (i:=11) rfl⟩|exact⟨_,List.mem_of_getElem? (i:=12) rfl⟩|exact⟨_,List.mem_of_getElem? (i:=13) rfl⟩|exact⟨_,List.mem_of_getElem? (i:=14) rfl⟩|exact⟨_,List.mem_of_getElem? (i:=15) rfl⟩
theorem errNames_one:∀ x∈errNames,∀ y∈errNames,x.1=y.1→x.2.1=y.2.1:=by decide
section
variable {W:World}
theorem errs_of_laid (h:laidMet Tryz.prog laidPlain W):∃ A:Nat→Addr,(∀ x∈errNames,W.var? Tryz.prog x.2.1=some #[.iface 309 (.pointer (some (A x.1)))])∧(∀ x∈errNames,∃ c t,W.heap[(A x.1).block]?=some (.cells c t (0,0)))∧
 ∀ x∈errNames,∀ y∈errNames,x.1≠y.1→A x.1≠A y.1:=by
 obtain⟨ps,hv,hnd,hR⟩:=h
 have H:∀ x∈errNames,∃ a,W.var? Tryz.prog x.2.1=some #[.iface 309 (.pointer (some a))]∧.cell a.block a.off∈ps:=fun x hx=>by
  obtain⟨text,hm⟩:=errNames_l x hx
  exact laid_err errTypes (errNames_g x hx) (errNames_t x hx) hv hR hm
 have H2:∀ g:Nat,∃ a:Addr,∀ x∈errNames,x.1=g→W.var? Tryz.prog x.2.1=some #[.iface 309 (.pointer (some a))]∧.cell a.block a.off∈ps:=fun g=>by
  by_cases hg:∃ x∈errNames,x.1=g
  ·obtain⟨x,hx,rfl⟩:=hg
   obtain⟨a,ha⟩:=H x hx
   refine⟨a,fun y hy e=>?_⟩
   have:y.2.1=x.2.1:=errNames_one y hy x hx e
   rw[this]
   exact ha
  ·exact⟨⟨0,0,none⟩,fun x hx e=>absurd ⟨x,hx,e⟩ hg⟩
 refine⟨fun g=>Classical.choose (H2 g),fun x hx=>(Classical.choose_spec (H2 x.1) x hx rfl).1,fun x hx=>(hR _ _ (Classical.choose_spec (H2 x.1) x hx rfl).2).1,fun x hx y hy hne=>?_⟩
 obtain⟨t1,hm1⟩:=errNames_l x hx
 obtain⟨t2,hm2⟩:=errNames_l y hy
 refine laid_err_ne errTypes (fun e=>hne ?_) (errNames_g x hx) (errNames_t x hx) (errNames_g y hy) (errNames_t y hy) (Classical.choose_spec (H2 x.1) x hx rfl).1 (Classical.choose_spec (H2 y.1) y hy rfl).1 hv hR hnd hm1 hm2
 have h1:=errNames_g x hx
 rw[e,errNames_g y hy] at h1
 exact(Option.some.inj h1).symm
theorem pow10_of_laid (h:laidMet Tryz.prog laidPlain W):Lib.TabIs Tryz.prog W "internal/strconv.uint64pow10" .u64 Lib.pow10Tab:=by
 have e:(Rows.laid_internal_strconv_uint64pow10:DataW Unit)=Lib.tabData .u64 Lib.pow10Tab:=by kernel_rfl
 have h2:laidMet Tryz.prog (("internal/strconv.uint64pow10",Rows.laid_internal_strconv_uint64pow10)::laidPlain.drop 3) W:=h.tail.tail
 rw[e] at h2
 exact Lib.tabIs_of_head (g:=10) (t:=284) (e:=235) (n:=20) (by kernel_rfl) (by kernel_rfl) (by kernel_rfl) (by kernel_rfl) (by kernel_rfl) (by kernel_rfl) h2
theorem utf8_of_laid (h:laidMet Tryz.prog laidPlain W):Lib.Utf8Tabs 15 16 W:=by
 have e:Rows.laid_unicode_utf8_acceptRanges=Lib.acceptData:=by kernel_rfl
 have h1:=Lib.laidMet.reads h (n:= "unicode/utf8.first") (d:=Pinned.utf8First) (List.mem_of_getElem? (i:=21) rfl)
 have h2:=Lib.laidMet.reads h (n:= "unicode/utf8.acceptRanges") (d:=Rows.laid_unicode_utf8_acceptRanges) (List.mem_of_getElem? (i:=3) rfl)
 rw[Pinned.utf8First_eq] at h1
 rw[e] at h2
 exact utf8Tabs_of_reads (ρ:=Tryz.lays177_ren) { Tryz.lays177 with } ⟨by kernel_rfl,by kernel_rfl,by kernel_rfl,by kernel_rfl,by kernel_rfl,by kernel_rfl,by kernel_rfl⟩ h1 h2
theorem print_of_laid (h:laidMet Tryz.prog laidPlain W):Lib.PrintTabsAt 17 18 19 20 Lib.goPrintTabs W:=by
 have h1:=Lib.laidMet.reads h (n:= "strconv.isPrint16") (d:=Pinned.isPrint16) (List.mem_of_getElem? (i:=19) rfl)
 have h2:=Lib.laidMet.reads h (n:= "strconv.isNotPrint16") (d:=Pinned.isNotPrint16) (List.mem_of_getElem? (i:=17) rfl)
 have h3:=Lib.laidMet.reads h (n:= "strconv.isPrint32") (d:=Pinned.isPrint32) (List.mem_of_getElem? (i:=20) rfl)
 have h4:=Lib.laidMet.reads h (n:= "strconv.isNotPrint32") (d:=Pinned.isNotPrint32) (List.mem_of_getElem? (i:=18) rfl)
 rw[Pinned.isPrint16_eq] at h1
 rw[Pinned.isNotPrint16_eq] at h2
 rw[Pinned.isPrint32_eq] at h3
 rw[Pinned.isNotPrint32_eq] at h4
 exact printTabs_of_reads (ρ:=Tryz.lays177_ren) { Tryz.lays177 with } ⟨by kernel_rfl,by kernel_rfl,by kernel_rfl,by kernel_rfl,by kernel_rfl,by kernel_rfl,by kernel_rfl,by kernel_rfl,by kernel_rfl,by kernel_rfl⟩ h1 h2 h3 h4
theorem laid_parts (h:laidMetH Tryz.prog laidPlain W):laidMet Tryz.prog laidPlain W:=by
 unfold laidMetH at h
 rw[laid_plain,laid_handles] at h
 exact h
theorem var_cell {n:String}{g:Nat}{v:Value}(hg:Tryz.prog.globalNamed n=some g) (h:W.var? Tryz.prog n=some #[v]):W.cell? ⟨g,0,none⟩=some v:=by simpa using World.var?_cell hg h 0
end
open Go.RowKit
theorem Tryz.own:ownKnob Tryz.prog.godebug=none:=by kernel_rfl
theorem sentL_names:∀ g∈sentL,∃ x∈errNames,x.1=g:=by decide
theorem laid_gives {W:World}(h:laidMetH Tryz.prog laidPlain W):∃ A,Sents A W∧ItoaOK W∧QuoteOK W∧ParseOK W∧Lib.TabIs Tryz.prog W "internal/strconv.uint64pow10" .u64 Lib.pow10Tab:=by
 have hL:=laid_parts h
 obtain⟨A,hv,hr,hne⟩:=errs_of_laid hL
 have S:Sents A W:=by
  refine⟨fun g hg=>?_,fun g hg=>?_,fun g hg g' hg' e=>?_⟩
  ·obtain⟨x,hx,rfl⟩:=sentL_names g hg
   exact var_cell (errNames_g x hx) (hv x hx)
  ·obtain⟨x,hx,rfl⟩:=sentL_names g hg
   exact hr x hx
  ·obtain⟨x,hx,rfl⟩:=sentL_names g hg
   obtain⟨y,hy,rfl⟩:=sentL_names g' hg'
   exact hne x hx y hy e
 have h1:=hv (11,"strconv.ErrSyntax",5) (by decide)
 have h2:=hv (12,"strconv.ErrRange",4) (by decide)
 exact⟨A,S,itoa_ok (pow10_of_laid hL),quote_ok (print_of_laid hL) (utf8_of_laid hL),parseInt_ok h1 h2,pow10_of_laid hL⟩
theorem Fr.kept {W W':World}(h:Fr W W' (fun _=>False)):Below W.heap.size W W':=⟨h.os,h.tape,h.output,h.size,fun k hk=>h.block k hk id⟩
end Go.Proofs.YtiifagiebikmdaaGreatDoor
