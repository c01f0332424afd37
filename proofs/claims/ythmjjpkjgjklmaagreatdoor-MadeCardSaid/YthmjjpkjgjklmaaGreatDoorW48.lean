import Derived.Test.YthmjjpkjgjklmaaGreatDoorRows
import Derived.Stop.LaidErr
import Derived.ProofKit
import Derived.Lay
import Derived.LaidHandle
import Derived.Test.YthmjjpkjgjklmaaGreatDoorShelf
import Derived.PinnedBridge
import Derived.Lib.LaidPrint
import Derived.Lib.LaidTab
import Derived.Test.YthmjjpkjgjklmaaGreatDoorW34
import Derived.Test.YthmjjpkjgjklmaaGreatDoorW28
import Derived.Stop.Joined
import Derived.Test.YthmjjpkjgjklmaaGreatDoorA00
set_option maxHeartbeats 16000000
set_option maxRecDepth 100000
set_option linter.unusedSimpArgs false
open Go.Proofs.Tryz
namespace Go.Proofs.YthmjjpkjgjklmaaGreatDoor
open Go.RowKit
variable {n nm:String}{g:Nat}{P:Program}{ti tp:TypeId}{text:List UInt8}
def zut (P:Program) (W:World) (ps:List MemPlace):Prop:=∀ b off,MemPlace.cell b off∈ps->
 (∃ c t,W.heap[b]?=some (.cells c t (0,0)))/\∀ u v,W.cell? ⟨b,off,none⟩=some (.iface u v)->Value.okWide P W .any 0 u v
def errD (nm:String) (text:List UInt8):DataW Unit:=.iface nm (.ptr (.agg [.lit (.string text)]))
structure zfi (P:Program) (nm:String) (ti tp:TypeId):Prop where
 all:∃ te ts ms f,P.underlying ti=some (.interface ms)/\(∀ u,P.typeName? 3 u=some nm->u=tp)/\P.underlying tp=some (.pointer te)/\P.underlying te=some (.struct #[f])/\f.type=ts/\f.offset=0/\P.underlying ts=some .string/\P.cellsOf te=1/\P.cellsOf ts=1
theorem zap {W:World}{r:List (String×DataW Unit)}{ps:List MemPlace}(T:zfi P nm ti tp) (h:DataW.LaidVars P W ((n,errD nm text)::r) ps) (hR:zut P W ps)
 (hg:P.globalNamed n=some g) (ht:(P.globals[g]?).map (·.type)=some ti) :
 ∃ a q,W.var? P n=some #[.iface tp (.pointer (some a))]/\DataW.LaidVars P W r q/\ps=[.cell g 0,.cell a.block a.off]++q:=by
 obtain⟨te,ts,ms,f,hi,hrow,hp,he,hft,hfo,hs,hc,hcs⟩:=T.all;obtain⟨g0,t0,cs0,f0,p0,q0,hg0,ht0,hv0,hd0,hq,e0⟩:=h;obtain rfl:=Option.some.inj (hg.symm.trans hg0);obtain rfl:=Option.some.inj (ht.symm.trans ht0);obtain⟨l0⟩:=cs0
 have ok0:∀ u v,l0=[.iface u v]->Value.okWide P W .any 0 u v:=λ u v e=>by
  subst e;exact(hR g 0 (by rw[e0];simp[MemPlace.row])).2 u v (by simpa using World.var?_cell hg0 hv0 0)
 obtain⟨a0,s0,rfl,hc0,hs0,hz0,hp0⟩:=errorString_of_trod hi hrow hp he hft hfo hs hc hcs hd0 ok0;refine⟨a0,q0,hv0,hq,?_⟩;rw[e0,hp0]
 simp[MemPlace.row]
theorem zfb {W:World}(T:zfi P nm ti tp)(hg:P.globalNamed n=some g) (ht:(P.globals[g]?).map (·.type)=some ti) :
 ∀ {l:List (String×DataW Unit)} {ps:List MemPlace},DataW.LaidVars P W l ps->zut P W ps->(n,errD nm text)∈l->
  ∃ a,W.var? P n=some #[.iface tp (.pointer (some a))]/\.cell a.block a.off∈ps
 | [],_,_,_,hm=>by cases hm
 |(n',d')::r,ps,h,hR,hm=>by
  rcases an_.1 hm with e|hm
  ·cases e;obtain⟨a,q,hv,_,rfl⟩:=zap T h hR hg ht;exact⟨a,hv,by simp⟩
  ·obtain⟨g0,t0,cs0,f0,p0,q0,_,_,_,_,hq,rfl⟩:=h;obtain⟨a,hv,hin⟩:=zfb T hg ht hq (λ b off hb=>hR b off (by simp[hb])) hm;exact⟨a,hv,by simp[hin]⟩
theorem zga {W:World}(T:zfi P nm ti tp){m:String}(hnm:n≠m){text':List UInt8}{g':Nat}(hg:P.globalNamed n=some g) (ht:(P.globals[g]?).map (·.type)=some ti) (hg':P.globalNamed m=some g') (ht':(P.globals[g']?).map (·.type)=some ti){a a':Addr}
 (ha:W.var? P n=some #[.iface tp (.pointer (some a))]) (ha':W.var? P m=some #[.iface tp (.pointer (some a'))]) :
 ∀ {l:List (String×DataW Unit)} {ps:List MemPlace},DataW.LaidVars P W l ps->zut P W ps->ps.Nodup->(n,errD nm text)∈l->(m,errD nm text')∈l->a≠a'
 | [],_,_,_,_,hm,_=>by cases hm
 |(n',d')::r,ps,h,hR,hn,hm,hm'=>by
  rcases an_.1 hm with e|hr
  ·cases e
   rcases an_.1 hm' with e'|hm'
   ·cases e';exact absurd rfl hnm
   ·obtain⟨b,q,hv,hq,rfl⟩:=zap T h hR hg ht;obtain⟨b',hv',hin⟩:=zfb T hg' ht' hq (λ x off hb=>hR x off (by simp[hb])) hm';rw[ha] at hv;rw[ha'] at hv'
    have e1:a=b:=by simpa using hv
    have e2:a'=b':=by simpa using hv'
    subst e1;subst e2;rintro rfl
    simp[hin] at hn
  ·rcases an_.1 hm' with e'|hm'
   ·cases e';obtain⟨b,q,hv,hq,rfl⟩:=zap T h hR hg' ht';obtain⟨b',hv',hin⟩:=zfb T hg ht hq (λ x off hb=>hR x off (by simp[hb])) hr;rw[ha'] at hv;rw[ha] at hv'
    have e1:a'=b:=by simpa using hv
    have e2:a=b':=by simpa using hv'
    subst e1;subst e2;rintro rfl
    simp[hin] at hn
   ·obtain⟨g0,t0,cs0,f0,p0,q0,_,_,_,_,hq,rfl⟩:=h;exact zga T hnm hg ht hg' ht' ha ha' hq (λ b off hb=>hR b off (by simp[hb])) (List.Nodup.sublist (List.sublist_append_right _ _) hn) hr hm'
open Go.ChangeShapes Go.WideShapes Go.ChangeAt Go.RowKit
def zx_:List (String×DataW Unit):=Rows.madeRow.laid
theorem zhl:(zx_.filter λ x=>x.2.handleName?.isNone)=zx_:=by kernel_rfl
theorem zeb:(zx_.filter λ x=>x.2.handleName?.isSome)=[]:=by kernel_rfl
theorem zk2 (os:Os):((World.holding prog os ⟨#[],#[],[]⟩).layVars prog zx_).os=os:=World.layVars_os _ _ _
theorem zg6 (os:Os):(World.holding prog os ⟨#[],#[],[]⟩).layFits prog zx_ []=true:=by kernel_rfl
theorem ze0 (os:Os):(World.holding prog os ⟨#[],#[],[]⟩).layIfaces prog zx_ ((World.holding prog os ⟨#[],#[],[]⟩).layVars prog zx_)=true:=by kernel_rfl
theorem ziy (os:Os) (args:Array Value):laidMetH prog zx_ (((World.holding prog os ⟨#[],#[],[]⟩).layVars prog zx_).forCall (λ _ _=>0) ⟨#[],args,[]⟩).memory:=by
 have e1:(zx_.filter λ x=>(zx_.map (·.1)).contains x.1)=zx_:=List.filter_eq_self.2 λ x hx=>List.contains_iff_mem.2 (bk_.2 ⟨x,hx,rfl⟩)
 have e2:(zx_.filter λ x=>!(zx_.map (·.1)).contains x.1)=[]:=List.filter_eq_nil_iff.2 λ x hx=>by rw[List.contains_iff_mem.2 (bk_.2 ⟨x,hx,rfl⟩)];simp
 have h:laidMet prog zx_ ((World.holding prog os ⟨#[],#[],[]⟩).layVars prog zx_):=laidMet_layVars (w0:=World.holding prog os ⟨#[],#[],[]⟩) (zx_.map (·.1)) [] (by rw[e1]) (by rw[e1];exact zg6 os) (by rw[e1];exact ze0 os) (by rw[e2];exact LaidIn.none);refine laidMetH_of_parts ?_ ?_
 ·rw[zhl];exact h.of_heap (by simp[World.memory,World.forCall,Input.heap])
 ·rw[zeb]
  rfl
theorem zez (os:Os) (args:Array Value):(((World.holding prog os ⟨#[],#[],[]⟩).layVars prog zx_).forCall (λ _ _=>0) ⟨#[],args,[]⟩).Shaped prog:=World.shaped_of_ZipB (by kernel_rfl) (by kernel_rfl)
open Go.RowKit
theorem zod : "*" ++ "errors.errorString" = "*errors.errorString":=by decide
theorem zyh (u:TypeId) (h:Tryz.prog.typeName? 3 u=some "*errors.errorString"):u=438:=
 typeName_ptr_named (nm:= "errors.errorString") (by rw[zod];kernel_rfl) (by kernel_rfl) (by decide) u (by rw[zod];exact h)
theorem zou:zfi prog "*errors.errorString" 56 438:=
 ⟨⟨_,_,_,_,underlying56,zyh,underlying438,underlying440,rfl,rfl,underlying9,by kernel_rfl,by kernel_rfl⟩⟩
def xj_:List (Nat×String×Nat):=[(8,"kin/schemas.ErrLong",9),(0,"kin/schemas.ErrGrammar",10),(1,"kin/schemas.ErrName",11),(2,"kin/schemas.ErrUnion",12),(3,"kin/notation.ErrNotOf",8),(4,"kin/wire.ErrData",14),(5,"kin/data.ErrBig",6),(6,"kin/reading.ErrNothing",15),(9,"kin/notation.ErrLong",7),(7,"kin/wire.ErrLong",13),(15,"strconv.ErrRange",4),(14,"strconv.ErrSyntax",5)]
theorem jq_:∀ x∈xj_,Tryz.prog.globalNamed x.2.1=some x.1:=by
 intro x hx;simp only[xj_,an_,List.mem_nil_iff,or_false] at hx
 rcases hx with rfl|rfl|rfl|rfl|rfl|rfl|rfl|rfl|rfl|rfl|rfl|rfl<;>kernel_rfl
theorem zdv:∀ x∈xj_,(Tryz.prog.globals[x.1]?).map (·.type)=some 56:=by
 intro x hx;simp only[xj_,an_,List.mem_nil_iff,or_false] at hx
 rcases hx with rfl|rfl|rfl|rfl|rfl|rfl|rfl|rfl|rfl|rfl|rfl|rfl<;>kernel_rfl
theorem zdw:∀ x∈xj_,∃ text,(x.2.1,errD "*errors.errorString" text)∈zx_:=by
 intro x hx;simp only[xj_,an_,List.mem_nil_iff,or_false] at hx
 rcases hx with rfl|rfl|rfl|rfl|rfl|rfl|rfl|rfl|rfl|rfl|rfl|rfl<;>first
  | exact⟨_,ak_ (i:=4) rfl⟩|exact⟨_,ak_ (i:=5) rfl⟩|exact⟨_,ak_ (i:=6) rfl⟩|exact⟨_,ak_ (i:=7) rfl⟩|exact⟨_,ak_ (i:=8) rfl⟩|exact⟨_,ak_ (i:=9) rfl⟩|exact⟨_,ak_ (i:=10) rfl⟩|exact⟨_,ak_ (i:=11) rfl⟩|exact⟨_,ak_ (i:=12) rfl⟩|exact⟨_,ak_ (i:=13) rfl⟩|exact⟨_,ak_ (i:=14) rfl⟩|exact⟨_,ak_ (i:=15) rfl⟩
theorem zlg:∀ x∈xj_,∀ y∈xj_,x.1=y.1->x.2.1=y.2.1:=by decide
section
variable {W:World}
theorem zlf (h:laidMet prog zx_ W):∃ A:Nat->Addr,(∀ x∈xj_,W.var? prog x.2.1=some #[.iface 438 (.pointer (some (A x.1)))])/\(∀ x∈xj_,∃ c t,W.heap[(A x.1).block]?=some (.cells c t (0,0)))/\
 ∀ x∈xj_,∀ y∈xj_,x.1≠y.1->A x.1≠A y.1:=by
 obtain⟨ps,hv,hnd,hR⟩:=h
 have H:∀ x∈xj_,∃ a,W.var? prog x.2.1=some #[.iface 438 (.pointer (some a))]/\.cell a.block a.off∈ps:=λ x hx=>by
  obtain⟨text,hm⟩:=zdw x hx;exact zfb zou (jq_ x hx) (zdv x hx) hv hR hm
 have H2:∀ g:Nat,∃ a:Addr,∀ x∈xj_,x.1=g->W.var? prog x.2.1=some #[.iface 438 (.pointer (some a))]/\.cell a.block a.off∈ps:=λ g=>by
  by_cases hg:∃ x∈xj_,x.1=g
  ·obtain⟨x,hx,rfl⟩:=hg;obtain⟨a,ha⟩:=H x hx;refine⟨a,λ y hy e=>?_⟩;have:y.2.1=x.2.1:=zlg y hy x hx e;rw[this];exact ha
  ·exact⟨⟨0,0,none⟩,λ x hx e=>absurd ⟨x,hx,e⟩ hg⟩
 refine⟨λ g=>Classical.choose (H2 g),λ x hx=>(Classical.choose_spec (H2 x.1) x hx rfl).1,λ x hx=>(hR _ _ (Classical.choose_spec (H2 x.1) x hx rfl).2).1,λ x hx y hy hne=>?_⟩;obtain⟨t1,hm1⟩:=zdw x hx;obtain⟨t2,hm2⟩:=zdw y hy;refine zga zou (λ e=>hne ?_) (jq_ x hx) (zdv x hx) (jq_ y hy) (zdv y hy) (Classical.choose_spec (H2 x.1) x hx rfl).1 (Classical.choose_spec (H2 y.1) y hy rfl).1 hv hR hnd hm1 hm2;have h1:=jq_ x hx;rw[e,jq_ y hy] at h1;exact(Option.some.inj h1).symm
theorem zct (h:laidMet prog zx_ W):Lib.TabIs prog W "internal/strconv.uint64pow10" .u64 Lib.pow10Tab:=by
 have e:(Rows.laid_internal_strconv_uint64pow10:DataW Unit)=Lib.tabData .u64 Lib.pow10Tab:=by kernel_rfl
 have h2:laidMet prog (("internal/strconv.uint64pow10",Rows.laid_internal_strconv_uint64pow10)::zx_.drop 3) W:=h.tail.tail
 rw[e] at h2;exact Lib.tabIs_of_head (g:=10) (t:=408) (e:=302) (n:=20) (by kernel_rfl) (by kernel_rfl) (by kernel_rfl) (by kernel_rfl) (by kernel_rfl) (by kernel_rfl) h2
theorem zjn (h:laidMet prog zx_ W):Lib.Utf8Tabs 16 17 W:=by
 have e:Rows.laid_unicode_utf8_acceptRanges=Lib.acceptData:=by kernel_rfl
 have h1:=Lib.laidMet.reads h (n:= "unicode/utf8.first") (d:=Pinned.utf8First) (ak_ (i:=21) rfl)
 have h2:=Lib.laidMet.reads h (n:= "unicode/utf8.acceptRanges") (d:=Rows.laid_unicode_utf8_acceptRanges) (ak_ (i:=3) rfl)
 rw[Pinned.utf8First_eq] at h1;rw[e] at h2;exact utf8Tabs_of_reads (ρ:=Tryz.lays177_ren) { Tryz.lays177 with } ⟨by kernel_rfl,by kernel_rfl,by kernel_rfl,by kernel_rfl,by kernel_rfl,by kernel_rfl,by kernel_rfl⟩ h1 h2
theorem zie (h:laidMet prog zx_ W):Lib.PrintTabsAt 18 19 20 21 Lib.goPrintTabs W:=by
 have h1:=Lib.laidMet.reads h (n:= "strconv.isPrint16") (d:=Pinned.isPrint16) (ak_ (i:=19) rfl)
 have h2:=Lib.laidMet.reads h (n:= "strconv.isNotPrint16") (d:=Pinned.isNotPrint16) (ak_ (i:=17) rfl)
 have h3:=Lib.laidMet.reads h (n:= "strconv.isPrint32") (d:=Pinned.isPrint32) (ak_ (i:=20) rfl)
 have h4:=Lib.laidMet.reads h (n:= "strconv.isNotPrint32") (d:=Pinned.isNotPrint32) (ak_ (i:=18) rfl)
 rw[Pinned.isPrint16_eq] at h1;rw[Pinned.isNotPrint16_eq] at h2;rw[Pinned.isPrint32_eq] at h3;rw[Pinned.isNotPrint32_eq] at h4;exact printTabs_of_reads (ρ:=Tryz.lays177_ren) { Tryz.lays177 with } ⟨by kernel_rfl,by kernel_rfl,by kernel_rfl,by kernel_rfl,by kernel_rfl,by kernel_rfl,by kernel_rfl,by kernel_rfl,by kernel_rfl,by kernel_rfl⟩ h1 h2 h3 h4
theorem zqe (h:laidMetH prog zx_ W):laidMet prog zx_ W:=by
 unfold laidMetH at h;rw[zhl,zeb] at h;exact h
theorem zu7 {v:Value}(hg:Tryz.prog.globalNamed n=some g) (h:W.var? prog n=some #[v]):W.cell? ⟨g,0,none⟩=some v:=by simpa using World.var?_cell hg h 0
end
open Go.RowKit
theorem Tryz.own:ownKnob Tryz.prog.godebug=none:=by kernel_rfl
theorem zaj:∀ g∈zh8,∃ x∈xj_,x.1=g:=by decide
theorem zqf {W:World}(h:laidMetH prog zx_ W):∃ A,xg_ A W/\yi_ W/\yd_ W/\xh_ W/\Lib.TabIs prog W "internal/strconv.uint64pow10" .u64 Lib.pow10Tab:=by
 have hL:=zqe h;obtain⟨A,hv,hr,hne⟩:=zlf hL
 have S:xg_ A W:=by
  refine⟨λ g hg=>?_,λ g hg=>?_,λ g hg g' hg' e=>?_⟩
  ·obtain⟨x,hx,rfl⟩:=zaj g hg;exact zu7 (jq_ x hx) (hv x hx)
  ·obtain⟨x,hx,rfl⟩:=zaj g hg;exact hr x hx
  ·obtain⟨x,hx,rfl⟩:=zaj g hg;obtain⟨y,hy,rfl⟩:=zaj g' hg';exact hne x hx y hy e
 have h1:=hv (14,"strconv.ErrSyntax",5) (by decide)
 have h2:=hv (15,"strconv.ErrRange",4) (by decide)
 exact⟨A,S,zyf (zct hL),zvn (zie hL) (zjn hL),zmo h1 h2,zct hL⟩
theorem Fr.kept {W W':World}(h:Fr W W' (λ _=>False)):Below W.heap.size W W':=⟨h.os,h.tape,h.output,h.size,λ k hk=>h.block k hk id⟩
end Go.Proofs.YthmjjpkjgjklmaaGreatDoor
