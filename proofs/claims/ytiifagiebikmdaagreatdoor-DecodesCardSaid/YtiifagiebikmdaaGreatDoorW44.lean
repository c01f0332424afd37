import Derived.Test.YtiifagiebikmdaaGreatDoorRows
import Derived.Stop.LaidErr
import Derived.ProofKit
import Derived.Lay
import Derived.LaidHandle
import Derived.Test.YtiifagiebikmdaaGreatDoorShelf
import Derived.PinnedBridge
import Derived.Lib.LaidPrint
import Derived.Lib.LaidTab
import Derived.Test.YtiifagiebikmdaaGreatDoorW41
import Derived.Test.YtiifagiebikmdaaGreatDoorW30
import Derived.Stop.Joined
import Derived.Test.YtiifagiebikmdaaGreatDoorA00
set_option maxHeartbeats 16000000
set_option maxRecDepth 100000
set_option linter.unusedSimpArgs false
open Go.Proofs.Tryz
namespace Go.Proofs.YtiifagiebikmdaaGreatDoor
open Go.RowKit
variable {n nm:String}{g:Nat}{P:Program}{ti tp:TypeId}{text:List UInt8}
def zs0 (P:Program) (W:World) (ps:List MemPlace):Prop:=∀ b off,MemPlace.cell b off∈ps->
 (∃ c t,W.heap[b]?=some (.cells c t (0,0)))/\∀ u v,W.cell? ⟨b,off,none⟩=some (.iface u v)->Value.okWide P W .any 0 u v
def errD (nm:String) (text:List UInt8):DataW Unit:=.iface nm (.ptr (.agg [.lit (.string text)]))
structure ze3 (P:Program) (nm:String) (ti tp:TypeId):Prop where
 all:∃ te ts ms f,P.underlying ti=some (.interface ms)/\(∀ u,P.typeName? 3 u=some nm->u=tp)/\P.underlying tp=some (.pointer te)/\P.underlying te=some (.struct #[f])/\f.type=ts/\f.offset=0/\P.underlying ts=some .string/\P.cellsOf te=1/\P.cellsOf ts=1
theorem zat {W:World}{j:List (String×DataW Unit)}{b:List MemPlace}(T:ze3 P nm ti tp) (h:DataW.LaidVars P W ((n,errD nm text)::j) b) (m:zs0 P W b)
 (hg:P.globalNamed n=some g) (A:(P.globals[g]?).map (·.type)=some ti) :
 ∃ a q,W.var? P n=some #[.iface tp (.pointer (some a))]/\DataW.LaidVars P W j q/\b=[.cell g 0,.cell a.block a.off]++q:=by
 obtain⟨te,ts,ms,f,t,z,w,he,s,r,hs,hc,o⟩:=T.all;obtain⟨G,M,l,F,K,E,d,B,i,p,y,c⟩:=h;obtain rfl:=Option.some.inj (hg.symm.trans d);obtain rfl:=Option.some.inj (A.symm.trans B);obtain⟨C⟩:=l
 have D:∀ u v,C=[.iface u v]->Value.okWide P W .any 0 u v:=λ u v e=>by
  subst e;exact(m g 0 (by rw[c];simp[MemPlace.row])).2 u v (by simpa using World.var?_cell d i 0)
 obtain⟨k,L,rfl,H,I,J,x⟩:=errorString_of_trod t z w he s r hs hc o p D;refine⟨k,E,i,y,?_⟩;rw[c,x]
 simp[MemPlace.row]
theorem zey {W:World}(T:ze3 P nm ti tp)(hg:P.globalNamed n=some g) (f:(P.globals[g]?).map (·.type)=some ti) :
 ∀ {l:List (String×DataW Unit)} {ps:List MemPlace},DataW.LaidVars P W l ps->zs0 P W ps->(n,errD nm text)∈l->
  ∃ a,W.var? P n=some #[.iface tp (.pointer (some a))]/\.cell a.block a.off∈ps
 | [],_,_,_,c=>by cases c
 |(n',d')::r,ps,h,hR,c=>by
  rcases ap_.1 c with e|c
  ·cases e;obtain⟨a,q,d,_,rfl⟩:=zat T h hR hg f;exact⟨a,d,by simp⟩
  ·obtain⟨o,t,k,m,p,s,_,_,_,_,j,rfl⟩:=h;obtain⟨a,d,i⟩:=zey T hg f j (λ b off hb=>hR b off (by simp[hb])) c;exact⟨a,d,by simp[i]⟩
theorem zfx {W:World}(T:ze3 P nm ti tp){m:String}(A:n≠m){C:List UInt8}{g':Nat}(hg:P.globalNamed n=some g) (y:(P.globals[g]?).map (·.type)=some ti) (v:P.globalNamed m=some g') (z:(P.globals[g']?).map (·.type)=some ti){a j:Addr}
 (t:W.var? P n=some #[.iface tp (.pointer (some a))]) (u:W.var? P m=some #[.iface tp (.pointer (some j))]) :
 ∀ {l:List (String×DataW Unit)} {ps:List MemPlace},DataW.LaidVars P W l ps->zs0 P W ps->ps.Nodup->(n,errD nm text)∈l->(m,errD nm C)∈l->a≠j
 | [],_,_,_,_,hm,_=>by cases hm
 |(n',d')::r,ps,h,hR,hn,hm,c=>by
  rcases ap_.1 hm with e|B
  ·cases e
   rcases ap_.1 c with o|c
   ·cases o;exact absurd rfl A
   ·obtain⟨b,q,f,d,rfl⟩:=zat T h hR hg y;obtain⟨k,i,w⟩:=zey T v z d (λ x off hb=>hR x off (by simp[hb])) c;rw[t] at f;rw[u] at i
    have p:a=b:=by simpa using f
    have s:j=k:=by simpa using i
    subst p;subst s;rintro rfl
    simp[w] at hn
  ·rcases ap_.1 c with o|c
   ·cases o;obtain⟨b,q,f,d,rfl⟩:=zat T h hR v z;obtain⟨k,i,w⟩:=zey T hg y d (λ x off hb=>hR x off (by simp[hb])) B;rw[u] at f;rw[t] at i
    have p:j=b:=by simpa using f
    have s:a=k:=by simpa using i
    subst p;subst s;rintro rfl
    simp[w] at hn
   ·obtain⟨F,I,D,E,G,H,_,_,_,_,d,rfl⟩:=h;exact zfx T A hg y v z t u d (λ b off hb=>hR b off (by simp[hb])) (List.Nodup.sublist (List.sublist_append_right _ _) hn) B c
open Go.ChangeShapes Go.WideShapes Go.ChangeAt Go.RowKit
def z4_:List (String×DataW Unit):=Rows.encodesRow.laid
theorem zg5:(z4_.filter λ x=>x.2.handleName?.isNone)=z4_:=by kernel_rfl
theorem zec:(z4_.filter λ x=>x.2.handleName?.isSome)=[]:=by kernel_rfl
theorem zkd (os:Os):((World.holding prog os ⟨#[],#[],[]⟩).layVars prog z4_).os=os:=World.layVars_os _ _ _
theorem zgt (os:Os):(World.holding prog os ⟨#[],#[],[]⟩).layFits prog z4_ []=true:=by kernel_rfl
theorem zep (os:Os):(World.holding prog os ⟨#[],#[],[]⟩).layIfaces prog z4_ ((World.holding prog os ⟨#[],#[],[]⟩).layVars prog z4_)=true:=by kernel_rfl
theorem zia (os:Os) (c:Array Value):laidMetH prog z4_ (((World.holding prog os ⟨#[],#[],[]⟩).layVars prog z4_).forCall (λ _ _=>0) ⟨#[],c,[]⟩).memory:=by
 have a:(z4_.filter λ x=>(z4_.map (·.1)).contains x.1)=z4_:=List.filter_eq_self.2 λ x b=>List.contains_iff_mem.2 (bs_.2 ⟨x,b,rfl⟩)
 have d:(z4_.filter λ x=>!(z4_.map (·.1)).contains x.1)=[]:=List.filter_eq_nil_iff.2 λ x b=>by rw[List.contains_iff_mem.2 (bs_.2 ⟨x,b,rfl⟩)];simp
 have h:laidMet prog z4_ ((World.holding prog os ⟨#[],#[],[]⟩).layVars prog z4_):=laidMet_layVars (w0:=World.holding prog os ⟨#[],#[],[]⟩) (z4_.map (·.1)) [] (by rw[a]) (by rw[a];exact zgt os) (by rw[a];exact zep os) (by rw[d];exact LaidIn.none);refine laidMetH_of_parts ?_ ?_
 ·rw[zg5];exact h.of_heap (by simp[World.memory,World.forCall,Input.heap])
 ·rw[zec]
  rfl
theorem zeo (os:Os) (a:Array Value):(((World.holding prog os ⟨#[],#[],[]⟩).layVars prog z4_).forCall (λ _ _=>0) ⟨#[],a,[]⟩).Shaped prog:=World.shaped_of_ZipB (by kernel_rfl) (by kernel_rfl)
open Go.RowKit
theorem zm5 : "*" ++ "errors.errorString" = "*errors.errorString":=by decide
theorem zw1 (u:TypeId) (h:Tryz.prog.typeName? 3 u=some "*errors.errorString"):u=309:=
 typeName_ptr_named (nm:= "errors.errorString") (by rw[zm5];kernel_rfl) (by kernel_rfl) (by decide) u (by rw[zm5];exact h)
theorem znp:ze3 prog "*errors.errorString" 53 309:=
 ⟨⟨_,_,_,_,underlying53,zw1,underlying309,underlying311,rfl,rfl,underlying9,by kernel_rfl,by kernel_rfl⟩⟩
def xg_:List (Nat×String×Nat):=[(7,"kin/schemas.ErrLong",9),(0,"kin/schemas.ErrGrammar",10),(1,"kin/schemas.ErrName",11),(2,"kin/schemas.ErrUnion",12),(3,"kin/notation.ErrNotOf",8),(4,"kin/wire.ErrData",14),(5,"kin/data.ErrBig",6),(6,"kin/reading.ErrNothing",15),(8,"kin/notation.ErrLong",7),(9,"kin/wire.ErrLong",13),(12,"strconv.ErrRange",4),(11,"strconv.ErrSyntax",5)]
theorem jh_:∀ x∈xg_,Tryz.prog.globalNamed x.2.1=some x.1:=by
 intro x a;simp only[xg_,ap_,List.mem_nil_iff,or_false] at a
 rcases a with rfl|rfl|rfl|rfl|rfl|rfl|rfl|rfl|rfl|rfl|rfl|rfl<;>kernel_rfl
theorem zds:∀ x∈xg_,(Tryz.prog.globals[x.1]?).map (·.type)=some 53:=by
 intro x a;simp only[xg_,ap_,List.mem_nil_iff,or_false] at a
 rcases a with rfl|rfl|rfl|rfl|rfl|rfl|rfl|rfl|rfl|rfl|rfl|rfl<;>kernel_rfl
theorem zdt:∀ x∈xg_,∃ text,(x.2.1,errD "*errors.errorString" text)∈z4_:=by
 intro x a;simp only[xg_,ap_,List.mem_nil_iff,or_false] at a
 rcases a with rfl|rfl|rfl|rfl|rfl|rfl|rfl|rfl|rfl|rfl|rfl|rfl<;>first
  | exact⟨_,aw_ (i:=4) rfl⟩|exact⟨_,aw_ (i:=5) rfl⟩|exact⟨_,aw_ (i:=6) rfl⟩|exact⟨_,aw_ (i:=7) rfl⟩|exact⟨_,aw_ (i:=8) rfl⟩|exact⟨_,aw_ (i:=9) rfl⟩|exact⟨_,aw_ (i:=10) rfl⟩|exact⟨_,aw_ (i:=11) rfl⟩|exact⟨_,aw_ (i:=12) rfl⟩|exact⟨_,aw_ (i:=13) rfl⟩|exact⟨_,aw_ (i:=14) rfl⟩|exact⟨_,aw_ (i:=15) rfl⟩
theorem zkr:∀ x∈xg_,∀ y∈xg_,x.1=y.1->x.2.1=y.2.1:=by decide
section
variable {W:World}
theorem zkq (h:laidMet prog z4_ W):∃ A:Nat->Addr,(∀ x∈xg_,W.var? prog x.2.1=some #[.iface 309 (.pointer (some (A x.1)))])/\(∀ x∈xg_,∃ c t,W.heap[(A x.1).block]?=some (.cells c t (0,0)))/\
 ∀ x∈xg_,∀ d∈xg_,x.1≠d.1->A x.1≠A d.1:=by
 obtain⟨l,k,s,j⟩:=h
 have m:∀ x∈xg_,∃ a,W.var? prog x.2.1=some #[.iface 309 (.pointer (some a))]/\.cell a.block a.off∈l:=λ x b=>by
  obtain⟨text,p⟩:=zdt x b;exact zey znp (jh_ x b) (zds x b) k j p
 have i:∀ g:Nat,∃ a:Addr,∀ x∈xg_,x.1=g->W.var? prog x.2.1=some #[.iface 309 (.pointer (some a))]/\.cell a.block a.off∈l:=λ g=>by
  by_cases hg:∃ x∈xg_,x.1=g
  ·obtain⟨x,b,rfl⟩:=hg;obtain⟨a,o⟩:=m x b;refine⟨a,λ d f e=>?_⟩;have:d.2.1=x.2.1:=zkr d f x b e;rw[this];exact o
  ·exact⟨⟨0,0,none⟩,λ x b e=>absurd ⟨x,b,e⟩ hg⟩
 refine⟨λ g=>Classical.choose (i g),λ x b=>(Classical.choose_spec (i x.1) x b rfl).1,λ x b=>(j _ _ (Classical.choose_spec (i x.1) x b rfl).2).1,λ x b d f u=>?_⟩;obtain⟨v,q⟩:=zdt x b;obtain⟨w,r⟩:=zdt d f;refine zfx znp (λ e=>u ?_) (jh_ x b) (zds x b) (jh_ d f) (zds d f) (Classical.choose_spec (i x.1) x b rfl).1 (Classical.choose_spec (i d.1) d f rfl).1 k j s q r;have h1:=jh_ x b;rw[e,jh_ d f] at h1;exact(Option.some.inj h1).symm
theorem zcr (h:laidMet prog z4_ W):Lib.TabIs prog W "internal/strconv.uint64pow10" .u64 Lib.pow10Tab:=by
 have e:(Rows.laid_internal_strconv_uint64pow10:DataW Unit)=Lib.tabData .u64 Lib.pow10Tab:=by kernel_rfl
 have a:laidMet prog (("internal/strconv.uint64pow10",Rows.laid_internal_strconv_uint64pow10)::z4_.drop 3) W:=h.tail.tail
 rw[e] at a;exact Lib.tabIs_of_head (g:=10) (t:=284) (e:=235) (n:=20) (by kernel_rfl) (by kernel_rfl) (by kernel_rfl) (by kernel_rfl) (by kernel_rfl) (by kernel_rfl) a
theorem zi8 (h:laidMet prog z4_ W):Lib.Utf8Tabs 15 16 W:=by
 have e:Rows.laid_unicode_utf8_acceptRanges=Lib.acceptData:=by kernel_rfl
 have h1:=Lib.laidMet.reads h (n:= "unicode/utf8.first") (d:=Pinned.utf8First) (aw_ (i:=21) rfl)
 have a:=Lib.laidMet.reads h (n:= "unicode/utf8.acceptRanges") (d:=Rows.laid_unicode_utf8_acceptRanges) (aw_ (i:=3) rfl)
 rw[Pinned.utf8First_eq] at h1;rw[e] at a;exact utf8Tabs_of_reads (ρ:=Tryz.lays177_ren) { Tryz.lays177 with } ⟨by kernel_rfl,by kernel_rfl,by kernel_rfl,by kernel_rfl,by kernel_rfl,by kernel_rfl,by kernel_rfl⟩ h1 a
theorem zhv (h:laidMet prog z4_ W):Lib.PrintTabsAt 17 18 19 20 Lib.goPrintTabs W:=by
 have h1:=Lib.laidMet.reads h (n:= "strconv.isPrint16") (d:=Pinned.isPrint16) (aw_ (i:=19) rfl)
 have a:=Lib.laidMet.reads h (n:= "strconv.isNotPrint16") (d:=Pinned.isNotPrint16) (aw_ (i:=17) rfl)
 have b:=Lib.laidMet.reads h (n:= "strconv.isPrint32") (d:=Pinned.isPrint32) (aw_ (i:=20) rfl)
 have c:=Lib.laidMet.reads h (n:= "strconv.isNotPrint32") (d:=Pinned.isNotPrint32) (aw_ (i:=18) rfl)
 rw[Pinned.isPrint16_eq] at h1;rw[Pinned.isNotPrint16_eq] at a;rw[Pinned.isPrint32_eq] at b;rw[Pinned.isNotPrint32_eq] at c;exact printTabs_of_reads (ρ:=Tryz.lays177_ren) { Tryz.lays177 with } ⟨by kernel_rfl,by kernel_rfl,by kernel_rfl,by kernel_rfl,by kernel_rfl,by kernel_rfl,by kernel_rfl,by kernel_rfl,by kernel_rfl,by kernel_rfl⟩ h1 a b c
theorem zo7 (h:laidMetH prog z4_ W):laidMet prog z4_ W:=by
 unfold laidMetH at h;rw[zg5,zec] at h;exact h
theorem zte {v:Value}(hg:Tryz.prog.globalNamed n=some g) (h:W.var? prog n=some #[v]):W.cell? ⟨g,0,none⟩=some v:=by simpa using World.var?_cell hg h 0
end
open Go.RowKit
theorem Tryz.own:ownKnob Tryz.prog.godebug=none:=by kernel_rfl
theorem zak:∀ g∈zhq,∃ x∈xg_,x.1=g:=by decide
theorem zo8 {W:World}(h:laidMetH prog z4_ W):∃ A,vm_ A W/\xr_ W/\xs_ W/\zbl W/\Lib.TabIs prog W "internal/strconv.uint64pow10" .u64 Lib.pow10Tab:=by
 have b:=zo7 h;obtain⟨A,c,j,i⟩:=zkq b
 have S:vm_ A W:=by
  refine⟨λ g hg=>?_,λ g hg=>?_,λ g hg g' f e=>?_⟩
  ·obtain⟨x,a,rfl⟩:=zak g hg;exact zte (jh_ x a) (c x a)
  ·obtain⟨x,a,rfl⟩:=zak g hg;exact j x a
  ·obtain⟨x,a,rfl⟩:=zak g hg;obtain⟨l,k,rfl⟩:=zak g' f;exact i x a l k e
 have h1:=c (11,"strconv.ErrSyntax",5) (by decide)
 have d:=c (12,"strconv.ErrRange",4) (by decide)
 exact⟨A,S,zwy (zcr b),ztr (zhv b) (zi8 b),zls h1 d,zcr b⟩
theorem Fr.kept {W W':World}(h:Fr W W' (λ _=>False)):Below W.heap.size W W':=⟨h.os,h.tape,h.output,h.size,λ k hk=>h.block k hk id⟩
end Go.Proofs.YtiifagiebikmdaaGreatDoor
