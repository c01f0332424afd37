import Derived.Test.YtlmebjdmdogmfaaGreatDoorW30
import Derived.PinnedBridge
import Derived.Lib.LaidPrint
import Derived.Lib.LaidTab
import Derived.Stop.Joined
import Derived.Test.YtlmebjdmdogmfaaGreatDoorTie
import Derived.Test.YtlmebjdmdogmfaaGreatDoorCards
set_option linter.unusedVariables false
set_option maxHeartbeats 16000000
set_option maxRecDepth 100000
set_option linter.defProp false
set_option linter.unusedSimpArgs false
open Go.Proofs.Tryz
namespace Go.Proofs.YtlmebjdmdogmfaaGreatDoor
open Go.RowKit
def eD: "*" ++ "errors.errorString" = "*errors.errorString":=D_
def FT(u:Av)(h:Tryz.prog.typeName? 3 u=some "*errors.errorString"):u=412:=
 typeName_ptr_named (nm:= "errors.errorString") (by rw[eD];kernel_rfl) K_ D_ u (by rw[eD];exact h)
def oM:uu prog "*errors.errorString" 36 412:=
 ⟨⟨_,_,_,_,underlying36,FT,underlying412,underlying414,rfl,rfl,underlying9,K_,K_⟩⟩
def xc:List (Nat×String×Nat):=[(7,"kin/schemas.ErrLong",9),(0,"kin/schemas.ErrGrammar",10),(1,"kin/schemas.ErrName",11),(2,"kin/schemas.ErrUnion",12),(3,"kin/notation.ErrNotOf",8),(4,"kin/wire.ErrData",14),(5,"kin/data.ErrBig",6),(6,"kin/reading.ErrNothing",15),(8,"kin/notation.ErrLong",7),(9,"kin/wire.ErrLong",13),(15,"strconv.ErrRange",4),(14,"strconv.ErrSyntax",5)]
def jP:∀x∈xc,Tryz.prog.globalNamed x.2.1=some x.1:=by
 intro x hx;simp only[xc,ao_,List.mem_nil_iff,or_false]at hx;rcases hx with rfl|rfl|rfl|rfl|rfl|rfl|rfl|rfl|rfl|rfl|rfl|rfl<;>kernel_rfl
def py:∀x∈xc,(Tryz.prog.globals[x.1]?).map (·.type)=some 36:=by
 intro x hx;simp only[xc,ao_,List.mem_nil_iff,or_false]at hx;rcases hx with rfl|rfl|rfl|rfl|rfl|rfl|rfl|rfl|rfl|rfl|rfl|rfl<;>kernel_rfl
def px:∀x∈xc,∃text,(x.2.1,Wa "*errors.errorString" text)∈zD:=by
 intro x hx;simp only[xc,ao_,List.mem_nil_iff,or_false]at hx;rcases hx with rfl|rfl|rfl|rfl|rfl|rfl|rfl|rfl|rfl|rfl|rfl|rfl<;>first
  |exact⟨_,ah_ (i:=4) rfl⟩|exact⟨_,ah_ (i:=5) rfl⟩|exact⟨_,ah_ (i:=6) rfl⟩|exact⟨_,ah_ (i:=7) rfl⟩|exact⟨_,ah_ (i:=8) rfl⟩|exact⟨_,ah_ (i:=9) rfl⟩|exact⟨_,ah_ (i:=10) rfl⟩|exact⟨_,ah_ (i:=11) rfl⟩|exact⟨_,ah_ (i:=12) rfl⟩|exact⟨_,ah_ (i:=13) rfl⟩|exact⟨_,ah_ (i:=14) rfl⟩|exact⟨_,ah_ (i:=15) rfl⟩
def iT:∀x∈xc,∀y∈xc,x.1=y.1->x.2.1=y.2.1:=D_
section
variable {W:Aw}
def iD(h:laidMet prog zD W):∃A:Nat->Addr,(∀x∈xc,W.var? prog x.2.1=some #[.iface 412 (.pointer (some (A x.1)))])/\(∀x∈xc,∃c t,W.heap[(A x.1).block]?=some (.cells c t (0,0)))/\
 ∀x∈xc,∀y∈xc,x.1≠y.1->A x.1≠A y.1:=by
 obtain⟨f,hv,j,d⟩:=h;have i:∀x∈xc,∃a,W.var? prog x.2.1=some #[.iface 412 (.pointer (some a))]/\.cell a.block a.off∈f:=λx hx=>by
  obtain⟨text,hm⟩:=px x hx;exact bG oM (jP x hx) (py x hx) hv d hm
 have b:∀g:Nat,∃a:Addr,∀x∈xc,x.1=g->W.var? prog x.2.1=some #[.iface 412 (.pointer (some a))]/\.cell a.block a.off∈f:=λg=>by
  by_cases hg:∃x∈xc,x.1=g
  .obtain⟨x,hx,rfl⟩:=hg;obtain⟨a,ha⟩:=i x hx;refine⟨a,λy hy e=>?_⟩;have:y.2.1=x.2.1:=iT y hy x hx e;rw[this];exact ha
  .exact⟨⟨0,0,none⟩,λx hx e=>absurd ⟨x,hx,e⟩ hg⟩
 refine⟨λg=>Classical.choose (b g),λx hx=>(Classical.choose_spec (b x.1) x hx rfl).1,λx hx=>(d _ _ (Classical.choose_spec (b x.1) x hx rfl).2).1,λx hx y hy k=>?_⟩;obtain⟨f,f⟩:=px x hx;obtain⟨i,i⟩:=px y hy;refine mB oM (λe=>k ?_) (jP x hx) (py x hx) (jP y hy) (py y hy) (Classical.choose_spec (b x.1) x hx rfl).1 (Classical.choose_spec (b y.1) y hy rfl).1 hv d j f i;have h1:=jP x hx;rw[e,jP y hy]at h1;exact(Option.some.inj h1).symm
def fK(h:laidMet prog zD W):Lib.TabIs prog W "internal/strconv.uint64pow10" .u64 Lib.pow10Tab:=by
 have e:(Rows.laid_internal_strconv_uint64pow10:DataW Unit)=Lib.tabData .u64 Lib.pow10Tab:=K_
 have a:laidMet prog (("internal/strconv.uint64pow10",Rows.laid_internal_strconv_uint64pow10)::zD.drop 3) W:=h.tail.tail
 rw[e]at a;exact Lib.tabIs_of_head (g:=10) (t:=386) (e:=272) (n:=20) K_ K_ K_ K_ K_ K_ a
def sX(h:laidMet prog zD W):Lib.Utf8Tabs 16 17 W:=by
 have e:Rows.laid_unicode_utf8_acceptRanges=Lib.acceptData:=K_
 have h1:=Lib.laidMet.reads h (n:= "unicode/utf8.first") (d:=Pinned.utf8First) (ah_ (i:=21) rfl)
 have a:=Lib.laidMet.reads h (n:= "unicode/utf8.acceptRanges") (d:=Rows.laid_unicode_utf8_acceptRanges) (ah_ (i:=3) rfl)
 rw[Pinned.utf8First_eq]at h1;rw[e]at a;exact utf8Tabs_of_reads (ρ:=Tryz.lays177_ren) { Tryz.lays177 with } ⟨K_,K_,K_,K_,K_,K_,K_⟩ h1 a
def dF(h:laidMet prog zD W):Lib.PrintTabsAt 18 19 20 21 Lib.goPrintTabs W:=by
 have h1:=Lib.laidMet.reads h (n:= "strconv.isPrint16") (d:=Pinned.isPrint16) (ah_ (i:=19) rfl)
 have a:=Lib.laidMet.reads h (n:= "strconv.isNotPrint16") (d:=Pinned.isNotPrint16) (ah_ (i:=17) rfl)
 have b:=Lib.laidMet.reads h (n:= "strconv.isPrint32") (d:=Pinned.isPrint32) (ah_ (i:=20) rfl)
 have c:=Lib.laidMet.reads h (n:= "strconv.isNotPrint32") (d:=Pinned.isNotPrint32) (ah_ (i:=18) rfl)
 rw[Pinned.isPrint16_eq]at h1;rw[Pinned.isNotPrint16_eq]at a;rw[Pinned.isPrint32_eq]at b;rw[Pinned.isNotPrint32_eq]at c;exact printTabs_of_reads (ρ:=Tryz.lays177_ren) { Tryz.lays177 with } ⟨K_,K_,K_,K_,K_,K_,K_,K_,K_,K_⟩ h1 a b c
def Yn(h:laidMetH prog zD W):laidMet prog zD W:=by
 unfold laidMetH at h;rw[ry,bW]at h;exact h
def QB{n:String}{g:Nat}{v:Ax}(hg:Tryz.prog.globalNamed n=some g)(h:W.var? prog n=some #[v]):W.cell? ⟨g,0,none⟩=some v:=by simpa using World.var?_cell hg h 0
end
def Tryz.own:ownKnob Tryz.prog.godebug=none:=K_
def qD:∀g∈pH,∃x∈xc,x.1=g:=D_
def Ys{W:Aw}(h:laidMetH prog zD W):∃A,xl A W/\yM W/\yH W/\xe W/\Lib.TabIs prog W "internal/strconv.uint64pow10" .u64 Lib.pow10Tab:=by
 have a:=Yn h;obtain⟨A,hv,hr,c⟩:=iD a;have S:xl A W:=by
  refine⟨λg hg=>?_,λg hg=>?_,λg hg g' b e=>?_⟩
  .obtain⟨x,hx,rfl⟩:=qD g hg;exact QB (jP x hx) (hv x hx)
  .obtain⟨x,hx,rfl⟩:=qD g hg;exact hr x hx
  .obtain⟨x,hx,rfl⟩:=qD g hg;obtain⟨y,hy,rfl⟩:=qD g' b;exact c x hx y hy e
 have h1:=hv (14,"strconv.ErrSyntax",5) D_
 have b:=hv (15,"strconv.ErrRange",4) D_
 exact⟨A,S,FL (fK a),Kn (dF a) (sX a),ar h1 b,fK a⟩
def Fr.kept{W W':Aw}(h:Fr W W' N_):Below W.heap.size W W':=⟨h.os,h.tape,h.output,h.size,λk hk=>h.block k hk id⟩
open Go.ChangeShapes Go.WideShapes Go.ChangeAt
open Go.ChangeMaps (open_string shut_string)
def BT:∀n,n<10->∀k,k<n->97<=bt ⟨(Lib.repeatL [97] n).toArray⟩ k/\bt ⟨(Lib.repeatL [97] n).toArray⟩ k<=122:=D_
def BD:ql:=λW n hn=>by
 apply(Tryz.strings_Repeat ⟨#[97]⟩ n W M_ (by show 1*n<=_;omega)).mono;rintro e w' ⟨rfl,hb⟩;have hz:(⟨(Lib.repeatL [97] n).toArray⟩:BA).size=n:=by
  show(Lib.repeatL [97] n).toArray.size=n;rw[List.size_toArray,Lib.repeatL_length];simp
 exact⟨_,rfl,Fr.ofBelow hb,hz,λk hk=>BT n M_ k (by have e:k<(⟨(Lib.repeatL [97] n).toArray⟩:BA).size:=hk;rw[hz]at e;exact e)⟩
def tc{W:Aw}(s d x:BA)(h:laidMetH prog Rows.acceptedRow.laid W):Calls prog 3 #[.string s,.string d,.string x] W λe w'=>e=.returned (.bool true)/\Fr W w' N_:=by
 obtain⟨A,S,a,b,hP,c⟩:=Ys h;exact em ⟨S,a,b,hP,Qb c⟩ BD
def cW(os:Os)(o:os.Started)(i:Type)(enc:TypeId×Value->i):ReturnsInHanded {} Tryz.checked os 3 .any (λw a=>(Rows.acceptedSpec.pre enc prog Tryz.f3 [] false w a/\laidMetH prog Rows.acceptedRow.laid w)/\sizedMet enc prog Tryz.f3 (OpenSpec.ofChange Rows.acceptedSpec) false w a)
  (Rows.acceptedSpec.post enc prog Tryz.f3 false true false false):=by
 refine returnsInHanded_of_change_and (C:=Tryz.checked) (X:=λw _=>laidMetH prog Rows.acceptedRow.laid w) (λ_ _ _ i h=>laidMetH.of_heap i h) Tryz.own o K_ func3
  (ChangeSpec.witness_shaped (enc:=enc) (C:=Tryz.checked) (os:=os) (X:=λw _=>laidMetH prog Rows.acceptedRow.laid w) false ((World.holding prog os ⟨#[],#[],[]⟩).layVars prog zD) #[.string ⟨#[]⟩,.string ⟨#[]⟩,.string ⟨#[]⟩] 8 (iY os)
   (uN os _) K_ K_ K_ (dA os _)) ?_
 intro W base a ds i i i f _ _ m _;have b:∀(j:Nat) t v,Tryz.f3.params[j]?=some t->a[j]?=some v->Value.okWide prog W .any base t v:=i;have g:=f;obtain⟨p,q,l,n,rfl,_,_⟩:=f;have c:DataW.TrodAll enc prog W 0 (λ_=>true) true Tryz.f3.params.toList a.toList ds p:=l;rw[Tryz.params3]at c b;obtain⟨r,u,y,d0,d1,a,a,a,a,rfl,rfl,rfl,h0,h1,k⟩:=trodAll_three c;obtain⟨rfl,rfl⟩:=trodVars_none n;obtain⟨s,rfl,rfl,rfl,ws⟩:=open_string underlying9 (b 0 9 r rfl rfl) h0;obtain⟨d,rfl,rfl,rfl,z⟩:=open_string underlying9 (b 1 9 u rfl rfl) h1;obtain⟨x,rfl,rfl,rfl,A⟩:=open_string underlying9 (b 2 9 y rfl rfl) k;simp only[bf_]at g;refine(tc s d x m).mono λe W' ⟨he,hf⟩=>?_;subst he;exact⟨_,rfl,_,_,_,[],[],[],g,trodAll_mk1 (shut_bool underlying4 _),trodAll_mk3 (shut_string underlying9 ws) (shut_string underlying9 z) (shut_string underlying9 A),rfl,hf.kept.frame _,λh=>by cases h⟩
def cG:joinedFacts prog 3 Tryz.f3 Rows.acceptedSpec Rows.acceptedRow=true:=by
 unfold joinedFacts;simp only[az_]
 repeat' apply And.intro
 all_goals (as_aux_lemma=>kernel_rfl)
def rN:Tryz.prog.funcNamed Rows.acceptedRow.func=some 3:=K_
def th:Tryz.f3.isInstance prog Rows.acceptedRow.origin Rows.acceptedRow.targs:=of_decide_eq_true K_
def tm:Tryz.f3.isWrapper prog Rows.acceptedRow.wrapper Rows.acceptedRow.mainSum:=by unfold Func.isWrapper;rw[n_ (of_decide_eq_false K_)];exact⟨rfl,rfl⟩
def rS:Rows.AcceptedSaid:=
 OpenClaim.holds_of_wide 3 Tryz.f3 rfl rfl rfl rfl rfl rfl rfl ⟨rfl,rfl,rfl,rfl,rfl⟩ rfl rfl rfl rfl rfl rN func3 cG th tm
  (λos b a enc _=>cW os b a enc)
open Go
theorem accepted_card:Rows.AcceptedCardSaid:=
 Claim7.holds_tied_plain_at .later [] Rows.acceptedCard.laidKinds true Rows.acceptedCard.stood.harness true
  rS (λ_ h=>by cases h) K_ (λ_ h=>by cases h) accepted_row_tie rfl ⟨rfl,rfl⟩ K_ rfl
  (λf a hf c=>by
   obtain rfl:f=3:=Option.some.inj ((show Tryz.prog.funcNamed "kin/kinlaw.Accepted" = some 3 by kernel_rfl).symm.trans hf) |>.symm
   obtain rfl:a=Tryz.f3:=(Option.some.inj (func3.symm.trans c)).symm
   exact⟨K_,λj t a=>by
    rw[Tryz.params3]at a
    have b:t=9:=by
     rcases j with _|_|_|j
     .simpa using a.symm
     .simpa using a.symm
     .simpa using a.symm
     .simp at a
    subst b
    exact(show Tryz.prog.wantsStandIn 9=false by kernel_rfl)⟩)
  K_
end Go.Proofs.YtlmebjdmdogmfaaGreatDoor
