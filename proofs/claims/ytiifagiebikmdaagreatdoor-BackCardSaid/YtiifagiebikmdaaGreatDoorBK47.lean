import Derived.Test.YtiifagiebikmdaaGreatDoorBK46
import Derived.Test.YtiifagiebikmdaaGreatDoorBK45
import Derived.Carry
import Derived.Test.YtiifagiebikmdaaGreatDoorTie
import Derived.Test.YtiifagiebikmdaaGreatDoorCards
import Derived.SevenTiedAt
namespace Go.Proofs.YtiifagiebikmdaaGreatDoor
open Go.ChangeShapes Go.WideShapes Go.ChangeAt Go.RowKit
open Go.ChangeMaps (open_string shut_string)
theorem back_laid {W:World}(s d x:ByteArray) (c:Int) (h:laidMetH Tryz.prog Rows.backRow.laid W) (hx:x.size≤140737488351232) (h0 : -9223372036854775808≤c) (h1:c≤9223372036854775807) :
 Calls Tryz.prog 5 #[.string s,.string d,.string x,.int .i64 c] W fun e w'=>e=.returned (.bool true)∧Fr W w' (fun _=>False):=by
 obtain⟨A,S,hI,hQ,hP,hT⟩:=laid_gives h
 exact back_any ⟨S,hI,hQ,hP,appInt_ok hT⟩ hx h0 h1
theorem reach_three {H:Type}{a b d:DataW H}{x:ByteArray}(h:(DataW.weightsEach Tryz.prog [9,9,9,3] [a,b,.lit (.string x.data.toList),d]).all (·≤reachBytes)=true):x.size≤140737488351232:=by
 have h2:x.data.toList.length≤reachBytes:=of_decide_eq_true (List.all_eq_true.1 h x.data.toList.length (by simp[DataW.weights,DataW.weightsEach]))
 have hsl:x.data.toList.length=x.size:=by rw[Array.length_toList];rfl
 rw[hsl] at h2
 simpa[reachBytes] using h2
set_option maxRecDepth 100000 in
theorem back_lifted (os:Os) (started:os.Started) (H:Type) (enc:TypeId×Value→H) :
 ReturnsInHanded {} Tryz.checked os 5 .any (fun w args=>(Rows.backSpec.pre enc Tryz.prog Tryz.f5 [] false w args∧laidMetH Tryz.prog Rows.backRow.laid w)∧sizedMet enc Tryz.prog Tryz.f5 (OpenSpec.ofChange Rows.backSpec) false w args)
  (Rows.backSpec.post enc Tryz.prog Tryz.f5 false true false false):=by
 refine returnsInHanded_of_change_and (C:=Tryz.checked) (X:=fun w _=>laidMetH Tryz.prog Rows.backRow.laid w) (fun _ _ _ hh h=>laidMetH.of_heap hh h) Tryz.own started (by kernel_rfl) Tryz.func5
  (ChangeSpec.witness_shaped (enc:=enc) (C:=Tryz.checked) (os:=os) (X:=fun w _=>laidMetH Tryz.prog Rows.backRow.laid w) false ((World.holding Tryz.prog os ⟨#[],#[],[]⟩).layVars Tryz.prog laidPlain) #[.string ⟨#[]⟩,.string ⟨#[]⟩,.string ⟨#[]⟩,.int .i64 0] 8 (laidWorld_os os)
   (laidWorld_shaped os _) (by kernel_rfl) (by kernel_rfl) (by kernel_rfl) (laidWorld_met os _)) ?_
 intro W base args ds gs before hval0 hW _ hsz0 hL _
 have hval:∀ (j:Nat) t v,Tryz.f5.params[j]?=some t→args[j]?=some v→Value.okWide Tryz.prog W .any base t v:=hval0
 have hW':=hW
 obtain⟨p,q,hA0,hV,rfl,_,_⟩:=hW
 have hA:DataW.TrodAll enc Tryz.prog W 0 (fun _=>true) true Tryz.f5.params.toList args.toList ds p:=hA0
 rw[Tryz.params5] at hA hval
 obtain⟨v0,v1,v2,v3,d0,d1,d2,d3,p0,p1,p2,p3,rfl,rfl,rfl,h0,h1,h2,h3⟩:=trodAll_four hA
 obtain⟨rfl,rfl⟩:=trodVars_none hV
 obtain⟨s,rfl,rfl,rfl,ws⟩:=open_string Tryz.underlying9 (hval 0 9 v0 rfl rfl) h0
 obtain⟨d,rfl,rfl,rfl,wd⟩:=open_string Tryz.underlying9 (hval 1 9 v1 rfl rfl) h1
 obtain⟨x,rfl,rfl,rfl,wx⟩:=open_string Tryz.underlying9 (hval 2 9 v2 rfl rfl) h2
 obtain⟨c,rfl,rfl,rfl,wc⟩:=open_int Tryz.underlying3 (hval 3 3 v3 rfl rfl) h3
 have hsz:(DataW.weightsEach (H:=H) Tryz.prog (Tryz.f5.params.toList++[]) ([.lit (.string s.data.toList),.lit (.string d.data.toList),.lit (.string x.data.toList),.lit (.int .i64 c)]++[])).all (·≤reachBytes)=true:=hsz0
 rw[Tryz.params5] at hsz
 have hx:=reach_three (x:=x) hsz
 have hc : -9223372036854775808≤c∧c≤9223372036854775807:=by
  have hmin:IntKind.i64.min = -9223372036854775808:=by decide
  simpa[Lit.wf,hmin] using wc
 simp only[List.append_nil] at hW'
 refine(back_laid s d x c hL hx hc.1 hc.2).mono fun e W' ⟨he,hf⟩=>?_
 subst he
 exact⟨_,rfl,_,_,_,[],[],[],hW',trodAll_mk1 (shut_bool Tryz.underlying4 _),trodAll_mk4 (shut_string Tryz.underlying9 ws) (shut_string Tryz.underlying9 wd) (shut_string Tryz.underlying9 wx) (shut_int Tryz.underlying3 wc),rfl,hf.kept.frame _,fun h=>by cases h⟩
theorem back_holds:Rows.BackSaid:=
 OpenClaim.holds_of_wide 5 Tryz.f5 rfl rfl rfl rfl rfl rfl rfl ⟨rfl,rfl,rfl,rfl,rfl⟩ rfl rfl rfl rfl rfl (by kernel_rfl) Tryz.func5 (by kernel_rfl)
  (of_decide_eq_true (by kernel_rfl)) (by unfold Func.isWrapper;rw[if_neg (of_decide_eq_false (by kernel_rfl))];exact⟨rfl,rfl⟩)
  (fun os started H enc _=>back_lifted os started H enc)
open Go
theorem back_card:Rows.BackCardSaid:=
 Claim7.holds_tied_plain_at .later [] Rows.backCard.laidKinds true Rows.backCard.stood.harness true
  back_holds (fun _ h=>by cases h) (by kernel_rfl) (fun _ h=>by cases h) back_row_tie rfl ⟨rfl,rfl⟩ (by kernel_rfl) rfl
  (fun f fn hf hfn=>by
   obtain rfl:f=5:=Option.some.inj ((show Tryz.prog.funcNamed "kin/kinlaw.Back" = some 5 by kernel_rfl).symm.trans hf) |>.symm
   obtain rfl:fn=Tryz.f5:=(Option.some.inj (Tryz.func5.symm.trans hfn)).symm
   exact⟨by kernel_rfl,fun j t ht=>by
    rw[Tryz.params5] at ht
    rcases j with _|_|_|_|j
    ·obtain rfl:9=t:=by simpa using ht
     exact(show Tryz.prog.wantsStandIn 9=false by kernel_rfl)
    ·obtain rfl:9=t:=by simpa using ht
     exact(show Tryz.prog.wantsStandIn 9=false by kernel_rfl)
    ·obtain rfl:9=t:=by simpa using ht
     exact(show Tryz.prog.wantsStandIn 9=false by kernel_rfl)
    ·obtain rfl:3=t:=by simpa using ht
     exact(show Tryz.prog.wantsStandIn 3=false by kernel_rfl)
    ·simp at ht⟩)
  (by kernel_rfl)
end Go.Proofs.YtiifagiebikmdaaGreatDoor
