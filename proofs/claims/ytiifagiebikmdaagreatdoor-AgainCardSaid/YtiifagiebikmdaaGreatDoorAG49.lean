import Derived.Test.YtiifagiebikmdaaGreatDoorAG48
import Derived.Test.YtiifagiebikmdaaGreatDoorAG46
import Derived.Test.YtiifagiebikmdaaGreatDoorAG13
namespace Go.Proofs.YtiifagiebikmdaaGreatDoor
open Go.RowKit
def Kit (A:Nat→Addr) (w:World):Prop:=Sents A w∧ItoaOK w∧QuoteOK w∧ParseOK w∧AppIntOK w
theorem Kit.fr {A:Nat→Addr}{w w':World}(h:Kit A w) (hf:Fr w w' (fun _=>False)):Kit A w':=by
 obtain⟨S,hI,hQ,hP,hA⟩:=h
 have hz:=hf.size
 have tr:∀ W,SameG w' W→SameG w W:=fun W hG g hg=>(hG g (by omega)).trans (hf.block g hg id)
 exact⟨S.fr hf,fun W hG=>hI W (tr W hG),fun W hG=>hQ W (tr W hG),fun W hG=>hP W (tr W hG),fun W B h0 hB hG=>hA W B (by omega) hB (tr W hG)⟩
theorem Kit.dec {A:Nat→Addr}{w:World}(h:Kit A w) (s bs:ByteArray):Calls Tryz.prog 10 #[.string s,.string bs] w fun e w'=>e=.returned (.tuple #[.string (decAns s bs).1,.int .i64 ((decAns s bs).2.1:Int),.int .i64 (decAns s bs).2.2])∧Fr w w' (fun _=>False):=by
 obtain⟨S,hI,hQ,hP,hA⟩:=h
 exact(kDecode_any S hI hQ hP hA).mono fun e w' h=>⟨h.1,h.2.1⟩
theorem Kit.enc {A:Nat→Addr}{w:World}(h:Kit A w) (s dm:ByteArray):Calls Tryz.prog 7 #[.string s,.string dm] w fun e w'=>e=.returned (.tuple #[.string (encAns s dm).1,.int .i64 (encAns s dm).2])∧Fr w w' (fun _=>False):=by
 obtain⟨S,hI,hQ,hP,hA⟩:=h
 exact(kEncode_any S hI hQ hP).mono fun e w' h=>⟨h.1,h.2.1⟩
theorem noB_lit':noB=⟨#[]⟩:=rfl
abbrev eI:ByteArray:=⟨#[91,105,93]⟩
abbrev eD:ByteArray:=⟨#[91,49,44,45,49,44,54,52,93]⟩
abbrev eC:ByteArray:=⟨#[6,2,1,128,1]⟩
def eT:PT:=.wrap 91 0 (.leaf 105 1)
def eX:DT:=.mk 91 0 noB [] [.mk 105 1 noB [] [],.mk 105 (-1) noB [] [],.mk 105 64 noB [] []]
theorem e_sch:pSchema eI=.ok ([],eT):=by kernel_rfl
theorem e_parse:(parseAns eI).1=0:=by kernel_rfl
theorem e_dat (env:Nat→Option PB):Dat env eX eT:=by
 refine .list (by decide) (fun d hd=>?_)
 simp only[List.mem_cons,List.not_mem_nil,or_false] at hd
 rcases hd with rfl|rfl|rfl <;> exact .num (by decide) (by decide)
theorem e_tx (env:Nat→Option PB):txT env eX eT=eD:=by
 have d1:decB 1=bts [49]:=decB_small (u:=1) (by decide)
 have d2:decB (-1)=bts [45]++bts [49]:=by rw[← d1];exact decB_neg (u:=1) (by decide)
 have d3:decB 64=bts [54]++bts [52]:=by
  have h:=decB_big (u:=64) (by decide)
  have h6:decB ((6:Nat):Int)=bts [54]:=decB_small (u:=6) (by decide)
  rw[show((64 / 10:Nat):Int)=((6:Nat):Int) from rfl,h6] at h
  exact h
 unfold eX eT
 rw[tx_list 0 (.leaf 105 1) [noB,noB,noB],txTs_cons,txTs_cons,txTs_cons,txTs_nil,jn_zero,jn_one,jn_zero,jn_one,jn_zero,jn_one_nil]
 simp only[subTy,tx_num,d1,d2,d3,keyT,Bool.false_eq_true,if_false,noB_app,app_noB,← bts_append]
 rfl
theorem e_by:byT eX=eC:=by
 unfold eX
 simp only[byT,byTs]
 rfl
theorem e_nd:ndT eX=4:=by
 unfold eX
 simp only[ndT,ndTs]
theorem e_enc:encAns eI eD=(eC,0):=by
 obtain⟨g1,g2,g3,g4,g5⟩:=sym_of e_parse e_sch
 have hr:=rdT_of g1 g2 eD (2*eD.size+2) eX eT (e_dat _) g3 0 (by rw[e_tx];exact At.self _) (by rw[e_tx];unfold stp;rw[Nat.zero_add,bt_end (Nat.le_refl _)];omega) (by rw[e_tx];omega)
 rw[e_tx,Nat.zero_add] at hr
 unfold encAns readT
 rw[if_pos e_parse,if_neg (by decide),e_sch]
 simp only[hr,if_true]
 rw[if_neg (by rw[e_nd];decide),e_by]
theorem e_dec:decAns eI (eC++⟨#[122]⟩)=(eD,5,0):=by
 obtain⟨g1,g2,g3,g4,g5⟩:=sym_of e_parse e_sch
 have hr:=back_whole g5 (e_dat (envOf [])) (by rw[e_nd];decide) ⟨#[122]⟩
 rw[e_by] at hr
 unfold decAns
 rw[if_pos e_parse,if_neg (by decide),e_sch]
 simp only[hr,e_tx]
 rfl
set_option maxHeartbeats 8000000 in
set_option maxRecDepth 100000 in
theorem alive_any {A:Nat→Addr}{w:World}(K:Kit A w):Calls Tryz.prog 14 #[] w fun e w'=>e=.returned (.bool true)∧Fr w w' (fun _=>False):=by
 obtain⟨POST,hPOST⟩:∃ Q,Hid (Q=fun (e:Ending) (w':World)=>e=.returned (.bool true)∧Fr w w' (fun _=>False)):=⟨_,rfl⟩
 rw[← hPOST.out]
 have hE:=K.enc eI eD
 rw[e_enc] at hE
 have hD:∀ W,Fr w W (fun _=>False)→Calls Tryz.prog 10 #[.string eI,.string (eC++⟨#[122]⟩)] W fun e w'=>e=.returned (.tuple #[.string eD,.int .i64 5,.int .i64 0])∧Fr W w' (fun _=>False):=fun W hW=>by
  have h:=(K.fr hW).dec eI (eC++⟨#[122]⟩)
  rw[e_dec] at h
  exact h
 replace hE:=hide hE
 replace hD:=hide hD
 clear K
 go_enter Tryz.func14,Tryz.ntmps14
 go_wp2_with (first
  |(go_at_call 7;refine hE.out.mono ?_;rintro e w1 ⟨rfl,hf1⟩;replace hf1:=hide hf1)
  |(go_at_call 10;refine(hD.out _ hf1.out).mono ?_;rintro e w2 ⟨rfl,hf2⟩;replace hf2:=hide hf2)
  | go_in)
 rw[hPOST.out]
 exact⟨rfl,hf1.out.trans hf2.out (fun _ _ f=>f)⟩
open Go.RowKit
set_option maxHeartbeats 8000000 in
set_option maxRecDepth 100000 in
theorem again_any {A:Nat→Addr}{w:World}{s bs:ByteArray}(K:Kit A w) :
 Calls Tryz.prog 6 #[.string s,.string bs] w fun e w'=>e=.returned (.bool true)∧Fr w w' (fun _=>False):=by
 obtain⟨POST,hPOST⟩:∃ Q,Hid (Q=fun (e:Ending) (w':World)=>e=.returned (.bool true)∧Fr w w' (fun _=>False)):=⟨_,rfl⟩
 rw[← hPOST.out]
 have hL:=hide (alive_any K)
 have hD:=fun W (hW:Fr w W (fun _=>False))=>(K.fr hW).dec s bs
 by_cases h0:(decAns s bs).2.2=0
 ·have hsz:bs.size≤4000:=(dec_ok h0).2.1
  obtain⟨hj,he⟩:=again_ans h0
  rw[h0] at hD
  have hE:=fun W (hW:Fr w W (fun _=>False)) (hz:(decAns s bs).1.size≤4000)=>(show _ from(he hz)▸(K.fr hW).enc s (decAns s bs).1)
  clear he
  generalize (decAns s bs).1=b at hD hE
  generalize (decAns s bs).2.1=j at hD hE hj
  replace hD:=hide hD
  have hji:¬ ((bs.size:Int)<(j:Int)):=by omega
  have hjn:¬ ((j:Int)<0):=by omega
  by_cases hz:4000<b.size
  ·have hzi:(4000:Int)<(b.size:Int):=by omega
   clear K hE h0
   go_enter Tryz.func6,Tryz.ntmps6
   go_wp2_with (first
    |(go_at_call 14;refine hL.out.mono ?_;rintro e w1 ⟨rfl,hf1⟩;replace hf1:=hide hf1)
    |(go_at_call 10;refine(hD.out _ hf1.out).mono ?_;rintro e w2 ⟨rfl,hf2⟩;replace hf2:=hide hf2)
    | go_in)
   rw[hPOST.out]
   exact⟨rfl,hf1.out.trans hf2.out (fun _ _ f=>f)⟩
  ·have hzi:¬ ((4000:Int)<(b.size:Int)):=by omega
   replace hE:=hide (fun W hW=>hE W hW (by omega))
   clear K h0
   go_enter Tryz.func6,Tryz.ntmps6
   go_wp2_with (first
    |(go_at_call 14;refine hL.out.mono ?_;rintro e w1 ⟨rfl,hf1⟩;replace hf1:=hide hf1)
    |(go_at_call 10;refine(hD.out _ hf1.out).mono ?_;rintro e w2 ⟨rfl,hf2⟩;replace hf2:=hide (hf1.out.trans hf2 (fun _ _ f=>f)))
    |(go_at_call 7;refine(hE.out _ hf2.out).mono ?_;rintro e w3 ⟨rfl,hf3⟩;replace hf3:=hide (hf2.out.trans hf3 (fun _ _ f=>f)))
    | go_in)
   rw[hPOST.out]
   exact⟨rfl,hf3.out⟩
 ·obtain⟨hb,hn⟩:=decAns_bad h0
  rw[hb,hn,noB_lit'] at hD
  generalize (decAns s bs).2.2=n at hD h0
  have hne:(n==0)=false:=by simp;exact h0
  replace hD:=hide hD
  clear K
  go_enter Tryz.func6,Tryz.ntmps6
  go_wp2_with (first
   |(go_at_call 14;refine hL.out.mono ?_;rintro e w1 ⟨rfl,hf1⟩;replace hf1:=hide hf1)
   |(go_at_call 10;refine(hD.out _ hf1.out).mono ?_;rintro e w2 ⟨rfl,hf2⟩;replace hf2:=hide hf2)
   | go_in)
  rw[hPOST.out]
  exact⟨rfl,hf1.out.trans hf2.out (fun _ _ f=>f)⟩
end Go.Proofs.YtiifagiebikmdaaGreatDoor
