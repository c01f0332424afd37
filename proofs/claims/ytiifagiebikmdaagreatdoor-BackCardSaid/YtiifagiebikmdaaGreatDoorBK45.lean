import Derived.Test.YtiifagiebikmdaaGreatDoorBK44
import Derived.Test.YtiifagiebikmdaaGreatDoorBK41
import Derived.Test.YtiifagiebikmdaaGreatDoorBK13
namespace Go.Proofs.YtiifagiebikmdaaGreatDoor
open Go.RowKit
def Kit (A:Nat→Addr) (w:World):Prop:=Sents A w∧ItoaOK w∧QuoteOK w∧ParseOK w∧AppIntOK w
theorem Kit.fr {A:Nat→Addr}{w w':World}(h:Kit A w) (hf:Fr w w' (fun _=>False)):Kit A w':=by
 obtain⟨S,hI,hQ,hP,hA⟩:=h
 have hz:=hf.size
 have tr:∀ W,SameG w' W→SameG w W:=fun W hG g hg=>(hG g (by omega)).trans (hf.block g hg id)
 exact⟨S.fr hf,fun W hG=>hI W (tr W hG),fun W hG=>hQ W (tr W hG),fun W hG=>hP W (tr W hG),fun W B h0 hB hG=>hA W B (by omega) hB (tr W hG)⟩
theorem Kit.dec {A:Nat→Addr}{w:World}(h:Kit A w) (s bs:ByteArray):Calls Tryz.prog 10 #[.string s,.string bs] w fun e w'=>e=.returned (.tuple #[.string (decAns s bs).1,.int .i64 ((decAns s bs).2.1:Int),.int .i64 (decAns s bs).2.2])∧Fr w w' (fun _=>False):=by
 obtain⟨S,hI,hQ,hP,hA⟩:=h
 exact(kDecode_any S hI hQ hP hA).mono fun e w' h=>⟨h.1,h.2.1⟩
theorem Kit.enc {A:Nat→Addr}{w:World}(h:Kit A w) (s dm:ByteArray):Calls Tryz.prog 7 #[.string s,.string dm] w fun e w'=>e=.returned (.tuple #[.string (encAns s dm).1,.int .i64 (encAns s dm).2])∧Fr w w' (fun _=>False):=by
 obtain⟨S,hI,hQ,hP,hA⟩:=h
 exact(kEncode_any S hI hQ hP).mono fun e w' h=>⟨h.1,h.2.1⟩
theorem noB_lit':noB=⟨#[]⟩:=rfl
abbrev eI:ByteArray:=⟨#[91,105,93]⟩
abbrev eD:ByteArray:=⟨#[91,49,44,45,49,44,54,52,93]⟩
abbrev eC:ByteArray:=⟨#[6,2,1,128,1]⟩
def eT:PT:=.wrap 91 0 (.leaf 105 1)
def eX:DT:=.mk 91 0 noB [] [.mk 105 1 noB [] [],.mk 105 (-1) noB [] [],.mk 105 64 noB [] []]
theorem e_sch:pSchema eI=.ok ([],eT):=by kernel_rfl
theorem e_parse:(parseAns eI).1=0:=by kernel_rfl
theorem e_dat (env:Nat→Option PB):Dat env eX eT:=by
 refine .list (by decide) (fun d hd=>?_)
 simp only[List.mem_cons,List.not_mem_nil,or_false] at hd
 rcases hd with rfl|rfl|rfl <;> exact .num (by decide) (by decide)
theorem e_tx (env:Nat→Option PB):txT env eX eT=eD:=by
 have d1:decB 1=bts [49]:=decB_small (u:=1) (by decide)
 have d2:decB (-1)=bts [45]++bts [49]:=by rw[← d1];exact decB_neg (u:=1) (by decide)
 have d3:decB 64=bts [54]++bts [52]:=by
  have h:=decB_big (u:=64) (by decide)
  have h6:decB ((6:Nat):Int)=bts [54]:=decB_small (u:=6) (by decide)
  rw[show((64 / 10:Nat):Int)=((6:Nat):Int) from rfl,h6] at h
  exact h
 unfold eX eT
 rw[tx_list 0 (.leaf 105 1) [noB,noB,noB],txTs_cons,txTs_cons,txTs_cons,txTs_nil,jn_zero,jn_one,jn_zero,jn_one,jn_zero,jn_one_nil]
 simp only[subTy,tx_num,d1,d2,d3,keyT,Bool.false_eq_true,if_false,noB_app,app_noB,← bts_append]
 rfl
theorem e_by:byT eX=eC:=by
 unfold eX
 simp only[byT,byTs]
 rfl
theorem e_nd:ndT eX=4:=by
 unfold eX
 simp only[ndT,ndTs]
theorem e_enc:encAns eI eD=(eC,0):=by
 obtain⟨g1,g2,g3,g4,g5⟩:=sym_of e_parse e_sch
 have hr:=rdT_of g1 g2 eD (2*eD.size+2) eX eT (e_dat _) g3 0 (by rw[e_tx];exact At.self _) (by rw[e_tx];unfold stp;rw[Nat.zero_add,bt_end (Nat.le_refl _)];omega) (by rw[e_tx];omega)
 rw[e_tx,Nat.zero_add] at hr
 unfold encAns readT
 rw[if_pos e_parse,if_neg (by decide),e_sch]
 simp only[hr,if_true]
 rw[if_neg (by rw[e_nd];decide),e_by]
theorem e_dec:decAns eI (eC++⟨#[122]⟩)=(eD,5,0):=by
 obtain⟨g1,g2,g3,g4,g5⟩:=sym_of e_parse e_sch
 have hr:=back_whole g5 (e_dat (envOf [])) (by rw[e_nd];decide) ⟨#[122]⟩
 rw[e_by] at hr
 unfold decAns
 rw[if_pos e_parse,if_neg (by decide),e_sch]
 simp only[hr,e_tx]
 rfl
set_option maxHeartbeats 8000000 in
set_option maxRecDepth 100000 in
theorem alive_any {A:Nat→Addr}{w:World}(K:Kit A w):Calls Tryz.prog 14 #[] w fun e w'=>e=.returned (.bool true)∧Fr w w' (fun _=>False):=by
 obtain⟨POST,hPOST⟩:∃ Q,Hid (Q=fun (e:Ending) (w':World)=>e=.returned (.bool true)∧Fr w w' (fun _=>False)):=⟨_,rfl⟩
 rw[← hPOST.out]
 have hE:=K.enc eI eD
 rw[e_enc] at hE
 have hD:∀ W,Fr w W (fun _=>False)→Calls Tryz.prog 10 #[.string eI,.string (eC++⟨#[122]⟩)] W fun e w'=>e=.returned (.tuple #[.string eD,.int .i64 5,.int .i64 0])∧Fr W w' (fun _=>False):=fun W hW=>by
  have h:=(K.fr hW).dec eI (eC++⟨#[122]⟩)
  rw[e_dec] at h
  exact h
 replace hE:=hide hE
 replace hD:=hide hD
 clear K
 go_enter Tryz.func14,Tryz.ntmps14
 go_wp2_with (first
  |(go_at_call 7;refine hE.out.mono ?_;rintro e w1 ⟨rfl,hf1⟩;replace hf1:=hide hf1)
  |(go_at_call 10;refine(hD.out _ hf1.out).mono ?_;rintro e w2 ⟨rfl,hf2⟩;replace hf2:=hide hf2)
  | go_in)
 rw[hPOST.out]
 exact⟨rfl,hf1.out.trans hf2.out (fun _ _ f=>f)⟩
open Go.RowKit
theorem headD_size {ks:List ByteArray}(h:∀ x∈ks,x.size≤4000):(ks.headD noB).size≤4000:=by
 cases ks with
 | nil=>decide
 | cons a r=>exact h a (List.mem_cons_self ..)
mutual
theorem byT_len:∀ d:DT,okD d→(byT d).size+4050≤8100*ndT d
 | .mk k n tx ks ds,h=>by
  unfold okD at h
  obtain⟨_,_,h3,h4,_,h6⟩:=h
  have hr:=byTs_len (k==123) ks ds h4 h6
  have w1:=wholeB_size n
  have w2:=wholeB_size (tx.size:Int)
  have w3:=wholeB_size (ds.length:Int)
  rw[byT,ndT]
  split
  ·rw[bts_size];simp;omega
  ·split
   ·omega
   ·split
    ·rw[ByteArray.size_append];omega
    ·split
     ·omega
     ·rw[ByteArray.size_append]
      split
      ·omega
      ·split
       ·omega
       ·rw[noB_size];omega
theorem byTs_len:∀ (keyed:Bool) (ks:List ByteArray) (ds:List DT),(∀ x∈ks,x.size≤4000)→okDs ds→(byTs keyed ks ds).size≤8100*ndTs ds
 | keyed,ks,[],_,_=>by rw[byTs,noB_size];omega
 | keyed,ks,d::r,h,h2=>by
  unfold okDs at h2
  have a:=byT_len d h2.1
  have b:=byTs_len keyed ks.tail r (fun x hx=>h x (List.mem_of_mem_tail hx)) h2.2
  have c:=headD_size h
  have w:=wholeB_size ((ks.headD noB).size:Int)
  rw[byTs,ndTs,ByteArray.size_append,ByteArray.size_append]
  split
  ·rw[ByteArray.size_append];omega
  ·rw[noB_size];omega
end
theorem enc_size {s dm:ByteArray}(h:(encAns s dm).2=0) (hO:EncOK s dm):(encAns s dm).1.size≤3000000:=by
 obtain⟨h0,hb,ds,t,d,hp,hq,hn,he⟩:=enc_ok h
 have hr:readT (envOf ds) false t dm=some d:=by unfold readT;rw[hq];simp
 have:=byT_len d (hO h0 hb ds t d hp hr hn)
 rw[he]
 simp only
 omega
theorem Kit.encs {A:Nat→Addr}{w:World}(h:Kit A w) (s dm:ByteArray):Calls Tryz.prog 7 #[.string s,.string dm] w fun e w'=>e=.returned (.tuple #[.string (encAns s dm).1,.int .i64 (encAns s dm).2])∧Fr w w' (fun _=>False)∧EncOK s dm:=by
 obtain⟨S,hI,hQ,hP,hA⟩:=h
 exact kEncode_any S hI hQ hP
set_option maxHeartbeats 4000000 in
set_option maxRecDepth 100000 in
theorem pick_any {w:World}{c:Int}{n:Nat}(h0 : -9223372036854775808≤c) (h1:c≤9223372036854775807) (hn:0<n) (hn':n≤4000) :
 Calls Tryz.prog 16 #[.int .i64 c,.int .i64 (n:Int)] w fun e w'=>∃ k:Nat,k<n∧e=.returned (.int .i64 (k:Int))∧w'=w:=by
 obtain⟨POST,hPOST⟩:∃ Q,Hid (Q=fun (e:Ending) (w':World)=>∃ k:Nat,k<n∧e=.returned (.int .i64 (k:Int))∧w'=w):=⟨_,rfl⟩
 rw[← hPOST.out]
 go_enter Tryz.func16,Tryz.ntmps16
 go_wp2_with fail
 ·rw[hPOST.out]
  obtain⟨u,hu⟩:∃ u:Nat,c+1 = -(u:Int):=⟨(-(c+1)).toNat,by omega⟩
  have e : -(c+1).tmod (n:Int)=((u % n:Nat):Int):=by rw[hu,Int.neg_tmod,Int.neg_neg];rfl
  refine⟨u % n,Nat.mod_lt _ hn,?_,rfl⟩
  show Ending.returned (.int .i64 (-(c+1).tmod (n:Int)))=_
  rw[e]
 ·rw[hPOST.out]
  obtain⟨u,rfl⟩:∃ u:Nat,c=(u:Int):=⟨c.toNat,by omega⟩
  exact⟨u % n,Nat.mod_lt _ hn,rfl,rfl⟩
open Go.RowKit
set_option maxHeartbeats 16000000 in
set_option maxRecDepth 100000 in
theorem back_any {A:Nat→Addr}{w:World}{s dm x:ByteArray}{c:Int}(K:Kit A w) (hx:x.size≤140737488351232) (hc0 : -9223372036854775808≤c) (hc1:c≤9223372036854775807) :
 Calls Tryz.prog 5 #[.string s,.string dm,.string x,.int .i64 c] w fun e w'=>e=.returned (.bool true)∧Fr w w' (fun _=>False):=by
 obtain⟨POST,hPOST⟩:∃ Q,Hid (Q=fun (e:Ending) (w':World)=>e=.returned (.bool true)∧Fr w w' (fun _=>False)):=⟨_,rfl⟩
 rw[← hPOST.out]
 have hL:=hide (alive_any K)
 have hE:=fun W (hW:Fr w W (fun _=>False))=>(K.fr hW).encs s dm
 by_cases h0:(encAns s dm).2=0
 ·have hB:=fun hO=>enc_size (s:=s) (dm:=dm) h0 hO
  obtain⟨ha,hk⟩:=back_ans h0
  have hD1:=fun W (hW:Fr w W (fun _=>False)) (hz:((encAns s dm).1++x).size≤4000)=>(show _ from(ha x hz)▸(K.fr hW).dec s ((encAns s dm).1++x))
  have hD2:=fun W (hW:Fr w W (fun _=>False)) k (h1:k<(encAns s dm).1.size) (h2:(encAns s dm).1.size≤4000)=>(show _ from(hk k h1 h2)▸(K.fr hW).dec s ((encAns s dm).1.extract 0 k))
  clear ha hk K
  rw[h0] at hE
  simp only[noB_lit'] at hD2
  generalize (encAns s dm).1=b at hE hB hD1 hD2
  rw[ByteArray.size_append] at hD1
  clear h0
  replace hE:=hide hE
  replace hB:=hide hB
  have hP:=hide (fun (W:World) (h1:0<b.size) (h2:b.size≤4000)=>pick_any (w:=W) hc0 hc1 h1 h2)
  replace hD1:=hide hD1
  replace hD2:=hide hD2
  have hf:Hid (Fr w w (fun _=>False)):=hide (Fr.refl _ _)
  clear hc0 hc1
  by_cases h1:(b.size:Int)+(x.size:Int)≤4000
  ·by_cases h2:(b.size:Int)=0
   ·have h2':((b.size:Int)==0)=true:=by rw[beq_iff_eq];exact h2
    replace h2:=hide h2
    go_enter Tryz.func5,Tryz.ntmps5
    go_wp2_with (first
     |(go_at_call 14;refine hL.out.mono ?_;rintro e w1 ⟨rfl,hf1⟩;replace hf:=hide (hf.out.trans hf1 (fun _ _ f=>f));clear hf1)
     |(go_at_call 7;refine(hE.out _ hf.out).mono ?_;rintro e w2 ⟨rfl,hf2,hO⟩;have hb:=hB.out hO;replace hf:=hide (hf.out.trans hf2 (fun _ _ f=>f));clear hO hf2)
     |(go_at_call 10;with_reducible refine(hD1.out _ hf.out (by omega)).mono ?_;rintro e w3 ⟨rfl,hf3⟩;replace hf:=hide (hf.out.trans hf3 (fun _ _ f=>f));clear hf3)
     | go_in)
    rw[hPOST.out]
    exact⟨rfl,hf.out⟩
   ·have h2':((b.size:Int)==0)=false:=by rw[beq_eq_false_iff_ne];exact h2
    have h2n:0<b.size:=by omega
    replace h2:=hide h2
    have h3:¬ ((4000:Int)<(b.size:Int)):=by omega
    go_enter Tryz.func5,Tryz.ntmps5
    go_wp2_with (first
     |(go_at_call 14;refine hL.out.mono ?_;rintro e w1 ⟨rfl,hf1⟩;replace hf:=hide (hf.out.trans hf1 (fun _ _ f=>f));clear hf1)
     |(go_at_call 7;refine(hE.out _ hf.out).mono ?_;rintro e w2 ⟨rfl,hf2,hO⟩;have hb:=hB.out hO;replace hf:=hide (hf.out.trans hf2 (fun _ _ f=>f));clear hO hf2)
     |(go_at_call 10;with_reducible refine(hD1.out _ hf.out (by omega)).mono ?_;rintro e w3 ⟨rfl,hf3⟩;replace hf:=hide (hf.out.trans hf3 (fun _ _ f=>f));clear hf3)
     |(go_at_call 16;refine(hP.out _ (by omega) (by omega)).mono ?_;rintro e w4 ⟨k,hk,rfl,rfl⟩;have hk1:¬ ((b.size:Int)<(k:Int)):=(by omega);have hk2:¬ ((k:Int)<0):=(by omega))
     |(go_at_call 10;with_reducible refine(hD2.out _ hf.out k hk (by omega)).mono ?_;rintro e w5 ⟨rfl,hf5⟩;replace hf:=hide (hf.out.trans hf5 (fun _ _ f=>f));clear hf5)
     | go_in)
    rw[hPOST.out]
    exact⟨rfl,hf.out⟩
  ·by_cases h2:(b.size:Int)=0
   ·have h2':((b.size:Int)==0)=true:=by rw[beq_iff_eq];exact h2
    replace h2:=hide h2
    go_enter Tryz.func5,Tryz.ntmps5
    go_wp2_with (first
     |(go_at_call 14;refine hL.out.mono ?_;rintro e w1 ⟨rfl,hf1⟩;replace hf:=hide (hf.out.trans hf1 (fun _ _ f=>f));clear hf1)
     |(go_at_call 7;refine(hE.out _ hf.out).mono ?_;rintro e w2 ⟨rfl,hf2,hO⟩;have hb:=hB.out hO;replace hf:=hide (hf.out.trans hf2 (fun _ _ f=>f));clear hO hf2)
     | go_in)
    rw[hPOST.out]
    exact⟨rfl,hf.out⟩
   ·have h2':((b.size:Int)==0)=false:=by rw[beq_eq_false_iff_ne];exact h2
    have h2n:0<b.size:=by omega
    replace h2:=hide h2
    by_cases h3:(4000:Int)<(b.size:Int)
    ·go_enter Tryz.func5,Tryz.ntmps5
     go_wp2_with (first
      |(go_at_call 14;refine hL.out.mono ?_;rintro e w1 ⟨rfl,hf1⟩;replace hf:=hide (hf.out.trans hf1 (fun _ _ f=>f));clear hf1)
      |(go_at_call 7;refine(hE.out _ hf.out).mono ?_;rintro e w2 ⟨rfl,hf2,hO⟩;have hb:=hB.out hO;replace hf:=hide (hf.out.trans hf2 (fun _ _ f=>f));clear hO hf2)
      | go_in)
     rw[hPOST.out]
     exact⟨rfl,hf.out⟩
    ·go_enter Tryz.func5,Tryz.ntmps5
     go_wp2_with (first
      |(go_at_call 14;refine hL.out.mono ?_;rintro e w1 ⟨rfl,hf1⟩;replace hf:=hide (hf.out.trans hf1 (fun _ _ f=>f));clear hf1)
      |(go_at_call 7;refine(hE.out _ hf.out).mono ?_;rintro e w2 ⟨rfl,hf2,hO⟩;have hb:=hB.out hO;replace hf:=hide (hf.out.trans hf2 (fun _ _ f=>f));clear hO hf2)
      |(go_at_call 16;refine(hP.out _ (by omega) (by omega)).mono ?_;rintro e w4 ⟨k,hk,rfl,rfl⟩;have hk1:¬ ((b.size:Int)<(k:Int)):=(by omega);have hk2:¬ ((k:Int)<0):=(by omega))
      |(go_at_call 10;with_reducible refine(hD2.out _ hf.out k hk (by omega)).mono ?_;rintro e w5 ⟨rfl,hf5⟩;replace hf:=hide (hf.out.trans hf5 (fun _ _ f=>f));clear hf5)
      | go_in)
     rw[hPOST.out]
     exact⟨rfl,hf.out⟩
 ·have hb:=encAns_bad h0
  rw[hb,noB_lit'] at hE
  generalize (encAns s dm).2=n at hE h0
  have hne:(n==0)=false:=by simp;exact h0
  replace hE:=hide hE
  clear K
  go_enter Tryz.func5,Tryz.ntmps5
  go_wp2_with (first
   |(go_at_call 14;refine hL.out.mono ?_;rintro e w1 ⟨rfl,hf1⟩;replace hf1:=hide hf1)
   |(go_at_call 7;refine(hE.out _ hf1.out).mono ?_;rintro e w2 ⟨rfl,hf2,hO⟩;replace hf2:=hide hf2;clear hO)
   | go_in)
  rw[hPOST.out]
  exact⟨rfl,hf1.out.trans hf2.out (fun _ _ f=>f)⟩
end Go.Proofs.YtiifagiebikmdaaGreatDoor
