import Derived.Test.YtiifagiebikmdaaGreatDoorAG15
import Derived.Test.YtiifagiebikmdaaGreatDoorAG02
namespace Go.Proofs.YtiifagiebikmdaaGreatDoor
open Go.RowKit
def PDefPost (w:World) (bp:Nat) (s:ByteArray) (i:Nat) (e:Ending) (w':World):Prop:=
 ∃ k g,k=(pD s i 0).getD s.size∧i≤k∧k≤s.size∧w.heap.size≤g∧e=.returned (.pointer (some ⟨g,0,none⟩))∧Blk w' g [.int .i64 (i:Int),.string (s.extract i k),.nilIface] 153∧Fr w w' (· = bp)∧PAt w' bp s k
def PDInv (w:World) (bp:Nat) (s:ByteArray) (i:Nat) (n:Nat) (ov:Value) (W:World):Prop:=
 ∃ k o:Nat,ov=.int .i64 (o:Int)∧pD s i 0=pD s k o∧i≤k∧o≤k∧k≤s.size∧PAt W bp s k∧Fr w W (· = bp)∧s.size-k≤n
theorem opens_cases {c:Nat}(h:opens c=true):c=40∨c=91∨c=123∨c=60:=by
 simp only[opens,Bool.or_eq_true,beq_iff_eq] at h;omega
theorem closes_cases {c:Nat}(h:closes c=true):c=41∨c=93∨c=125∨c=62:=by
 simp only[closes,Bool.or_eq_true,beq_iff_eq] at h;omega
theorem neither_cases {c:Nat}(h:opens c=false) (h2:closes c=false):c≠40∧c≠91∧c≠123∧c≠60∧c≠41∧c≠93∧c≠125∧c≠62:=by
 refine⟨?_,?_,?_,?_,?_,?_,?_,?_⟩ <;> (rintro rfl;first|(revert h;decide)|(revert h2;decide))
set_option maxHeartbeats 8000000 in
set_option maxRecDepth 100000 in
theorem pdefault_any {w:World}{bp:Nat}{s:ByteArray}{i:Nat}(h:PAt w bp s i) (hs:s.size≤300) (hi:i≤s.size) :
 Calls Tryz.prog 172 #[.pointer (some ⟨bp,0,none⟩)] w (PDefPost w bp s i):=by
 obtain⟨POST,hPOST⟩:∃ P,Hid (P=PDefPost w bp s i):=⟨_,rfl⟩
 rw[← hPOST.out]
 have hbp:=h.lt
 have start:=hide (show PDInv w bp s i (s.size-i) (.int .i64 0) w from⟨i,0,rfl,rfl,Nat.le_refl _,Nat.zero_le _,hi,h,Fr.refl _ _,Nat.le_refl _⟩)
 replace h:=hide h
 go_enter Tryz.func172,Tryz.ntmps172
 go_wp2_with (go_at_call 103;refine(pspot_any h.out).mono ?_;rintro e w' ⟨rfl,hw'⟩;rw[hw'];clear hw')
 go_loopg [4] (s.size-i) (fun n ov W=>PDInv w bp s i n ov W)
 case atStart=>exact start.out
 case round=>
  clear start
  obtain⟨k,o,rfl,hpd,hik,hok,hkl,h1,hf1,hn⟩:=hrel
  have c0:=h1.c0
  have c1:=h1.c1
  replace hpd:=hide hpd
  have hbw:bp<wr.heap.size:=h1.lt
  have hik':(i:Int)≤(k:Int):=by omega
  have hkl':(k:Int)≤(s.size:Int):=by omega
  replace hf1:=hide hf1
  replace h1:=hide h1
  have fin:Hid (∀ W,Still wr W→(pD s i 0).getD s.size=k→POST (.returned (.pointer (some ⟨W.heap.size,0,none⟩))) (W.alloc (.cells #[.int .i64 (i:Int),.string (s.extract i k),.nilIface] 153))):=hide (fun W hW he=>by
   rw[hPOST.out]
   have hF:=hf1.out.still hW
   exact⟨k,W.heap.size,he.symm,hik,hkl,hF.size,rfl,Blk.new W _ _,hF.alloc _,Blk.alloc (h1.out.still hW) _⟩)
  by_cases hk:k<s.size
  ·have hk':(k:Int)<(s.size:Int):=by omega
   obtain⟨c,hc⟩:∃ c,bt s k=c:=⟨_,rfl⟩
   have hbk:((s[k]'hk).toNat:Int)=(c:Int):=by rw[← hc,bt_eq s k hk]
   have hS:=pD_step o hk
   rw[hc,← hpd.out] at hS
   replace hc:=hide hc
   have f1:=h1.out.thaw 1
   by_cases hstop:o=0∧(c=44∨c=41)
   ·rw[if_pos hstop] at hS
    have hpe:=hide (show(pD s i 0).getD s.size=k by rw[hS];rfl)
    clear hS
    obtain⟨rfl,hcc⟩:=hstop
    rcases hcc with rfl|rfl
    all_goals
     go_wp2_with fail
     go_quiet (fail)
     go_wp2_with fail
     go_quiet (fail)
     go_wp2_with fail
     refine wp_regionC 13 (fun W=>W.cell? ⟨bp,0,none⟩=some (.string s)∧W.cell? ⟨bp,1,none⟩=some (.int .i64 (k:Int))) (by kernel_rfl) ?_
     refine wpAnyC_take 0 ?v0 rfl (by kernel_rfl) (fun _ _ _ h=>h) (by kernel_rfl) ?y0 ?_
     case y0=>(rintro W ⟨h1,h2⟩;go_simp <;> rfl)
     refine wpAnyC_take 1 ?v1 rfl (by kernel_rfl) (fun _ _ _ h=>h) (by kernel_rfl) ?y1 ?_
     case y1=>(rintro W ⟨h1,h2⟩;go_simp <;> rfl)
     refine wpAnyC_take 2 ?v2 rfl (by kernel_rfl) (fun _ _ _ h=>h) (by kernel_rfl) ?y2 ?_
     case y2=>(rintro W ⟨h1,h2⟩;go_simp <;> rfl)
     refine wpAnyC_take 3 ?v3 rfl (by kernel_rfl) (fun _ _ _ h=>h) (by kernel_rfl) ?y3 ?_
     case y3=>(rintro W ⟨h1,h2⟩;go_simp <;> rfl)
     refine wpAnyC_take 4 ?v4 rfl (by kernel_rfl) (fun _ _ _ h=>h) (by kernel_rfl) ?y4 ?_
     case y4=>(rintro W ⟨h1,h2⟩;go_simp <;> rfl)
     refine wpAnyC_take 5 ?v5 rfl (by kernel_rfl) (fun _ _ _ h=>h) (by kernel_rfl) ?y5 ?_
     case y5=>(rintro W ⟨h1,h2⟩;go_simp <;> rfl)
     refine wpAnyC_take 6 ?v6 rfl (by kernel_rfl) (fun _ _ _ h=>h) (by kernel_rfl) ?y6 ?_
     case y6=>(rintro W ⟨h1,h2⟩;go_simp <;> rfl)
     refine wpAnyC_take 7 ?v7 rfl (by kernel_rfl) (fun _ _ _ h=>h) (by kernel_rfl) ?y7 ?_
     case y7=>(rintro W ⟨h1,h2⟩;go_simp <;> rfl)
     refine wpAnyC_take 8 ?v8 rfl (by kernel_rfl) (fun _ _ _ h=>h) (by kernel_rfl) ?y8 ?_
     case y8=>(rintro W ⟨h1,h2⟩;go_simp <;> rfl)
     refine wpAnyC_take 9 ?v9 rfl (by kernel_rfl) (fun _ _ _ h=>h) (by kernel_rfl) ?y9 ?_
     case y9=>(rintro W ⟨h1,h2⟩;go_simp <;> rfl)
     refine wpAnyC_take 10 ?v10 rfl (by kernel_rfl) (fun _ _ _ h=>h) (by kernel_rfl) ?y10 ?_
     case y10=>(rintro W ⟨h1,h2⟩;go_simp <;> rfl)
     refine wpAnyC_take 11 ?v11 rfl (by kernel_rfl) (fun _ _ _ h=>h) (by kernel_rfl) ?y11 ?_
     case y11=>(rintro W ⟨h1,h2⟩;go_simp <;> rfl)
     refine wpAnyC_one 12 rfl (by kernel_rfl) (fun _=>⟨c0,c1⟩) (fun K hK=>?_)
     go_simp
     refine hK _ _ ?_
     clear hK K
     refine wpAnyC_one 13 rfl (by kernel_rfl) (fun _=>⟨(World.cell?_alloc_past _ _ _ (by exact hbw)).trans c0,(World.cell?_alloc_past _ _ _ (by exact hbw)).trans c1⟩) (fun K hK=>?_)
     go_simp
     refine hK _ _ ?_
     clear hK K
     refine wpAnyC_done (by kernel_rfl) (fun hm=>absurd hm (by decide)) ?_ _
     go_wp2_with fail
     try go_ret
     exact fin.out (wr.drewN _) (Still.drewN _ _) hpe.out
   ·rw[if_neg hstop] at hS
    replace hS:=hide hS
    have hpost:Hid (∀ (o':Int) (W:World),o'=(level c o:Nat)→Still wr W→PDInv w bp s i (s.size-(k+1)) (.int .i64 o') (W.setCell ⟨bp,1,none⟩ (.int .i64 ((k:Int)+1)))):=hide (fun o' W ho' hW=>by
     have h2:=h1.out.still hW
     exact⟨k+1,level c o,by rw[ho'],hS.out,by omega,by unfold level;split <;> (try split) <;> omega,hk,h2.inc,(hf1.out.still hW).setCell _ _ (fun _=>rfl),Nat.le_refl _⟩)
    replace hstop:=hide hstop
    cases ho:opens c <;> cases hcl:closes c
    case true.true=>exact(not_both ho hcl).elim
    case false.false=>
     have hlv:level c o=o:=by simp[level,ho,hcl]
     replace hlv:=hide hlv
     obtain⟨m1,m2,m3,m4,m5,m6,m7,m8⟩:=neither_cases ho hcl
     clear ho hcl
     have e1:((c:Int)==40)=false:=by simp;omega
     have e2:((c:Int)==91)=false:=by simp;omega
     have e3:((c:Int)==123)=false:=by simp;omega
     have e4:((c:Int)==60)=false:=by simp;omega
     have e5:((c:Int)==41)=false:=by simp;omega
     have e6:((c:Int)==93)=false:=by simp;omega
     have e7:((c:Int)==125)=false:=by simp;omega
     have e8:((c:Int)==62)=false:=by simp;omega
     by_cases ho0:o=0
     ·subst ho0
      have e9:((c:Int)==44)=false:=by have:=hstop.out;simp;omega
      go_wp2_with fail
      go_quiet (fail)
      go_wp2_with fail
      go_quiet (fail)
      go_wp2_with fail
      go_roundg (s.size-(k+1))
      case measure=>omega
      case rel=>exact hpost.out _ _ (by rw[hlv.out] <;> omega) (by first|exact Still.drewN _ _|exact(Still.drewN _ _).trans (Still.drewN _ _)|exact((Still.drewN _ _).trans (Still.drewN _ _)).trans (Still.drewN _ _))
     ·have n0:((o:Int)==0)=false:=by simp;omega
      go_wp2_with fail
      go_quiet (fail)
      go_wp2_with fail
      go_quiet (fail)
      go_wp2_with fail
      go_roundg (s.size-(k+1))
      case measure=>omega
      case rel=>exact hpost.out _ _ (by rw[hlv.out] <;> omega) (by first|exact Still.drewN _ _|exact(Still.drewN _ _).trans (Still.drewN _ _)|exact((Still.drewN _ _).trans (Still.drewN _ _)).trans (Still.drewN _ _))
    case true.false=>
     have hlv:level c o=o+1:=by simp[level,ho]
     replace hlv:=hide hlv
     have hc4:=opens_cases ho
     clear ho hcl
     rcases hc4 with rfl|rfl|rfl|rfl
     all_goals
      by_cases ho0:o=0
      ·subst ho0
       go_wp2_with fail
       go_quiet (fail)
       go_wp2_with fail
       go_quiet (fail)
       go_wp2_with fail
       go_roundg (s.size-(k+1))
       case measure=>omega
       case rel=>exact hpost.out _ _ (by rw[hlv.out] <;> omega) (by first|exact Still.drewN _ _|exact(Still.drewN _ _).trans (Still.drewN _ _)|exact((Still.drewN _ _).trans (Still.drewN _ _)).trans (Still.drewN _ _))
      ·have n0:((o:Int)==0)=false:=by simp;omega
       have hob:(o:Int)≤300:=by omega
       go_wp2_with fail
       go_quiet (fail)
       go_wp2_with fail
       go_quiet (fail)
       go_wp2_with fail
       go_roundg (s.size-(k+1))
       case measure=>omega
       case rel=>exact hpost.out _ _ (by rw[hlv.out] <;> omega) (by first|exact Still.drewN _ _|exact(Still.drewN _ _).trans (Still.drewN _ _)|exact((Still.drewN _ _).trans (Still.drewN _ _)).trans (Still.drewN _ _))
    case false.true=>
     have hlv:level c o=o-1:=by simp[level,ho,hcl]
     replace hlv:=hide hlv
     have hc4:=closes_cases hcl
     clear ho hcl
     by_cases ho0:o=0
     ·subst ho0
      have hc3:c=93∨c=125∨c=62:=by have:=hstop.out;omega
      clear hc4
      rcases hc3 with rfl|rfl|rfl
      all_goals
       go_wp2_with fail
       go_quiet (fail)
       go_wp2_with fail
       go_quiet (fail)
       go_wp2_with fail
       go_roundg (s.size-(k+1))
       case measure=>omega
       case rel=>exact hpost.out _ _ (by rw[hlv.out] <;> omega) (by first|exact Still.drewN _ _|exact(Still.drewN _ _).trans (Still.drewN _ _)|exact((Still.drewN _ _).trans (Still.drewN _ _)).trans (Still.drewN _ _))
     ·have n0:((o:Int)==0)=false:=by simp;omega
      have hob:(o:Int)≤300:=by omega
      have hmx:max ((o:Int)-1) 0=(o:Int)-1:=by omega
      rcases hc4 with rfl|rfl|rfl|rfl
      all_goals
       go_wp2_with fail
       go_quiet (fail)
       go_wp2_with fail
       go_quiet (fail)
       go_wp2_with fail
       go_roundg (s.size-(k+1))
       case measure=>omega
       case rel=>exact hpost.out _ _ (by rw[hlv.out] <;> omega) (by first|exact Still.drewN _ _|exact(Still.drewN _ _).trans (Still.drewN _ _)|exact((Still.drewN _ _).trans (Still.drewN _ _)).trans (Still.drewN _ _))
  ·have hke:k=s.size:=by omega
   have hpe:=hide (show(pD s i 0).getD s.size=k by rw[hpd.out,pD_end (by omega),Option.getD_none];exact hke.symm)
   have hk':¬ ((k:Int)<(s.size:Int)):=by omega
   clear hke
   go_wp2_with fail
   go_quiet (fail)
   go_wp2_with fail
   refine wp_regionC 13 (fun W=>W.cell? ⟨bp,0,none⟩=some (.string s)∧W.cell? ⟨bp,1,none⟩=some (.int .i64 (k:Int))) (by kernel_rfl) ?_
   refine wpAnyC_take 0 ?v0 rfl (by kernel_rfl) (fun _ _ _ h=>h) (by kernel_rfl) ?y0 ?_
   case y0=>(rintro W ⟨h1,h2⟩;go_simp <;> rfl)
   refine wpAnyC_take 1 ?v1 rfl (by kernel_rfl) (fun _ _ _ h=>h) (by kernel_rfl) ?y1 ?_
   case y1=>(rintro W ⟨h1,h2⟩;go_simp <;> rfl)
   refine wpAnyC_take 2 ?v2 rfl (by kernel_rfl) (fun _ _ _ h=>h) (by kernel_rfl) ?y2 ?_
   case y2=>(rintro W ⟨h1,h2⟩;go_simp <;> rfl)
   refine wpAnyC_take 3 ?v3 rfl (by kernel_rfl) (fun _ _ _ h=>h) (by kernel_rfl) ?y3 ?_
   case y3=>(rintro W ⟨h1,h2⟩;go_simp <;> rfl)
   refine wpAnyC_take 4 ?v4 rfl (by kernel_rfl) (fun _ _ _ h=>h) (by kernel_rfl) ?y4 ?_
   case y4=>(rintro W ⟨h1,h2⟩;go_simp <;> rfl)
   refine wpAnyC_take 5 ?v5 rfl (by kernel_rfl) (fun _ _ _ h=>h) (by kernel_rfl) ?y5 ?_
   case y5=>(rintro W ⟨h1,h2⟩;go_simp <;> rfl)
   refine wpAnyC_take 6 ?v6 rfl (by kernel_rfl) (fun _ _ _ h=>h) (by kernel_rfl) ?y6 ?_
   case y6=>(rintro W ⟨h1,h2⟩;go_simp <;> rfl)
   refine wpAnyC_take 7 ?v7 rfl (by kernel_rfl) (fun _ _ _ h=>h) (by kernel_rfl) ?y7 ?_
   case y7=>(rintro W ⟨h1,h2⟩;go_simp <;> rfl)
   refine wpAnyC_take 8 ?v8 rfl (by kernel_rfl) (fun _ _ _ h=>h) (by kernel_rfl) ?y8 ?_
   case y8=>(rintro W ⟨h1,h2⟩;go_simp <;> rfl)
   refine wpAnyC_take 9 ?v9 rfl (by kernel_rfl) (fun _ _ _ h=>h) (by kernel_rfl) ?y9 ?_
   case y9=>(rintro W ⟨h1,h2⟩;go_simp <;> rfl)
   refine wpAnyC_take 10 ?v10 rfl (by kernel_rfl) (fun _ _ _ h=>h) (by kernel_rfl) ?y10 ?_
   case y10=>(rintro W ⟨h1,h2⟩;go_simp <;> rfl)
   refine wpAnyC_take 11 ?v11 rfl (by kernel_rfl) (fun _ _ _ h=>h) (by kernel_rfl) ?y11 ?_
   case y11=>(rintro W ⟨h1,h2⟩;go_simp <;> rfl)
   refine wpAnyC_one 12 rfl (by kernel_rfl) (fun _=>⟨c0,c1⟩) (fun K hK=>?_)
   go_simp
   refine hK _ _ ?_
   clear hK K
   refine wpAnyC_one 13 rfl (by kernel_rfl) (fun _=>⟨(World.cell?_alloc_past _ _ _ (by exact hbw)).trans c0,(World.cell?_alloc_past _ _ _ (by exact hbw)).trans c1⟩) (fun K hK=>?_)
   go_simp
   refine hK _ _ ?_
   clear hK K
   refine wpAnyC_done (by kernel_rfl) (fun hm=>absurd hm (by decide)) ?_ _
   go_wp2_with fail
   try go_ret
   exact fin.out (wr.drewN _) (Still.drewN _ _) hpe.out
open Go.RowKit
theorem Fr.four (w:World) (b:Nat) (v0 v1 v2 v3:Value):Fr w ((((w.setCell ⟨b,0,none⟩ v0).setCell ⟨b,1,none⟩ v1).setCell ⟨b,2,none⟩ v2).setCell ⟨b,3,none⟩ v3) (fun g=>g=b):=
 ((((Fr.refl w (fun g=>g=b)).setCell ⟨b,0,none⟩ v0 (fun _=>rfl)).setCell ⟨b,1,none⟩ v1 (fun _=>rfl)).setCell ⟨b,2,none⟩ v2 (fun _=>rfl)).setCell ⟨b,3,none⟩ v3 (fun _=>rfl)
theorem Blk.four {w:World}{b t:Nat}{u0 u1 u2 u3:Value}(h:Blk w b [u0,u1,u2,u3] t) (v0 v1 v2 v3:Value):Blk ((((w.setCell ⟨b,0,none⟩ v0).setCell ⟨b,1,none⟩ v1).setCell ⟨b,2,none⟩ v2).setCell ⟨b,3,none⟩ v3) b [v0,v1,v2,v3] t:=
 (((h.set 0 v0).set 1 v1).set 2 v2).set 3 v3
def PFldPost (w:World) (bp:Nat) (s:ByteArray) (i:Nat) (et:TypeId) (ex:Value) (e:Ending) (w':World):Prop:=
 ∃ (a b:Int) (c d ev:Value),e=.returned (.tuple #[.agg #[.int .i64 a,.int .u8 b,c,d],ev])∧IfV c∧(∃ q,d=.pointer q)∧Fr w w' (· = bp)∧
  ((∃ f j,ev=.nilIface∧PAt w' bp s j∧j≤s.size∧FldV w' (fun g=>w.heap.size≤g) s f (.int .i64 a) (.int .u8 b) c d∧(pField s i=.ok (f,j)∨(pField s i=.error s.size∧j=s.size)))∨
   (∃ k,pField s i=.error k∧FaultAt w' w.heap.size ev (k:Int) (.iface et ex)∧∃ j,j≤s.size∧PAt w' bp s j))
theorem pfield_err {w W:World}{bp:Nat}{s:ByteArray}{i k j lo:Nat}{et:TypeId}{ex ev:Value}(hk:pField s i=.error k) (hF:FaultAt W lo ev (k:Int) (.iface et ex)) (hf:Fr w W (· = bp)) (hlo:w.heap.size<lo) (hbp:bp<w.heap.size) (h:PAt W bp s j) (hj:j≤s.size) :
 PFldPost w bp s i et ex (.returned (.tuple #[.agg #[.int .i64 0,.int .u8 0,.nilIface,.pointer none],ev])) ((((W.setCell ⟨w.heap.size,0,none⟩ (.int .i64 0)).setCell ⟨w.heap.size,1,none⟩ (.int .u8 0)).setCell ⟨w.heap.size,2,none⟩ .nilIface).setCell ⟨w.heap.size,3,none⟩ (.pointer none)):=by
 have h4:=Fr.four W w.heap.size (.int .i64 0) (.int .u8 0) .nilIface (.pointer none)
 exact⟨0,0,.nilIface,.pointer none,ev,rfl,.inl rfl,⟨_,rfl⟩,hf.trans h4 (fun x hx e=>by omega),.inr ⟨k,hk,(hF.fr h4 (fun g hg e=>by omega)).less (by omega),j,hj,h4.blk h (by omega)⟩⟩
set_option maxHeartbeats 8000000 in
set_option maxRecDepth 100000 in
theorem pfield_any {w:World}{bp:Nat}{s:ByteArray}{i:Nat}{et:TypeId}{ex:Value}(h:PAt w bp s i) (hG:Gram w et ex) (hne:bp≠0) (hs:s.size≤300) (hi:i≤s.size) :
 Calls Tryz.prog 161 #[.pointer (some ⟨bp,0,none⟩)] w (PFldPost w bp s i et ex):=by
 obtain⟨POST,hPOST⟩:∃ P,Hid (P=PFldPost w bp s i et ex):=⟨_,rfl⟩
 rw[← hPOST.out]
 have hbp:=h.lt
 have h0:=hide (show PAt (w.alloc (.cells #[.int .i64 0,.int .u8 0,.nilIface,.pointer none] 149)) bp s i from Blk.alloc h _)
 have F0:=hide (show Fr w (w.alloc (.cells #[.int .i64 0,.int .u8 0,.nilIface,.pointer none] 149)) (fun x=>x=bp) from(Fr.refl w _).alloc _)
 have B0:=hide (Blk.new w #[.int .i64 0,.int .u8 0,.nilIface,.pointer none] 149)
 have hz0:(w.alloc (.cells #[.int .i64 0,.int .u8 0,.nilIface,.pointer none] 149)).heap.size=w.heap.size+1:=by simp
 have G0:=hide (hG.fr F0.out (Ne.symm hne))
 replace hz0:=hide hz0
 have hGw:=hide hG
 clear h hG
 obtain⟨x,hx⟩:∃ x,bt s i=x:=⟨_,rfl⟩
 cases hsm:isSmall x with
 | false=>
  have herr:=hide (show pField s i=.error i by unfold pField;rw[hx,hsm];rfl)
  replace hsm:=hide (show isSmall (bt s i)=false by rw[hx];exact hsm)
  replace hx:=hide hx
  go_enter Tryz.func161,Tryz.ntmps161
  go_wp2_with (first
   |(go_at_call 162;refine(pletter_any h0.out G0.out hne hs hi).mono ?_;rintro e w1 ⟨a,b,ev,rfl,hf1,hm⟩;obtain⟨g,hg1,rfl,hg2,h1⟩:∃ g,(w.alloc (.cells #[.int .i64 0,.int .u8 0,.nilIface,.pointer none] 149)).heap.size≤g∧ev=.iface 139 (.pointer (some ⟨g,0,none⟩))∧Blk w1 g [.int .i64 (i:Int),.iface et ex] 141∧PAt w1 bp s i:=(by rcases hm with⟨hq,_⟩|⟨_,⟨g,q1,q2,q3⟩,q4⟩;(exact absurd (hsm.out.symm.trans hq) (by decide));exact⟨g,q1,q2,q3,q4⟩);have D1:=(hf1.blk B0.out (by omega)).alloc (.cells #[.int .i64 a,.int .u8 b] 146);have r0:=D1.cell 0;have r1:=D1.cell 1;have r2:=D1.cell 2;have r3:=D1.cell 3;have g0:=D1.thaw 0;have g1:=D1.thaw 1;have g2:=D1.thaw 2;have g3:=D1.thaw 3;simp only[List.getElem?_cons_zero,List.getElem?_cons_succ] at r0 r1 r2 r3;replace D1:=hide D1;replace hf1:=hide hf1;replace hg2:=hide hg2;replace h1:=hide h1))
  have S2:=Blk.four D1.out (.int .i64 0) (.int .u8 0) (.nilIface) (.pointer none)
  have q0:=S2.cell 0
  have q1:=S2.cell 1
  have q2:=S2.cell 2
  have q3:=S2.cell 3
  simp only[List.getElem?_cons_zero,List.getElem?_cons_succ] at q0 q1 q2 q3
  refine bodyPost_ret (v:=.tuple #[.agg #[.int .i64 0,.int .u8 0,.nilIface,.pointer none],.iface 139 (.pointer (some ⟨g,0,none⟩))]) (by simp[results,Tryz.results161,go_sem,q0,q1,q2,q3]) rfl ?_
  rw[hPOST.out]
  exact pfield_err herr.out (lo:=(w.alloc (.cells #[.int .i64 0,.int .u8 0,.nilIface,.pointer none] 149)).heap.size) ⟨g,hg1,rfl,hg2.out.alloc _⟩ ((F0.out.trans hf1.out (fun _ _ e=>e)).alloc _) (by rw[hz0.out];omega) hbp (Blk.alloc h1.out _) hi
 | true=>
  have hlt:i+1≤s.size:=bt_pos (isSmall_pos (by rw[hx];exact hsm))
  by_cases h58:bt s (i+1)=58
  case neg=>
   have herr:=hide (show pField s i=.error (i+1) by unfold pField;rw[hx,hsm,if_pos rfl,if_neg h58])
   replace hsm:=hide (show isSmall (bt s i)=true by rw[hx];exact hsm)
   replace hx:=hide hx
   replace h58:=hide h58
   go_enter Tryz.func161,Tryz.ntmps161
   go_wp2_with (first
    |(go_at_call 162;refine(pletter_any h0.out G0.out hne hs hi).mono ?_;rintro e w1 ⟨a,b,ev,rfl,hf1,hm⟩;obtain⟨rfl,rfl,rfl,h1⟩:a=(i:Int)∧b=(x:Int)∧ev=.nilIface∧PAt w1 bp s (i+1):=(by rcases hm with⟨_,q1,q2,q3,q4,_⟩|⟨hq,_⟩;(exact⟨q1,q2.trans (by rw[hx.out]),q3,q4⟩);exact absurd (hsm.out.symm.trans hq) (by decide));have P1:=Blk.alloc h1 (.cells #[.int .i64 (i:Int),.int .u8 (x:Int)] 146);have F1:=(F0.out.trans hf1 (fun _ _ e=>e)).alloc (.cells #[.int .i64 (i:Int),.int .u8 (x:Int)] 146);have G1:=hGw.out.fr F1 (Ne.symm hne);have L1:=Blk.new w1 #[.int .i64 (i:Int),.int .u8 (x:Int)] 146;have D1:=(hf1.blk B0.out (by omega)).alloc (.cells #[.int .i64 (i:Int),.int .u8 (x:Int)] 146);have hs1:=hf1.size;have hz1:(w1.alloc (.cells #[.int .i64 (i:Int),.int .u8 (x:Int)] 146)).heap.size=w1.heap.size+1:=(by simp);rw[hz0.out] at hs1;replace P1:=hide (show PAt _ bp s (i+1) from P1);replace F1:=hide F1;replace G1:=hide G1;replace L1:=hide L1;replace D1:=hide D1;replace hz1:=hide hz1;clear hf1 h1 hm)
    |(go_at_call 105;refine(pexpect_any 58 P1.out G1.out hne hs hlt rfl (by decide)).mono ?_;rintro e w2 ⟨v2,rfl,hf2,hE⟩;obtain⟨g,hg1,rfl,hg2,h2⟩:∃ g,(w1.alloc (.cells #[.int .i64 (i:Int),.int .u8 (x:Int)] 146)).heap.size≤g∧v2=.iface 139 (.pointer (some ⟨g,0,none⟩))∧Blk w2 g [.int .i64 ((i+1:Nat):Int),.iface et ex] 141∧PAt w2 bp s (i+1):=(by rcases hE with⟨hq,_⟩|⟨_,⟨g,q1,q2,q3⟩,q4⟩;(exact absurd hq h58.out);exact⟨g,q1,q2,q3,q4⟩);have D2:=hf2.blk D1.out (by omega);have r0:=D2.cell 0;have r1:=D2.cell 1;have r2:=D2.cell 2;have r3:=D2.cell 3;have g0:=D2.thaw 0;have g1:=D2.thaw 1;have g2:=D2.thaw 2;have g3:=D2.thaw 3;simp only[List.getElem?_cons_zero,List.getElem?_cons_succ] at r0 r1 r2 r3;replace D2:=hide D2;replace hf2:=hide hf2;replace hg2:=hide hg2;replace h2:=hide h2))
   have S2:=Blk.four D2.out (.int .i64 0) (.int .u8 0) (.nilIface) (.pointer none)
   have q0:=S2.cell 0
   have q1:=S2.cell 1
   have q2:=S2.cell 2
   have q3:=S2.cell 3
   simp only[List.getElem?_cons_zero,List.getElem?_cons_succ] at q0 q1 q2 q3
   refine bodyPost_ret (v:=.tuple #[.agg #[.int .i64 0,.int .u8 0,.nilIface,.pointer none],.iface 139 (.pointer (some ⟨g,0,none⟩))]) (by simp[results,Tryz.results161,go_sem,q0,q1,q2,q3]) rfl ?_
   rw[hPOST.out]
   exact pfield_err herr.out (lo:=(w1.alloc (.cells #[.int .i64 (i:Int),.int .u8 (x:Int)] 146)).heap.size) ⟨g,hg1,rfl,hg2.out⟩ (F1.out.trans hf2.out (fun _ _ e=>e)) (by rw[hz1.out];omega) hbp h2.out hlt
  case pos=>
  have hlt2:i+2≤s.size:=bt_pos (s:=s) (i:=i+1) (by omega)
  have hbd:=pT_bounds (s:=s) hlt2
  cases hp:pT s (i+2) with
  | error k=>
   have herr:=hide (show pField s i=.error k by unfold pField;rw[hx,hsm,if_pos rfl,if_pos h58,hp])
   replace hsm:=hide (show isSmall (bt s i)=true by rw[hx];exact hsm)
   replace hx:=hide hx
   replace h58:=hide h58
   replace hp:=hide hp
   clear hbd
   go_enter Tryz.func161,Tryz.ntmps161
   go_wp2_with (first
    |(go_at_call 162;refine(pletter_any h0.out G0.out hne hs hi).mono ?_;rintro e w1 ⟨a,b,ev,rfl,hf1,hm⟩;obtain⟨rfl,rfl,rfl,h1⟩:a=(i:Int)∧b=(x:Int)∧ev=.nilIface∧PAt w1 bp s (i+1):=(by rcases hm with⟨_,q1,q2,q3,q4,_⟩|⟨hq,_⟩;(exact⟨q1,q2.trans (by rw[hx.out]),q3,q4⟩);exact absurd (hsm.out.symm.trans hq) (by decide));have P1:=Blk.alloc h1 (.cells #[.int .i64 (i:Int),.int .u8 (x:Int)] 146);have F1:=(F0.out.trans hf1 (fun _ _ e=>e)).alloc (.cells #[.int .i64 (i:Int),.int .u8 (x:Int)] 146);have G1:=hGw.out.fr F1 (Ne.symm hne);have L1:=Blk.new w1 #[.int .i64 (i:Int),.int .u8 (x:Int)] 146;have D1:=(hf1.blk B0.out (by omega)).alloc (.cells #[.int .i64 (i:Int),.int .u8 (x:Int)] 146);have hs1:=hf1.size;have hz1:(w1.alloc (.cells #[.int .i64 (i:Int),.int .u8 (x:Int)] 146)).heap.size=w1.heap.size+1:=(by simp);rw[hz0.out] at hs1;replace P1:=hide (show PAt _ bp s (i+1) from P1);replace F1:=hide F1;replace G1:=hide G1;replace L1:=hide L1;replace D1:=hide D1;replace hz1:=hide hz1;clear hf1 h1 hm)
    |(go_at_call 105;refine(pexpect_any 58 P1.out G1.out hne hs hlt rfl (by decide)).mono ?_;rintro e w2 ⟨v2,rfl,hf2,hE⟩;obtain⟨rfl,h2⟩:v2=.nilIface∧PAt w2 bp s (i+2):=(by rcases hE with⟨_,q1,q2,_⟩|⟨hq,_⟩;(exact⟨q1,q2⟩);exact absurd h58.out hq);have hs2:=hf2.size;rw[hz1.out] at hs2;have D2:=hf2.blk D1.out (by omega);have L2:=hf2.blk L1.out (by omega);have F2:=F1.out.trans hf2 (fun _ _ e=>e);have G2:=hGw.out.fr F2 (Ne.symm hne);replace D2:=hide D2;replace L2:=hide L2;replace F2:=hide F2;replace G2:=hide G2;replace h2:=hide h2;clear hf2 hE)
    |(go_at_call 74;refine(ptyp_ok hs _ (i+2) (Nat.le_refl _) hlt2 w2 bp et ex h2.out G2.out hne).mono ?_;rintro e w3 ⟨v3,ev3,_,rfl,hf3,hm⟩;rw[hp.out] at hm;obtain⟨⟨g,hg1,rfl,hg2⟩,j3,hj3,h3⟩:=hm;have D3:=hf3.blk D2.out (by omega);have r0:=D3.cell 0;have r1:=D3.cell 1;have r2:=D3.cell 2;have r3:=D3.cell 3;have g0:=D3.thaw 0;have g1:=D3.thaw 1;have g2:=D3.thaw 2;have g3:=D3.thaw 3;simp only[List.getElem?_cons_zero,List.getElem?_cons_succ] at r0 r1 r2 r3;replace D3:=hide D3;replace hf3:=hide hf3;replace hg2:=hide hg2;replace h3:=hide h3))
   have S2:=Blk.four D3.out (.int .i64 0) (.int .u8 0) (.nilIface) (.pointer none)
   have q0:=S2.cell 0
   have q1:=S2.cell 1
   have q2:=S2.cell 2
   have q3:=S2.cell 3
   simp only[List.getElem?_cons_zero,List.getElem?_cons_succ] at q0 q1 q2 q3
   refine bodyPost_ret (v:=.tuple #[.agg #[.int .i64 0,.int .u8 0,.nilIface,.pointer none],.iface 139 (.pointer (some ⟨g,0,none⟩))]) (by simp[results,Tryz.results161,go_sem,q0,q1,q2,q3]) rfl ?_
   rw[hPOST.out]
   exact pfield_err herr.out (lo:=w2.heap.size) ⟨g,hg1,rfl,hg2.out⟩ (F2.out.trans hf3.out (fun _ _ e=>e)) (by omega) hbp h3.out hj3
  | ok r=>
  obtain⟨t,j⟩:=r
  have hj:=hbd.1 t j hp
  clear hbd
  by_cases h61:bt s j=61
  case neg=>
   have hres:=hide (show pField s i=.ok (⟨x,i,t,none⟩,j) by unfold pField;rw[hx,hsm,if_pos rfl,if_pos h58,hp];simp only;rw[if_neg h61])
   replace hsm:=hide (show isSmall (bt s i)=true by rw[hx];exact hsm)
   replace hx:=hide hx
   replace h58:=hide h58
   replace hp:=hide hp
   replace h61:=hide h61
   go_enter Tryz.func161,Tryz.ntmps161
   go_wp2_with (first
    |(go_at_call 162;refine(pletter_any h0.out G0.out hne hs hi).mono ?_;rintro e w1 ⟨a,b,ev,rfl,hf1,hm⟩;obtain⟨rfl,rfl,rfl,h1⟩:a=(i:Int)∧b=(x:Int)∧ev=.nilIface∧PAt w1 bp s (i+1):=(by rcases hm with⟨_,q1,q2,q3,q4,_⟩|⟨hq,_⟩;(exact⟨q1,q2.trans (by rw[hx.out]),q3,q4⟩);exact absurd (hsm.out.symm.trans hq) (by decide));have P1:=Blk.alloc h1 (.cells #[.int .i64 (i:Int),.int .u8 (x:Int)] 146);have F1:=(F0.out.trans hf1 (fun _ _ e=>e)).alloc (.cells #[.int .i64 (i:Int),.int .u8 (x:Int)] 146);have G1:=hGw.out.fr F1 (Ne.symm hne);have L1:=Blk.new w1 #[.int .i64 (i:Int),.int .u8 (x:Int)] 146;have D1:=(hf1.blk B0.out (by omega)).alloc (.cells #[.int .i64 (i:Int),.int .u8 (x:Int)] 146);have hs1:=hf1.size;have hz1:(w1.alloc (.cells #[.int .i64 (i:Int),.int .u8 (x:Int)] 146)).heap.size=w1.heap.size+1:=(by simp);rw[hz0.out] at hs1;replace P1:=hide (show PAt _ bp s (i+1) from P1);replace F1:=hide F1;replace G1:=hide G1;replace L1:=hide L1;replace D1:=hide D1;replace hz1:=hide hz1;clear hf1 h1 hm)
    |(go_at_call 105;refine(pexpect_any 58 P1.out G1.out hne hs hlt rfl (by decide)).mono ?_;rintro e w2 ⟨v2,rfl,hf2,hE⟩;obtain⟨rfl,h2⟩:v2=.nilIface∧PAt w2 bp s (i+2):=(by rcases hE with⟨_,q1,q2,_⟩|⟨hq,_⟩;(exact⟨q1,q2⟩);exact absurd h58.out hq);have hs2:=hf2.size;rw[hz1.out] at hs2;have D2:=hf2.blk D1.out (by omega);have L2:=hf2.blk L1.out (by omega);have F2:=F1.out.trans hf2 (fun _ _ e=>e);have G2:=hGw.out.fr F2 (Ne.symm hne);replace D2:=hide D2;replace L2:=hide L2;replace F2:=hide F2;replace G2:=hide G2;replace h2:=hide h2;clear hf2 hE)
    |(go_at_call 74;refine(ptyp_ok hs _ (i+2) (Nat.le_refl _) hlt2 w2 bp et ex h2.out G2.out hne).mono ?_;rintro e w3 ⟨v3,ev3,hI3,rfl,hf3,hm⟩;rw[hp.out] at hm;obtain⟨rfl,h3,hv3⟩:=hm;obtain⟨vT,vx,rfl⟩:∃ T x,v3=.iface T x:=(by cases hv3 <;> exact⟨_,_,rfl⟩);have hs3:=hf3.size;have D3:=hf3.blk D2.out (by omega);have L3:=hf3.blk L2.out (by omega);have F3:=F2.out.trans hf3 (fun _ _ e=>e);have l0:=L3.cell 0;have l1:=L3.cell 1;simp only[List.getElem?_cons_zero,List.getElem?_cons_succ] at l0 l1;have A4:=(Fr.refl w3 (fun _=>False)).alloc (.cells #[.int .i64 (i:Int),.int .u8 (x:Int),.iface vT vx,.pointer none] 149);have hz4:(w3.alloc (.cells #[.int .i64 (i:Int),.int .u8 (x:Int),.iface vT vx,.pointer none] 149)).heap.size=w3.heap.size+1:=(by simp);have D4:=A4.blk D3 id;have E4:=Blk.new w3 #[.int .i64 (i:Int),.int .u8 (x:Int),.iface vT vx,.pointer none] 149;have F4:=F3.trans A4 (fun _ _ f=>f.elim);have P4:=A4.blk h3 id;have V4:=(hv3.mono (Q:=fun g=>w3.heap.size≠g∧w.heap.size<g∧w1.heap.size<g) (fun g hg1 hg2=>by omega)).fr A4 (fun _ _ f=>f);replace V4:=hide V4;replace D4:=hide D4;replace E4:=hide E4;replace F4:=hide F4;replace P4:=hide (show PAt _ bp s j from P4);replace hz4:=hide hz4;clear hI3 hf3 h3 hv3 D3 L3 F3 A4)
    |(go_at_call 106;refine(ptake_no 61 P4.out hs hj.2 rfl (by decide) h61.out).mono ?_;rintro e w5 ⟨rfl,hf5,h5⟩;have D5:=hf5.blk D4.out (by omega);have E5:=hf5.blk E4.out (by omega);have r0:=D5.cell 0;have r1:=D5.cell 1;have r2:=D5.cell 2;have r3:=D5.cell 3;have g0:=D5.thaw 0;have g1:=D5.thaw 1;have g2:=D5.thaw 2;have g3:=D5.thaw 3;have e0:=E5.cell 0;have e1:=E5.cell 1;have e2:=E5.cell 2;have e3:=E5.cell 3;simp only[List.getElem?_cons_zero,List.getElem?_cons_succ] at r0 r1 r2 r3 e0 e1 e2 e3;replace D5:=hide D5;replace E5:=hide E5;replace hf5:=hide hf5;replace h5:=hide h5))
   have S2:=Blk.four D5.out (.int .i64 (i:Int)) (.int .u8 (x:Int)) (.iface vT vx) (.pointer none)
   have q0:=S2.cell 0
   have q1:=S2.cell 1
   have q2:=S2.cell 2
   have q3:=S2.cell 3
   simp only[List.getElem?_cons_zero,List.getElem?_cons_succ] at q0 q1 q2 q3
   refine bodyPost_ret (v:=.tuple #[.agg #[.int .i64 (i:Int),.int .u8 (x:Int),.iface vT vx,.pointer none],.nilIface]) (by simp[results,Tryz.results161,go_sem,q0,q1,q2,q3]) rfl ?_
   rw[hPOST.out]
   have h4:=Fr.four w5 w.heap.size (.int .i64 (i:Int)) (.int .u8 (x:Int)) (.iface vT vx) (.pointer none)
   refine⟨(i:Int),(x:Int),.iface vT vx,.pointer none,.nilIface,rfl,.inr ⟨_,_,rfl⟩,⟨_,rfl⟩,(F4.out.trans hf5.out (fun _ _ e=>e)).trans h4 (fun y hy e=>by omega),.inl ⟨⟨x,i,t,none⟩,j,rfl,h4.blk h5.out (by omega),hj.2,⟨rfl,rfl,?_,rfl⟩,.inl hres.out⟩⟩
   exact((V4.out.fr hf5.out (fun g hg e=>by omega)).fr h4 (fun g hg e=>by omega)).mono (fun g _ hg=>by omega)
  case pos=>
   have hlt3:j+1≤s.size:=bt_pos (s:=s) (i:=j) (by omega)
   have hres:=hide (show pField s i=(match pD s (j+1) 0 with|none=>.error s.size|some e=>.ok (⟨x,i,t,some (j+1,e)⟩,e)) by unfold pField;rw[hx,hsm,if_pos rfl,if_pos h58,hp];simp only;rw[if_pos h61];cases pD s (j+1) 0 <;> rfl)
   replace hsm:=hide (show isSmall (bt s i)=true by rw[hx];exact hsm)
   replace hx:=hide hx
   replace h58:=hide h58
   replace hp:=hide hp
   replace h61:=hide h61
   go_enter Tryz.func161,Tryz.ntmps161
   go_wp2_with (first
    |(go_at_call 162;refine(pletter_any h0.out G0.out hne hs hi).mono ?_;rintro e w1 ⟨a,b,ev,rfl,hf1,hm⟩;obtain⟨rfl,rfl,rfl,h1⟩:a=(i:Int)∧b=(x:Int)∧ev=.nilIface∧PAt w1 bp s (i+1):=(by rcases hm with⟨_,q1,q2,q3,q4,_⟩|⟨hq,_⟩;(exact⟨q1,q2.trans (by rw[hx.out]),q3,q4⟩);exact absurd (hsm.out.symm.trans hq) (by decide));have P1:=Blk.alloc h1 (.cells #[.int .i64 (i:Int),.int .u8 (x:Int)] 146);have F1:=(F0.out.trans hf1 (fun _ _ e=>e)).alloc (.cells #[.int .i64 (i:Int),.int .u8 (x:Int)] 146);have G1:=hGw.out.fr F1 (Ne.symm hne);have L1:=Blk.new w1 #[.int .i64 (i:Int),.int .u8 (x:Int)] 146;have D1:=(hf1.blk B0.out (by omega)).alloc (.cells #[.int .i64 (i:Int),.int .u8 (x:Int)] 146);have hs1:=hf1.size;have hz1:(w1.alloc (.cells #[.int .i64 (i:Int),.int .u8 (x:Int)] 146)).heap.size=w1.heap.size+1:=(by simp);rw[hz0.out] at hs1;replace P1:=hide (show PAt _ bp s (i+1) from P1);replace F1:=hide F1;replace G1:=hide G1;replace L1:=hide L1;replace D1:=hide D1;replace hz1:=hide hz1;clear hf1 h1 hm)
    |(go_at_call 105;refine(pexpect_any 58 P1.out G1.out hne hs hlt rfl (by decide)).mono ?_;rintro e w2 ⟨v2,rfl,hf2,hE⟩;obtain⟨rfl,h2⟩:v2=.nilIface∧PAt w2 bp s (i+2):=(by rcases hE with⟨_,q1,q2,_⟩|⟨hq,_⟩;(exact⟨q1,q2⟩);exact absurd h58.out hq);have hs2:=hf2.size;rw[hz1.out] at hs2;have D2:=hf2.blk D1.out (by omega);have L2:=hf2.blk L1.out (by omega);have F2:=F1.out.trans hf2 (fun _ _ e=>e);have G2:=hGw.out.fr F2 (Ne.symm hne);replace D2:=hide D2;replace L2:=hide L2;replace F2:=hide F2;replace G2:=hide G2;replace h2:=hide h2;clear hf2 hE)
    |(go_at_call 74;refine(ptyp_ok hs _ (i+2) (Nat.le_refl _) hlt2 w2 bp et ex h2.out G2.out hne).mono ?_;rintro e w3 ⟨v3,ev3,hI3,rfl,hf3,hm⟩;rw[hp.out] at hm;obtain⟨rfl,h3,hv3⟩:=hm;obtain⟨vT,vx,rfl⟩:∃ T x,v3=.iface T x:=(by cases hv3 <;> exact⟨_,_,rfl⟩);have hs3:=hf3.size;have D3:=hf3.blk D2.out (by omega);have L3:=hf3.blk L2.out (by omega);have F3:=F2.out.trans hf3 (fun _ _ e=>e);have l0:=L3.cell 0;have l1:=L3.cell 1;simp only[List.getElem?_cons_zero,List.getElem?_cons_succ] at l0 l1;have A4:=(Fr.refl w3 (fun _=>False)).alloc (.cells #[.int .i64 (i:Int),.int .u8 (x:Int),.iface vT vx,.pointer none] 149);have hz4:(w3.alloc (.cells #[.int .i64 (i:Int),.int .u8 (x:Int),.iface vT vx,.pointer none] 149)).heap.size=w3.heap.size+1:=(by simp);have D4:=A4.blk D3 id;have E4:=Blk.new w3 #[.int .i64 (i:Int),.int .u8 (x:Int),.iface vT vx,.pointer none] 149;have F4:=F3.trans A4 (fun _ _ f=>f.elim);have P4:=A4.blk h3 id;have V4:=(hv3.mono (Q:=fun g=>w3.heap.size≠g∧w.heap.size<g∧w1.heap.size<g) (fun g hg1 hg2=>by omega)).fr A4 (fun _ _ f=>f);replace V4:=hide V4;replace D4:=hide D4;replace E4:=hide E4;replace F4:=hide F4;replace P4:=hide (show PAt _ bp s j from P4);replace hz4:=hide hz4;clear hI3 hf3 h3 hv3 D3 L3 F3 A4)
    |(go_at_call 106;refine(ptake_yes 61 P4.out hs hj.2 rfl (by decide) h61.out).mono ?_;rintro e w5 ⟨rfl,hf5,h5⟩;have hs5:=hf5.size;rw[hz4.out] at hs5;have D5:=hf5.blk D4.out (by omega);have E5:=hf5.blk E4.out (by omega);replace D5:=hide D5;replace E5:=hide E5;replace hf5:=hide hf5;replace h5:=hide h5)
    |(go_at_call 172;refine(pdefault_any h5.out hs hlt3).mono ?_;rintro e w6 ⟨k6,q6,hk6,hjk6,hk6s,hq6,rfl,hB6,hf6,h6⟩;have hs6:=hf6.size;have D6:=hf6.blk D5.out (by omega);have E6:=hf6.blk E5.out (by omega);have d3:=E6.cell 3;have dg:=E6.thaw 3;have E7:=E6.set 3 (.pointer (some ⟨q6,0,none⟩));have hfs:Fr w6 (w6.setCell ⟨w3.heap.size,3,none⟩ (.pointer (some ⟨q6,0,none⟩))) (fun g=>g=w3.heap.size):=(Fr.refl w6 (fun g=>g=w3.heap.size)).setCell ⟨w3.heap.size,3,none⟩ _ (fun _=>rfl);have D7:=hfs.blk D6 (by omega);have r0:=D7.cell 0;have r1:=D7.cell 1;have r2:=D7.cell 2;have r3:=D7.cell 3;have g0:=D7.thaw 0;have g1:=D7.thaw 1;have g2:=D7.thaw 2;have g3:=D7.thaw 3;have e0:=E7.cell 0;have e1:=E7.cell 1;have e2:=E7.cell 2;have e3:=E7.cell 3;simp only[List.set_cons_zero,List.set_cons_succ,List.getElem?_cons_zero,List.getElem?_cons_succ] at d3 r0 r1 r2 r3 e0 e1 e2 e3;replace D7:=hide D7;replace E7:=hide E7;replace hfs:=hide hfs;replace hf6:=hide hf6;replace h6:=hide h6;replace hB6:=hide hB6;replace hk6:=hide hk6;clear D6 E6))
   have S2:=Blk.four D7.out (.int .i64 (i:Int)) (.int .u8 (x:Int)) (.iface vT vx) (.pointer (some ⟨q6,0,none⟩))
   have q0:=S2.cell 0
   have q1:=S2.cell 1
   have q2:=S2.cell 2
   have q3:=S2.cell 3
   simp only[List.getElem?_cons_zero,List.getElem?_cons_succ] at q0 q1 q2 q3
   refine bodyPost_ret (v:=.tuple #[.agg #[.int .i64 (i:Int),.int .u8 (x:Int),.iface vT vx,.pointer (some ⟨q6,0,none⟩)],.nilIface]) (by simp[results,Tryz.results161,go_sem,q0,q1,q2,q3]) rfl ?_
   rw[hPOST.out]
   have h4:=Fr.four (w6.setCell ⟨w3.heap.size,3,none⟩ (.pointer (some ⟨q6,0,none⟩))) w.heap.size (.int .i64 (i:Int)) (.int .u8 (x:Int)) (.iface vT vx) (.pointer (some ⟨q6,0,none⟩))
   have V7:=((((V4.out.fr hf5.out (fun g hg e=>by omega)).fr hf6.out (fun g hg e=>by omega)).fr hfs.out (fun g hg e=>by omega)).fr h4 (fun g hg e=>by omega)).mono (Q:=fun g=>w.heap.size≤g) (fun g _ hg=>by omega)
   have P7:=h4.blk (hfs.out.blk h6.out (by omega)) (by omega)
   have B7:=h4.blk (hfs.out.blk hB6.out (by omega)) (by omega)
   refine⟨(i:Int),(x:Int),.iface vT vx,.pointer (some ⟨q6,0,none⟩),.nilIface,rfl,.inr ⟨_,_,rfl⟩,⟨_,rfl⟩,(((F4.out.trans hf5.out (fun _ _ e=>e)).trans hf6.out (fun _ _ e=>e)).trans hfs.out (fun y hy e=>by omega)).trans h4 (fun y hy e=>by omega),.inl ⟨⟨x,i,t,some (j+1,k6)⟩,k6,rfl,P7,hk6s,⟨rfl,rfl,V7,?_⟩,?_⟩⟩
   ·exact⟨q6,.nilIface,by omega,rfl,.inl rfl,B7⟩
   ·have hk:=hk6.out
    rw[hres.out]
    cases hd:pD s (j+1) 0 with
    | none=>rw[hd] at hk;exact .inr ⟨rfl,hk⟩
    | some e=>rw[hd] at hk;simp only[Option.getD_some] at hk;subst hk;exact .inl rfl
end Go.Proofs.YtiifagiebikmdaaGreatDoor
