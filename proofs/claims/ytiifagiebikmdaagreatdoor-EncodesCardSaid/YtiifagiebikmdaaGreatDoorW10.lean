import Derived.Test.YtiifagiebikmdaaGreatDoorW05
import Derived.Deep.DeepCutAuto
import Derived.Test.YtiifagiebikmdaaGreatDoorW00
namespace Go.Proofs.YtiifagiebikmdaaGreatDoor
open Go.RowKit
def LAt (w:World) (bl:Nat) (s:ByteArray) (bz:Nat) (pl:Bool) (i:Nat) (bad:Bool):Prop:=
 Blk w bl [.string s,.int .i64 (i:Int),.bool bad,.pointer (some ⟨bz,0,none⟩),.bool pl] 98
section
variable {w w':World} {bl:Nat} {s:ByteArray} {bz:Nat} {pl:Bool} {i:Nat} {bad:Bool}
theorem LAt.c0 (h:LAt w bl s bz pl i bad):w.cell? ⟨bl,0,none⟩=some (.string s):=by rw[Blk.cell h];rfl
theorem LAt.c1 (h:LAt w bl s bz pl i bad):w.cell? ⟨bl,1,none⟩=some (.int .i64 (i:Int)):=by rw[Blk.cell h];rfl
theorem LAt.c2 (h:LAt w bl s bz pl i bad):w.cell? ⟨bl,2,none⟩=some (.bool bad):=by rw[Blk.cell h];rfl
theorem LAt.c3 (h:LAt w bl s bz pl i bad):w.cell? ⟨bl,3,none⟩=some (.pointer (some ⟨bz,0,none⟩)):=by rw[Blk.cell h];rfl
theorem LAt.c4 (h:LAt w bl s bz pl i bad):w.cell? ⟨bl,4,none⟩=some (.bool pl):=by rw[Blk.cell h];rfl
theorem LAt.thaw (h:LAt w bl s bz pl i bad) (o:Nat):w.frozen? ⟨bl,o,none⟩=false:=Blk.thaw h o
theorem LAt.still (h:LAt w bl s bz pl i bad) (hw:Still w w'):LAt w' bl s bz pl i bad:=by obtain⟨n,rfl⟩:=hw;exact h
theorem LAt.inc (h:LAt w bl s bz pl i bad):LAt (w.setCell ⟨bl,1,none⟩ (.int .i64 ((i:Int)+1))) bl s bz pl (i+1) bad:=Blk.set h 1 _
theorem LAt.spoil (h:LAt w bl s bz pl i bad):LAt (w.setCell ⟨bl,2,none⟩ (.bool true)) bl s bz pl i true:=Blk.set h 2 _
end
def lk (s:ByteArray) (i:Nat) (bad:Bool):Nat:=if bad=true then 0 else bt s i
set_option maxHeartbeats 400000 in
theorem lpeek_any {w:World}{bl:Nat}{s:ByteArray}{bz:Nat}{pl:Bool}{i:Nat}{bad:Bool}(h:LAt w bl s bz pl i bad) (_hs:s.size≤4000) (hi:i≤s.size) :
 Calls Tryz.prog 60 #[.pointer (some ⟨bl,0,none⟩)] w fun e w'=>e=.returned (.int .u8 (lk s i bad:Int))∧Still w w':=by
 have c0:=h.c0
 have c1:=h.c1
 have c2:=h.c2
 clear h
 cases bad with
 | true=>
  go_enter Tryz.func60,Tryz.ntmps60
  go_wp2
  go_quiet (fail)
  go_wp2
  go_ret
  exact⟨by simp[lk],_,rfl⟩
 | false=>
  by_cases hl:i<s.size
  ·have hl':(i:Int)<(s.size:Int):=by omega
   go_enter Tryz.func60,Tryz.ntmps60
   go_wp2
   go_quiet (fail)
   go_wp2
   go_quiet (fail)
   go_wp2
   go_ret
   exact⟨by simp[lk,bt_eq s i hl],(Still.drewN _ _).trans (Still.drewN _ _)⟩
  ·go_enter Tryz.func60,Tryz.ntmps60
   go_wp2
   go_quiet (fail)
   go_wp2
   go_ret
   refine⟨?_,⟨_,rfl⟩⟩
   have:bt s i=0:=by
    by_cases h0:bt s i=0
    ·exact h0
    ·exact absurd (bt_pos (by omega)) hl
   simp[lk,this]
def LEat (w:World) (bl:Nat) (s:ByteArray) (bz:Nat) (pl:Bool) (i:Nat) (bad:Bool) (d:Nat) (w':World):Prop:=
 (if lk s i bad=d then LAt w' bl s bz pl (i+1) bad∧i<s.size else LAt w' bl s bz pl i true)∧Fr w w' (· = bl)
set_option maxHeartbeats 400000 in
theorem leat_any {w:World}{bl:Nat}{s:ByteArray}{bz:Nat}{pl:Bool}{i:Nat}{bad:Bool}{c:Int}(d:Nat) (h:LAt w bl s bz pl i bad) (hs:s.size≤4000) (hi:i≤s.size) (hd:c=(d:Int)) (hd0:0<d) :
 Calls Tryz.prog 59 #[.pointer (some ⟨bl,0,none⟩),.int .u8 c] w fun e w'=>e=.returned (.tuple #[])∧LEat w bl s bz pl i bad d w':=by
 subst hd
 go_enter Tryz.func59,Tryz.ntmps59
 go_wp2_with (go_at_call 60;refine(lpeek_any h hs hi).mono ?_;rintro e w' ⟨rfl,hw⟩;have h':=h.still hw;have c1:=h'.c1;have c2:=h'.c2;have f1:=h'.thaw 1;have f2:=h'.thaw 2)
 ·go_end0
  rename_i hc
  have hc':lk s i bad=d:=by simp at hc;omega
  refine⟨rfl,?_,((Fr.refl w _).still hw).setCell _ _ (fun _=>rfl)⟩
  rw[if_pos hc']
  refine⟨h'.inc,?_⟩
  unfold lk at hc'
  split at hc'
  ·omega
  ·exact bt_pos (by omega)
 ·go_end0
  rename_i hc
  refine⟨rfl,?_,((Fr.refl w _).still hw).setCell _ _ (fun _=>rfl)⟩
  rw[if_neg (by simp at hc;omega)]
  exact h'.spoil
def runEnd (lo hi:Nat) (s:ByteArray) (i:Nat):Nat:=
 if h:i<s.size then (if lo≤bt s i∧bt s i≤hi then runEnd lo hi s (i+1) else i) else i
 termination_by s.size-i
theorem runEnd_on {lo hi:Nat}{s:ByteArray}{i:Nat}(h:i<s.size) (hb:lo≤bt s i∧bt s i≤hi):runEnd lo hi s i=runEnd lo hi s (i+1):=by
 conv=>lhs;unfold runEnd
 rw[dif_pos h,if_pos hb]
theorem runEnd_off {lo hi:Nat}{s:ByteArray}{i:Nat}(hb:¬ (lo≤bt s i∧bt s i≤hi)):runEnd lo hi s i=i:=by
 unfold runEnd
 simp[hb]
def LetInv (w:World) (bl:Nat) (s:ByteArray) (bz:Nat) (pl:Bool) (i e:Nat) (m:Nat) (W:World):Prop:=
 ∃ k,LAt W bl s bz pl k false∧Fr w W (· = bl)∧i≤k∧k≤s.size∧runEnd 97 122 s k=e∧s.size-k≤m
def LetPost (w:World) (bl:Nat) (s:ByteArray) (bz:Nat) (pl:Bool) (i:Nat) (bad:Bool) (e:Ending) (w':World):Prop:=
 ∃ k,k=(if bad=true then i else runEnd 97 122 s i)∧i≤k∧k≤s.size∧e=.returned (.string (s.extract i k))∧LAt w' bl s bz pl k bad∧Fr w w' (· = bl)
theorem letPost_ok {w W:World}{bl:Nat}{s:ByteArray}{bz:Nat}{pl:Bool}{i k:Nat}(h:LAt W bl s bz pl k false) (hf:Fr w W (· = bl)) (hik:i≤k) (hks:k≤s.size) (he:runEnd 97 122 s k=runEnd 97 122 s i) (ho:¬ (97≤bt s k∧bt s k≤122)) :
 LetPost w bl s bz pl i false (.returned (.string (s.extract i k))) W:=
 ⟨k,by rw[if_neg (by decide),← he,runEnd_off ho],hik,hks,rfl,h,hf⟩
set_option maxHeartbeats 1000000 in
theorem letters_any {w:World}{bl:Nat}{s:ByteArray}{bz:Nat}{pl:Bool}{i:Nat}{bad:Bool}(h:LAt w bl s bz pl i bad) (hs:s.size≤4000) (hi:i≤s.size) :
 Calls Tryz.prog 62 #[.pointer (some ⟨bl,0,none⟩)] w (LetPost w bl s bz pl i bad):=by
 obtain⟨POST,hPOST⟩:∃ P,Hid (P=LetPost w bl s bz pl i bad):=⟨_,rfl⟩
 rw[← hPOST.out]
 have c1:=h.c1
 cases bad with
 | true=>
  replace h:=hide h
  go_enter Tryz.func62,Tryz.ntmps62
  go_wp2_with fail
  clear c1
  go_loopg [] 0 (fun _ W=>Still w W)
  case atStart=>exact Still.refl w
  case round=>
   have h1:=hide (h.out.still hrel)
   have n9:=hide (show(decide ((97:Int)≤((lk s i true:Nat):Int))&&decide (((lk s i true:Nat):Int)≤122))=false by simp[lk])
   have hs':(i:Int)≤(s.size:Int):=by omega
   replace hrel:=hide hrel
   go_wp2_with (first
    |(go_at_call 60;refine(lpeek_any h1.out hs hi).mono ?_;rintro e w2 ⟨rfl,hw2⟩;have h2:=h1.out.still hw2;have c0:=h2.c0;have c1:=h2.c1;replace h2:=hide h2)
    |(go_at_call 38;refine(within_any _ _ _ _).mono ?_;rintro e w' ⟨rfl,hw'⟩;rw[hw',n9.out]))
   go_quiet (fail)
   go_wp2_with fail
   try go_ret
   rw[hPOST.out]
   exact⟨i,by simp,Nat.le_refl _,hi,by simp,h2.out.still (Still.drewN _ _),(((Fr.refl w _).still hrel.out).still hw2).still (Still.drewN _ _)⟩
 | false=>
  have start:LetInv w bl s bz pl i (runEnd 97 122 s i) (s.size-i) w:=⟨i,h,Fr.refl _ _,Nat.le_refl _,hi,rfl,Nat.le_refl _⟩
  replace start:=hide start
  replace h:=hide h
  go_enter Tryz.func62,Tryz.ntmps62
  go_wp2_with fail
  clear c1
  go_loopg [] (s.size-i) (fun n W=>LetInv w bl s bz pl i (runEnd 97 122 s i) n W)
  case atStart=>exact start.out
  case round=>
   clear start
   obtain⟨k,h1,hf,hik,hks,he,hm⟩:=hrel
   obtain⟨c,hc⟩:∃ c,bt s k=c:=⟨_,rfl⟩
   replace he:=hide he
   by_cases hin:97≤c∧c≤122
   ·have n9:(decide ((97:Int)≤(c:Int))&&decide ((c:Int)≤122))=true:=by simp;omega
    have hk:k<s.size:=bt_pos (by omega)
    have hlk:=hide (show lk s k false=c by simp[lk,hc])
    have ho:=hide (he.out.symm.trans (runEnd_on hk (by rw[hc];exact hin)))
    replace h1:=hide h1
    replace hf:=hide hf
    replace hc:=hide hc
    replace n9:=hide n9
    go_wp2_with (first
     |(go_at_call 60;refine(lpeek_any h1.out hs hks).mono ?_;rintro e w2 ⟨rfl,hw2⟩;rw[hlk.out];have h2:=h1.out.still hw2;have c1:=h2.c1;have f1:=h2.thaw 1;replace h2:=hide h2)
     |(go_at_call 38;refine(within_any _ _ _ _).mono ?_;rintro e w' ⟨rfl,hw'⟩;rw[hw',n9.out]))
    go_roundg (s.size-(k+1))
    case measure=>omega
    case rel=>exact⟨k+1,h2.out.inc,(hf.out.still hw2).setCell _ _ (fun _=>rfl),by omega,by omega,ho.out.symm,Nat.le_refl _⟩
   ·have n9:(decide ((97:Int)≤(c:Int))&&decide ((c:Int)≤122))=false:=by simp;omega
    have hlk:=hide (show lk s k false=c by simp[lk,hc])
    have hno:=hide (show ¬ (97≤bt s k∧bt s k≤122) by rw[hc];exact hin)
    replace h1:=hide h1
    replace hf:=hide hf
    replace hc:=hide hc
    replace n9:=hide n9
    have hik':(i:Int)≤(k:Int):=by omega
    have hks':(k:Int)≤(s.size:Int):=by omega
    go_wp2_with (first
     |(go_at_call 60;refine(lpeek_any h1.out hs hks).mono ?_;rintro e w2 ⟨rfl,hw2⟩;rw[hlk.out];have h2:=h1.out.still hw2;have c0:=h2.c0;have c1:=h2.c1;replace h2:=hide h2)
     |(go_at_call 38;refine(within_any _ _ _ _).mono ?_;rintro e w' ⟨rfl,hw'⟩;rw[hw',n9.out]))
    go_quiet (fail)
    go_wp2_with fail
    try go_ret
    rw[hPOST.out]
    exact letPost_ok (h2.out.still (Still.drewN _ _)) ((hf.out.still hw2).still (Still.drewN _ _)) hik hks he.out hno.out
open Go.RowKit
def topOf (c:Nat) (neg:Bool):ByteArray:=
 if c=105 then (if neg=true then ⟨#[50,49,52,55,52,56,51,54,52,56]⟩ else ⟨#[50,49,52,55,52,56,51,54,52,55]⟩)
 else (if neg=true then ⟨#[57,50,50,51,51,55,50,48,51,54,56,53,52,55,55,53,56,48,56]⟩ else ⟨#[57,50,50,51,51,55,50,48,51,54,56,53,52,55,55,53,56,48,55]⟩)
set_option maxHeartbeats 400000 in
theorem limit_any (c:Nat) (neg:Bool) (w:World) :
 Calls Tryz.prog 89 #[.int .u8 (c:Int),.bool neg] w fun e w'=>e=.returned (.string (topOf c neg))∧w'=w:=by
 obtain⟨T,hT⟩:∃ T,Hid (T=topOf c neg):=⟨_,rfl⟩
 rw[← hT.out]
 by_cases hc:c=105
 ·subst hc
  cases neg
  all_goals
   go_enter Tryz.func89,Tryz.ntmps89
   go_wp2
   go_ret
   exact⟨by rw[hT.out];rfl,rfl⟩
 ·have n1:((c:Int)==105)=false:=by simp;omega
  have hd:=hide (show topOf c neg=(if neg=true then ⟨#[57,50,50,51,51,55,50,48,51,54,56,53,52,55,55,53,56,48,56]⟩ else ⟨#[57,50,50,51,51,55,50,48,51,54,56,53,52,55,55,53,56,48,55]⟩) by unfold topOf;rw[if_neg hc])
  cases neg
  all_goals
   go_enter Tryz.func89,Tryz.ntmps89
   go_wp2
   go_ret
   exact⟨by rw[hT.out,hd.out];rfl,rfl⟩
open Go.RowKit
def sgn (s:ByteArray) (i:Nat):Nat:=if bt s i=45 then i+1 else i
def NumInv (w:World) (bl:Nat) (s:ByteArray) (bz:Nat) (pl:Bool) (i e:Nat) (m:Nat) (W:World):Prop:=
 ∃ k,LAt W bl s bz pl k false∧Fr w W (· = bl)∧i≤k∧k≤s.size∧runEnd 48 57 s k=e∧s.size-k≤m
def numOk (kd:Nat) (neg:Bool) (t:ByteArray):Prop:=
 0<t.size∧¬ (bt t 0=48∧(1<t.size∨neg=true))∧t.size≤(topOf kd neg).size∧(t.size=(topOf kd neg).size→(!Op.bytesLess t.toList (topOf kd neg).toList && !(t.toList==(topOf kd neg).toList))=false)
def numStep (neg:Bool) (x:Int) (d:Nat):Int:=if neg=true then wrap64 (wrap64 (10*x)-wrap64 (wrap64 (d:Int)-48)) else wrap64 (wrap64 (10*x)+wrap64 (wrap64 (d:Int)-48))
def numV (neg:Bool) (t:ByteArray):Nat→Int
 | 0=>0
 | a+1=>numStep neg (numV neg t a) (bt t a)
def NumPost (w:World) (bl:Nat) (s:ByteArray) (bz:Nat) (pl:Bool) (i kd:Nat) (e:Ending) (w':World):Prop:=
 ∃ k neg t,neg=((bt s i:Int)==45)∧t=s.extract (sgn s i) k∧k=runEnd 48 57 s (sgn s i)∧i≤k∧k≤s.size∧Fr w w' (· = bl)∧
  ((numOk kd neg t∧i<k∧LAt w' bl s bz pl k false∧e=.returned (.int .i64 (numV neg t t.size)))∨(¬ numOk kd neg t∧LAt w' bl s bz pl k true∧e=.returned (.int .i64 0)))
set_option maxHeartbeats 2000000 in
set_option maxRecDepth 100000 in
theorem number_any {w:World}{bl:Nat}{s:ByteArray}{bz:Nat}{pl:Bool}{i kd:Nat}(h:LAt w bl s bz pl i false) (hs:s.size≤4000) (hi:i≤s.size) :
 Calls Tryz.prog 61 #[.pointer (some ⟨bl,0,none⟩),.int .u8 (kd:Int)] w (NumPost w bl s bz pl i kd):=by
 obtain⟨POST,hPOST⟩:∃ P,Hid (P=NumPost w bl s bz pl i kd):=⟨_,rfl⟩
 rw[← hPOST.out]
 obtain⟨c,hc⟩:∃ c,bt s i=c:=⟨_,rfl⟩
 have hlk:=hide (show lk s i false=c by simp[lk,hc])
 obtain⟨neg,hneg⟩:∃ b,((c:Int)==45)=b:=⟨_,rfl⟩
 obtain⟨i1,hi1⟩:∃ k,k=sgn s i:=⟨_,rfl⟩
 have hi1s:i1≤s.size∧i≤i1∧i1≤i+1:=by
  rw[hi1];unfold sgn;split
  ·rename_i h45
   have:=bt_pos (s:=s) (i:=i) (by omega)
   omega
  ·omega
 replace h:=hide h
 replace hc:=hide hc
 replace hneg:=hide hneg
 have hng:=hneg.out
 replace hi1:=hide hi1
 go_enter Tryz.func61,Tryz.ntmps61
 go_upto_if 15 with(go_at_call 60;refine(lpeek_any h.out hs hi).mono ?_;rintro e w2 ⟨rfl,hw2⟩;rw[hlk.out];have h2:=h.out.still hw2;have c1:=h2.c1;have f1:=h2.thaw 1;replace h2:=hide h2)
 go_cut [] (fun W=>LAt W bl s bz pl i1 false∧Fr w W (· = bl))
 case first=>
  cases hb:neg
  ·subst hb
   go_wp2_with fail
   go_meet
   case rel=>
    refine⟨?_,(Fr.refl w _).still hw2⟩
    have e1:i1=i:=by rw[hi1.out];unfold sgn;rw[if_neg (by have:=hneg.out;have:=hc.out;simp at *;omega)]
    rw[e1];exact h2.out
  ·subst hb
   go_wp2_with fail
   go_meet
   case rel=>
    refine⟨?_,((Fr.refl w _).still hw2).setCell _ _ (fun _=>rfl)⟩
    have e1:i1=i+1:=by rw[hi1.out];unfold sgn;rw[if_pos (by have:=hneg.out;have:=hc.out;simp at *;omega)]
    rw[e1];exact h2.out.inc
 case rest=>
  clear c1 f1 h2 hw2
  obtain⟨h3,hf3⟩:=hcut
  have c1:=h3.c1
  have start:=hide (show NumInv w bl s bz pl i1 (runEnd 48 57 s i1) (s.size-i1) wc from⟨i1,h3,hf3,Nat.le_refl _,hi1s.1,rfl,Nat.le_refl _⟩)
  replace h3:=hide h3
  replace hf3:=hide hf3
  go_wp2_with fail
  clear c1
  go_loopg [] (s.size-i1) (fun n W=>NumInv w bl s bz pl i1 (runEnd 48 57 s i1) n W)
  case atStart=>exact start.out
  case round=>
   clear start
   obtain⟨k,h1,hf,hik,hks,he,hm⟩:=hrel
   obtain⟨d,hd⟩:∃ c,bt s k=c:=⟨_,rfl⟩
   replace he:=hide he
   have hlk1:=hide (show lk s k false=d by simp[lk,hd])
   by_cases hin:48≤d∧d≤57
   ·have n9:(decide ((48:Int)≤(d:Int))&&decide ((d:Int)≤57))=true:=by simp;omega
    have hk:k<s.size:=bt_pos (by omega)
    have ho:=hide (he.out.symm.trans (runEnd_on hk (by rw[hd];exact hin)))
    replace h1:=hide h1
    replace hf:=hide hf
    replace n9:=hide n9
    go_wp2_with (first
     |(go_at_call 60;refine(lpeek_any h1.out hs hks).mono ?_;rintro e w2 ⟨rfl,hw2⟩;rw[hlk1.out];have h2:=h1.out.still hw2;have c1:=h2.c1;have f1:=h2.thaw 1;replace h2:=hide h2)
     |(go_at_call 38;refine(within_any _ _ _ _).mono ?_;rintro e w' ⟨rfl,hw'⟩;rw[hw',n9.out]))
    go_roundg (s.size-(k+1))
    case measure=>omega
    case rel=>exact⟨k+1,h2.out.inc,(hf.out.still hw2).setCell _ _ (fun _=>rfl),by omega,by omega,ho.out.symm,Nat.le_refl _⟩
   ·have n9:(decide ((48:Int)≤(d:Int))&&decide ((d:Int)≤57))=false:=by simp;omega
    have hno:=hide (show ¬ (48≤bt s k∧bt s k≤57) by rw[hd];exact hin)
    replace h1:=hide h1
    replace hf:=hide hf
    replace n9:=hide n9
    have hik':(i1:Int)≤(k:Int):=by omega
    have hks':(k:Int)≤(s.size:Int):=by omega
    go_wp2_with (first
     |(go_at_call 60;refine(lpeek_any h1.out hs hks).mono ?_;rintro e w2 ⟨rfl,hw2⟩;rw[hlk1.out];have h2:=h1.out.still hw2;have c0:=h2.c0;have c1:=h2.c1;have f2:=h2.thaw 2;have c2:=h2.c2;replace h2:=hide h2)
     |(go_at_call 38;refine(within_any _ _ _ _).mono ?_;rintro e w' ⟨rfl,hw'⟩;rw[hw',n9.out]))
    go_quiet (fail)
    obtain⟨t,ht⟩:∃ t,s.extract i1 k=t:=⟨_,rfl⟩
    obtain⟨top,htop⟩:∃ t,topOf kd neg=t:=⟨_,rfl⟩
    go_wp2_with fail
    have htk:t.size≤4000:=by rw[← ht];simp;omega
    have htp:=hide (show top.size=10∨top.size=19 by rw[← htop];unfold topOf;split <;> split <;> simp[ByteArray.size])
    have LIM:Hid (∀ W:World,Calls Tryz.prog 89 #[.int .u8 (kd:Int),.bool neg] W fun e w'=>e=.returned (.string top)∧w'=W):=fun W=>by rw[← htop];exact limit_any _ _ _
    rw[ht]
    replace ht:=hide ht
    replace htop:=hide htop
    have hBad:=hide (fun (hn:¬ numOk kd neg t) (W:World) (hW:Still w2 W)=>show NumPost w bl s bz pl i kd (.returned (.int .i64 0)) (W.setCell ⟨bl,2,none⟩ (.bool true)) from
     ⟨k,neg,t,by rw[hc.out];exact hneg.out.symm,by rw[← hi1.out];exact ht.out.symm,by rw[← hi1.out,← he.out];exact(runEnd_off hno.out).symm,by omega,hks,((hf.out.still hw2).still hW).setCell _ _ (fun _=>rfl),.inr ⟨hn,(h2.out.still hW).spoil,rfl⟩⟩)
    have hGood:=hide (fun (hn:numOk kd neg t) (W:World) (hW:Still w2 W)=>show NumPost w bl s bz pl i kd (.returned (.int .i64 (numV neg t t.size))) W from
     ⟨k,neg,t,by rw[hc.out];exact hneg.out.symm,by rw[← hi1.out];exact ht.out.symm,by rw[← hi1.out,← he.out];exact(runEnd_off hno.out).symm,by omega,hks,(hf.out.still hw2).still hW,.inl ⟨hn,by have h5:=hn.1;rw[← ht.out] at h5;simp at h5;omega,h2.out.still hW,rfl⟩⟩)
    have hok:=hide (show numOk kd neg t↔(0<t.size∧¬ (bt t 0=48∧(1<t.size∨neg=true))∧t.size≤top.size∧(t.size=top.size→(!Op.bytesLess t.toList top.toList && !(t.toList==top.toList))=false)) by rw[← htop.out];rfl)
    by_cases h0:t.size=0
    ·have h0':(t.size:Int)=0:=by omega
     have hno':=hide (hBad.out (fun h=>by have:=h.1;omega))
     go_wp2_with (go_at_call 89;refine(LIM.out _).mono ?_;rintro e w' ⟨rfl,hw'⟩;rw[hw'])
     try go_ret
     rw[hPOST.out]
     exact hno'.out _ (Still.drewN _ _)
    ·have h0':0<t.size:=by omega
     have h0z:(0:Int)<(t.size:Int):=by omega
     have h0e:((t.size:Int)==0)=false:=by rw[beq_eq_false_iff_ne];omega
     obtain⟨b,hb⟩:∃ b:Nat,((t[0]'h0').toNat:Int)=(b:Int):=⟨_,rfl⟩
     have hbt:=hide (show bt t 0=b by rw[bt_eq t 0 h0'];exact Int.ofNat_inj.1 hb)
     obtain⟨lt,hlt⟩:∃ x,Op.bytesLess t.toList top.toList=x:=⟨_,rfl⟩
     obtain⟨eb,heb⟩:∃ x,(t.toList==top.toList)=x:=⟨_,rfl⟩
     by_cases hz:b=48∧(1<t.size∨neg=true)
     ·obtain⟨rfl,hz⟩:=hz
      by_cases h1:1<t.size
      ·have h1':(1:Int)<(t.size:Int):=by omega
       have hno':=hide (hBad.out (fun h=>by have:=hok.out.1 h;exact this.2.1 ⟨hbt.out,.inl h1⟩))
       go_wp2_with (go_at_call 89;refine(LIM.out _).mono ?_;rintro e w' ⟨rfl,hw'⟩;rw[hw'])
       try go_ret
       rw[hPOST.out]
       exact hno'.out _ (Still.drewN _ _)
      ·have h1':¬ (1:Int)<(t.size:Int):=by omega
       have hn1:neg=true:=by rcases hz with h|h;exact absurd h h1;exact h
       have hno':=hide (hBad.out (fun h=>by have:=hok.out.1 h;exact this.2.1 ⟨hbt.out,.inr hn1⟩))
       subst hn1
       go_wp2_with (go_at_call 89;refine(LIM.out _).mono ?_;rintro e w' ⟨rfl,hw'⟩;rw[hw'])
       try go_ret
       rw[hPOST.out]
       exact hno'.out _ (Still.drewN _ _)
     ·have hways:((b:Int)==48)=false∨(((b:Int)==48)=true∧(t.size:Int)≤1∧neg=false):=by
       by_cases h48:b=48
       ·refine .inr ⟨by simp;omega,?_,?_⟩
        ·by_cases h1:1<t.size
         ·exact absurd ⟨h48,.inl h1⟩ hz
         ·omega
        ·cases hn:neg
         ·rfl
         ·exact absurd ⟨h48,.inr hn⟩ hz
       ·exact .inl (by simp;omega)
      have hz':=hide (show ¬ (bt t 0=48∧(1<t.size∨neg=true)) by rw[hbt.out];exact hz)
      clear hz
      by_cases hgt:top.size<t.size
      ·have hgt':(top.size:Int)<(t.size:Int):=by omega
       have hno':=hide (hBad.out (fun h=>by have:=hok.out.1 h;omega))
       rcases hways with n48|⟨n48,hsz,rfl⟩
       all_goals
        go_wp2_with (go_at_call 89;refine(LIM.out _).mono ?_;rintro e w' ⟨rfl,hw'⟩;rw[hw'])
        try go_ret
        rw[hPOST.out]
        exact hno'.out _ (Still.drewN _ _)
      ·have hgt':¬ (top.size:Int)<(t.size:Int):=by omega
       by_cases hbig:t.size=top.size∧(!lt && !eb)=true
       ·obtain⟨heq,hbb⟩:=hbig
        have heq':(top.size:Int)=(t.size:Int):=by omega
        have hno':=hide (hBad.out (fun h=>by have:=(hok.out.1 h).2.2.2 heq;rw[hlt,heb,hbb] at this;cases this))
        have hl:lt=false∧eb=false:=by revert hbb;cases lt <;> cases eb <;> simp
        obtain⟨rfl,rfl⟩:=hl
        clear hbb
        rcases hways with n48|⟨n48,hsz,rfl⟩
        all_goals
         go_wp2_with (go_at_call 89;refine(LIM.out _).mono ?_;rintro e w' ⟨rfl,hw'⟩;rw[hw'])
         try go_ret
         rw[hPOST.out]
         exact hno'.out _ (Still.drewN _ _)
       ·have hyes:=hide (hGood.out (hok.out.2 ⟨h0',hz'.out,by omega,fun he=>by
         cases hx:(!Op.bytesLess t.toList top.toList && !(t.toList==top.toList))
         ·rfl
         ·exact absurd ⟨he,by rw[← hlt,← heb];exact hx⟩ hbig⟩))
        have hsz2:(((t.size:Int)==(top.size:Int))=false)∨((top.size:Int)=(t.size:Int)∧lt=true)∨((top.size:Int)=(t.size:Int)∧lt=false∧eb=true):=by
         by_cases he:t.size=top.size
         ·cases lt
          ·cases eb
           ·exact absurd ⟨he,rfl⟩ hbig
           ·exact .inr (.inr ⟨by omega,rfl,rfl⟩)
          ·exact .inr (.inl ⟨by omega,rfl⟩)
         ·exact .inl (by rw[beq_eq_false_iff_ne];omega)
        clear hbig hBad hGood
        obtain⟨V,hV⟩:∃ V:Nat→Int,V=numV neg t:=⟨_,rfl⟩
        have hV0:=hide (show V 0=0 by rw[hV];rfl)
        have hVs:=hide (show ∀ a,V (a+1)=numStep neg (V a) (bt t a) by rw[hV];intro a;rfl)
        rw[← hV] at hyes
        clear hV
        clear hok hz' hng hneg hi1 hno he hlk hlk1
        cases neg <;> rcases hsz2 with q1|⟨q1,rfl⟩|⟨q1,rfl,rfl⟩ <;> rcases hways with n48|⟨n48,hsz,hn0⟩
        all_goals try(cases hn0;done)
        all_goals
         go_wp2_with (go_at_call 89;refine(LIM.out _).mono ?_;rintro e w' ⟨rfl,hw'⟩;rw[hw'])
         go_loopg [9,10] t.size (fun n v iv W=>Still w2 W∧∃ a:Nat,iv=.int .i64 (a:Int)∧v=.int .i64 (V a)∧a≤t.size∧t.size-a≤n)
         case atStart=>exact⟨Still.drewN _ _,0,rfl,by rw[hV0.out],by omega,by omega⟩
         case round=>
          obtain⟨hst,a,rfl,rfl,hat,hm2⟩:=hrel
          replace hst:=hide hst
          by_cases ha:a<t.size
          ·have ha':(a:Int)<(t.size:Int):=by omega
           have hta:((t[a]'ha).toNat:Int)=(bt t a:Int):=by rw[bt_eq t a ha]
           go_wp2_with fail
           go_roundg (t.size-(a+1))
           case measure=>omega
           case rel=>exact⟨hst.out,a+1,by simp,by rw[hVs.out];rfl,by omega,Nat.le_refl _⟩
          ·have ha':¬ (a:Int)<(t.size:Int):=by omega
           have hae:a=t.size:=by omega
           go_wp2_with fail
           try go_ret
           rw[hPOST.out]
           exact hyes.out _ hst.out
open Go.RowKit
inductive DT where
 | mk (k:Nat) (n:Int) (tx:ByteArray) (ks:List ByteArray) (ds:List DT)
 deriving Inhabited
def noB:ByteArray:=⟨#[]⟩
instance (kd:Nat) (neg:Bool) (t:ByteArray):Decidable (numOk kd neg t):=by unfold numOk;infer_instance
def numEnd (s:ByteArray) (i:Nat):Nat:=runEnd 48 57 s (sgn s i)
def negAt (s:ByteArray) (i:Nat):Bool:=((bt s i:Int)==45)
def numTx (s:ByteArray) (i:Nat):ByteArray:=s.extract (sgn s i) (numEnd s i)
def rdNum (s:ByteArray) (kd i:Nat):Option (Int×Nat):=
 if numOk kd (negAt s i) (numTx s i) then some (numV (negAt s i) (numTx s i) (numTx s i).size,numEnd s i) else none
def letEnd (s:ByteArray) (i:Nat):Nat:=runEnd 97 122 s i
def rises (last:Option ByteArray) (k:ByteArray):Bool:=match last with|none=>true|some l=>Op.bytesLess l.toList k.toList
def rdKey (s:ByteArray) (keyed:Bool) (last:Option ByteArray) (i:Nat):Option (ByteArray×Nat):=
 if keyed=true then
  if bt s (letEnd s i)=58∧rises last (s.extract i (letEnd s i))=true then some (s.extract i (letEnd s i),letEnd s i+1) else none
 else some (noB,i)
def rdItems (R:Nat→Option (DT×Nat)) (s:ByteArray) (fin:Nat) (keyed:Bool):Nat→Option ByteArray→Nat→Option (List (ByteArray×DT)×Nat)
 | 0,_,_=>none
 | n+1,last,i=>
  match rdKey s keyed last i with
  | none=>none
  | some (k,i1)=>
   match R i1 with
   | none=>none
   | some (d,j)=>
    if bt s j=fin then some ([(k,d)],j+1)
    else if bt s j=44 then
     match rdItems R s fin keyed n (some k) (j+1) with
     | none=>none
     | some (l,e)=>some ((k,d)::l,e)
    else none
def rdList (R:Nat→Option (DT×Nat)) (s:ByteArray) (fin:Nat) (keyed:Bool) (i:Nat):Option (List (ByteArray×DT)×Nat):=
 if bt s i=fin then some ([],i+1) else rdItems R s fin keyed (s.size+2) none i
def rdFields (R:PT→Nat→Option (DT×Nat)) (s:ByteArray):Bool→List PT→Nat→Option (List DT×Nat)
 | _,[],i=>some ([],i)
 | first,t::r,i=>
  if first=true then
   match R t i with
   | none=>none
   | some (d,j)=>match rdFields R s false r j with|none=>none|some (ds,e)=>some (d::ds,e)
  else if bt s i=44 then
   match R t (i+1) with
   | none=>none
   | some (d,j)=>match rdFields R s false r j with|none=>none|some (ds,e)=>some (d::ds,e)
  else none
def rdNamed (R:PT→Nat→Option (DT×Nat)) (s:ByteArray) (pb:PB) (i:Nat):Option (DT×Nat):=
 match pb with
 | .recd fs=>
  if bt s i=40 then
   match rdFields R s true (fs.map PF.ty) (i+1) with
   | none=>none
   | some (ds,j)=>if bt s j=41 then some (.mk 114 0 noB [] ds,j+1) else none
  else none
 | .enum l _=>
  if i<s.size then
   match (l.map Prod.fst).findIdx? (fun c=>c==bt s i) with
   | none=>none
   | some q=>some (.mk 101 q noB [] [],i+1)
  else none
 | .bytes n=>
  if bt s i=39∧letEnd s (i+1)-(i+1)=n∧bt s (letEnd s (i+1))=39 then some (.mk 102 0 (s.extract (i+1) (letEnd s (i+1))) [] [],letEnd s (i+1)+1) else none
def brEnd (s:ByteArray) (i:Nat):Nat:=min (runEnd 48 57 s i) (i+3)
def brNum (s:ByteArray) (i:Nat):Nat→Nat
 | 0=>0
 | n+1=>10*brNum s i n+(bt s (i+n)-48)
def rdBranch (R:PT→Nat→Option (DT×Nat)) (s:ByteArray) (pl:Bool) (ts:List PT) (i:Nat):Option (DT×Nat):=
 if pl=true then
  match ts with
  | []=>none
  | t::_=>match R t i with|none=>none|some (d,j)=>some (.mk 40 0 noB [] [d],j)
 else if bt s i=60∧brEnd s (i+1)≠i+1∧¬ (bt s (i+1)=48∧brEnd s (i+1)-(i+1) > 1)∧bt s (brEnd s (i+1))=58 then
  match ts[brNum s (i+1) (brEnd s (i+1)-(i+1))]? with
  | none=>none
  | some t=>
   match R t (brEnd s (i+1)+1) with
   | none=>none
   | some (d,j)=>if bt s j=62 then some (.mk 40 (brNum s (i+1) (brEnd s (i+1)-(i+1)):Nat) noB [] [d],j+1) else none
 else none
def rdLeaf (R:PT→Nat→Option (DT×Nat)) (s:ByteArray) (env:Nat→Option PB) (c i:Nat):Option (DT×Nat):=
 if c=110 then (if bt s i=78 then some (.mk 110 0 noB [] [],i+1) else none)
 else if c=116 then (if bt s i=84 then some (.mk 116 1 noB [] [],i+1) else if bt s i=70 then some (.mk 116 0 noB [] [],i+1) else none)
 else if c=105∨c=108 then (match rdNum s c i with|none=>none|some (n,j)=>some (.mk c n noB [] [],j))
 else if c=115 then (if bt s i=34∧bt s (letEnd s (i+1))=34 then some (.mk 115 0 (s.extract (i+1) (letEnd s (i+1))) [] [],letEnd s (i+1)+1) else none)
 else match env c with|none=>none|some pb=>rdNamed R s pb i
def rdWrap (R:Nat→Option (DT×Nat)) (s:ByteArray) (c i:Nat):Option (DT×Nat):=
 if bt s i=c then
  match rdList R s (closing c) (c==123) (i+1) with
  | none=>none
  | some (l,j)=>some (.mk c 0 noB (if (c==123)=true then l.map Prod.fst else []) (l.map Prod.snd),j)
 else none
def rdT (s:ByteArray) (env:Nat→Option PB) (pl:Bool):Nat→PT→Nat→Option (DT×Nat)
 | 0,_,_=>none
 | f+1,.leaf c _,i=>rdLeaf (rdT s env pl f) s env c i
 | f+1,.wrap c _ t,i=>rdWrap (rdT s env pl f t) s c i
 | f+1,.alts _ ts,i=>rdBranch (rdT s env pl f) s pl ts i
def Goes (s:ByteArray) (R:Nat→Option (DT×Nat)):Prop:=∀ i d j,R i=some (d,j)→i<j∧j≤s.size
theorem runEnd_ge (lo hi:Nat) (s:ByteArray):∀ n i,s.size-i≤n→i≤runEnd lo hi s i∧(i≤s.size→runEnd lo hi s i≤s.size):=by
 intro n
 induction n with
 | zero=>intro i h;rw[runEnd,dif_neg (by omega)];exact⟨Nat.le_refl _,fun h=>h⟩
 | succ n ih=>
  intro i h
  rw[runEnd]
  split
  ·split
   ·have:=ih (i+1) (by omega)
    exact⟨by omega,fun _=>this.2 (by omega)⟩
   ·exact⟨Nat.le_refl _,fun h=>h⟩
  ·exact⟨Nat.le_refl _,fun h=>h⟩
theorem letEnd_ge (s:ByteArray) (i:Nat):i≤letEnd s i:=(runEnd_ge 97 122 s _ i (Nat.le_refl _)).1
theorem rdKey_goes {s:ByteArray}{keyed:Bool}{last:Option ByteArray}{i:Nat}{k:ByteArray}{j:Nat}(h:rdKey s keyed last i=some (k,j)):i≤j:=by
 unfold rdKey at h
 split at h
 ·split at h
  ·simp only[Option.some.injEq,Prod.mk.injEq] at h
   have:=letEnd_ge s i
   omega
  ·simp at h
 ·simp only[Option.some.injEq,Prod.mk.injEq] at h;omega
theorem rdItems_goes {s:ByteArray}{R:Nat→Option (DT×Nat)}(hR:Goes s R){fin:Nat}(hf:0<fin){keyed:Bool}:∀ (n:Nat) (last:Option ByteArray) (i:Nat) (l:List (ByteArray×DT)) (j:Nat),rdItems R s fin keyed n last i=some (l,j)→i<j∧j≤s.size:=by
 intro n
 induction n with
 | zero=>intro last i l j h;simp[rdItems] at h
 | succ n ih=>
  intro last i l j h
  unfold rdItems at h
  split at h
  ·simp at h
  ·rename_i k i1 hk
   have h1:=rdKey_goes hk
   split at h
   ·simp at h
   ·rename_i d j1 hd
    have h2:=hR _ _ _ hd
    split at h
    ·rename_i hb
     have:=bt_pos (s:=s) (i:=j1) (by omega)
     simp only[Option.some.injEq,Prod.mk.injEq] at h;omega
    ·split at h
     ·split at h
      ·simp at h
      ·rename_i l' e he
       have:=ih _ _ _ _ he
       simp only[Option.some.injEq,Prod.mk.injEq] at h;omega
     ·simp at h
theorem rdFields_goes {s:ByteArray}{R:PT→Nat→Option (DT×Nat)}(hR:∀ t,Goes s (R t)):∀ (ts:List PT) (first:Bool) (i:Nat) (l:List DT) (j:Nat),i≤s.size→rdFields R s first ts i=some (l,j)→i≤j∧j≤s.size:=by
 intro ts
 induction ts with
 | nil=>intro first i l j hi h;simp[rdFields] at h;omega
 | cons t r ih=>
  intro first i l j hi h
  unfold rdFields at h
  split at h
  ·split at h
   ·simp at h
   ·rename_i d j1 hd
    have h2:=hR _ _ _ _ hd
    split at h
    ·simp at h
    ·rename_i l' e he
     have:=ih _ _ _ _ h2.2 he
     simp only[Option.some.injEq,Prod.mk.injEq] at h;omega
  ·split at h
   ·split at h
    ·simp at h
    ·rename_i d j1 hd
     have h2:=hR _ _ _ _ hd
     split at h
     ·simp at h
     ·rename_i l' e he
      have:=ih _ _ _ _ h2.2 he
      simp only[Option.some.injEq,Prod.mk.injEq] at h;omega
   ·simp at h
theorem rdNamed_goes {s:ByteArray}{R:PT→Nat→Option (DT×Nat)}(hR:∀ t,Goes s (R t)) (pb:PB):Goes s (rdNamed R s pb):=by
 intro i d j h
 unfold rdNamed at h
 split at h
 ·split at h
  ·rename_i hb
   have h0:=bt_pos (s:=s) (i:=i) (by omega)
   split at h
   ·simp at h
   ·rename_i ds j1 hd
    have h1:=rdFields_goes hR _ _ _ _ _ (by omega) hd
    split at h
    ·rename_i hc
     have:=bt_pos (s:=s) (i:=j1) (by omega)
     simp only[Option.some.injEq,Prod.mk.injEq] at h;omega
    ·simp at h
  ·simp at h
 ·split at h
  ·split at h
   ·simp at h
   ·simp only[Option.some.injEq,Prod.mk.injEq] at h;omega
  ·simp at h
 ·split at h
  ·rename_i hb
   have:=bt_pos (s:=s) (i:=letEnd s (i+1)) (by omega)
   have:=letEnd_ge s (i+1)
   simp only[Option.some.injEq,Prod.mk.injEq] at h;omega
  ·simp at h
theorem closing_pos (c:Nat):0<closing c:=by unfold closing;split <;> omega
theorem rdNum_goes {s:ByteArray}{kd i:Nat}{n:Int}{j:Nat}(h:rdNum s kd i=some (n,j)):i<j∧j≤s.size:=by
 unfold rdNum at h
 split at h
 ·rename_i hn
  simp only[Option.some.injEq,Prod.mk.injEq] at h
  have h0:=hn.1
  have hs:i≤sgn s i:=by unfold sgn;split <;> omega
  unfold numTx at h0
  rw[ByteArray.size_extract] at h0
  have hg:=runEnd_ge 48 57 s _ (sgn s i) (Nat.le_refl _)
  unfold numEnd at *
  rw[← h.2]
  refine⟨by omega,hg.2 (by omega)⟩
 ·simp at h
theorem rdT_goes (s:ByteArray) (env:Nat→Option PB) (pl:Bool) (f:Nat):∀ t,Goes s (rdT s env pl f t):=by
 induction f with
 | zero=>intro t i d j h;simp[rdT] at h
 | succ f ih=>
  intro t i d j h
  cases t with
  | leaf c p=>
   simp only[rdT] at h
   unfold rdLeaf at h
   have one:∀ {k x},bt s i=k→0<k→some (x,i+1)=some (d,j)→i<j∧j≤s.size:=fun hb h0 h=>by
    have:=bt_pos (s:=s) (i:=i) (by omega)
    simp only[Option.some.injEq,Prod.mk.injEq] at h;omega
   split at h
   ·split at h
    ·rename_i hb;exact one hb (by omega) h
    ·simp at h
   ·split at h
    ·split at h
     ·rename_i hb;exact one hb (by omega) h
     ·split at h
      ·rename_i hb;exact one hb (by omega) h
      ·simp at h
    ·split at h
     ·split at h
      ·simp at h
      ·rename_i n j1 hn
       have:=rdNum_goes hn
       simp only[Option.some.injEq,Prod.mk.injEq] at h;omega
     ·split at h
      ·split at h
       ·rename_i hb
        have:=bt_pos (s:=s) (i:=letEnd s (i+1)) (by omega)
        have:=letEnd_ge s (i+1)
        simp only[Option.some.injEq,Prod.mk.injEq] at h;omega
       ·simp at h
      ·split at h
       ·simp at h
       ·exact rdNamed_goes ih _ _ _ _ h
  | wrap c p t=>
   simp only[rdT] at h
   unfold rdWrap at h
   split at h
   ·split at h
    ·simp at h
    ·rename_i l j1 hl
     simp only[Option.some.injEq,Prod.mk.injEq] at h
     unfold rdList at hl
     have hc:=closing_pos c
     split at hl
     ·rename_i hb
      have:=bt_pos (s:=s) (i:=i+1) (by omega)
      simp only[Option.some.injEq,Prod.mk.injEq] at hl;omega
     ·have:=rdItems_goes (ih t) hc _ _ _ _ _ hl
      omega
   ·simp at h
  | alts p ts=>
   simp only[rdT] at h
   unfold rdBranch at h
   split at h
   ·split at h
    ·simp at h
    ·split at h
     ·simp at h
     ·rename_i d1 j1 hd
      have:=ih _ _ _ _ hd
      simp only[Option.some.injEq,Prod.mk.injEq] at h;omega
   ·split at h
    ·rename_i hb
     have hg:=(runEnd_ge 48 57 s _ (i+1) (Nat.le_refl _)).1
     have hbe:i+1≤brEnd s (i+1):=by unfold brEnd;omega
     split at h
     ·simp at h
     ·split at h
      ·simp at h
      ·rename_i d1 j1 hd
       have h1:=ih _ _ _ _ hd
       split at h
       ·rename_i hc
        have:=bt_pos (s:=s) (i:=j1) (by omega)
        simp only[Option.some.injEq,Prod.mk.injEq] at h;omega
       ·simp at h
    ·simp at h
end Go.Proofs.YtiifagiebikmdaaGreatDoor
