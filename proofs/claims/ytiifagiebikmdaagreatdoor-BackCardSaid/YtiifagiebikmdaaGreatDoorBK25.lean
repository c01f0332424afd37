import Derived.Test.YtiifagiebikmdaaGreatDoorBK23
import Derived.Test.YtiifagiebikmdaaGreatDoorShelf
namespace Go.Proofs.YtiifagiebikmdaaGreatDoor
open Go.RowKit
def SameG (w0 w:World):Prop:=∀ g,g<w0.heap.size→w.heap[g]?=w0.heap[g]?
theorem SameG.refl (w:World):SameG w w:=fun _ _=>rfl
theorem SameG.fr {w0 w w':World}{S:Nat→Prop}(h:SameG w0 w) (hf:Fr w w' S) (hk:w0.heap.size≤w.heap.size) (hS:∀ g,S g→w0.heap.size≤g):SameG w0 w':=fun g hg=>
 (hf.block g (by omega) (fun e=>by have:=hS g e;omega)).trans (h g hg)
theorem SameG.err {g:Nat}{w0 w:World}{et:TypeId}{ex:Value}(h:SameG w0 w) (he:ErrV g w0 et ex):ErrV g w et ex:=
 (World.cell?_of_block (a:=⟨g,0,none⟩) (h g (World.block_lt_of_cell? w0 ⟨g,0,none⟩ he))).trans he
theorem SameG.var {w0 w:World}(h:SameG w0 w){n:String}{cs:Array Value}(hv:w0.var? Tryz.prog n=some cs):w.var? Tryz.prog n=some cs:=by
 unfold World.var? at hv⊢
 cases hg:Tryz.prog.globalNamed n with
 | none=>rw[hg] at hv;simp at hv
 | some g=>
  rw[hg] at hv
  simp only[Option.bind_some] at hv⊢
  by_cases hl:g<w0.heap.size
  ·rw[h g hl];exact hv
  ·rw[Array.getElem?_eq_none (by omega)] at hv;simp at hv
theorem Fr.grow (w:World) (k:Nat) (os:Array Obj):Fr w (Sort.grow (w.drewN k) os) (fun _=>False):=by
 refine⟨rfl,rfl,rfl,?_,fun g hg _=>?_⟩
 ·show w.heap.size≤(w.heap++os).size
  simp
 ·show(w.heap++os)[g]?=w.heap[g]?
  rw[Array.getElem?_append_left hg]
def ItoaOK (w0:World):Prop:=∀ (W:World),SameG w0 W→∀ n:Nat,n≤4000→Calls Tryz.prog 165 #[.int .i64 (n:Int)] W fun e w'=>∃ tx,e=.returned (.string tx)∧tx.size≤100000∧Fr W w' (fun _=>False)
def QuoteOK (w0:World):Prop:=∀ (W:World),SameG w0 W→∀ k:ByteArray,k.size≤4000→Calls Tryz.prog 166 #[.string k] W fun e w'=>∃ tx,e=.returned (.string tx)∧tx.size≤100000∧Fr W w' (fun _=>False)
theorem nDigits_le:∀ (k n:Nat),n<10 ^ (k+1)→Lib.nDigits n≤k+1:=by
 intro k
 induction k with
 | zero=>intro n h;rw[Lib.nDigits,dif_pos (by simpa using h)];omega
 | succ k ih=>
  intro n h
  rw[Lib.nDigits]
  split
  ·omega
  ·have:=ih (n / 10) (by rw[Nat.div_lt_iff_lt_mul (by decide)];rw[Nat.pow_succ] at h;exact h)
   omega
theorem itoa_ok {w0:World}(h:Lib.TabIs Tryz.prog w0 "internal/strconv.uint64pow10" .u64 Lib.pow10Tab):ItoaOK w0:=by
 intro W hW n hn
 have h1:Lib.TabIs Tryz.prog W "internal/strconv.uint64pow10" .u64 Lib.pow10Tab:=hW.var h
 refine(Tryz.strconv_Itoa (n:Int) (by omega) (by omega) W h1).mono ?_
 rintro e w' ⟨rfl,k,os,rfl⟩
 refine⟨_,rfl,?_,Fr.grow W k os⟩
 show(Lib.itoa (n:Int)).toArray.size≤100000
 rw[List.size_toArray]
 unfold Lib.itoa
 rw[if_neg (by omega),Lib.decDigits_length]
 have:=nDigits_le 3 (Int.toNat (n:Int)) (by simp;omega)
 omega
def WithinPost (w:World) (cv:Value) (e:Ending) (w':World):Prop:=
 ∃ g tx,e=.returned (.iface 269 (.pointer (some ⟨g,0,none⟩)))∧w.heap.size≤g∧Blk w' g [.string tx,cv] 271∧Fr w w' (fun _=>False)
set_option maxHeartbeats 1000000 in
set_option maxRecDepth 100000 in
theorem inItem_any {w0 w:World}{cT:TypeId}{cx:Value}{n:Nat}(H:ItoaOK w0) (hG:SameG w0 w) (hn:n≤4000) :
 Calls Tryz.prog 145 #[.int .i64 (n:Int),.iface cT cx] w (WithinPost w (.iface cT cx)):=by
 obtain⟨POST,hPOST⟩:∃ Q,Hid (Q=WithinPost w (.iface cT cx)):=⟨_,rfl⟩
 rw[← hPOST.out]
 have hC:=hide (H w hG n hn)
 go_enter Tryz.func145,Tryz.ntmps145
 go_wp2_with (first|(go_at_call 165;refine hC.out.mono ?_;rintro e w1 ⟨tx,rfl,htx,hf1⟩;replace hf1:=hide hf1)|(go_at_call 166;refine hC.out.mono ?_;rintro e w1 ⟨tx,rfl,htx,hf1⟩;replace hf1:=hide hf1))
 try go_ret
 rw[hPOST.out]
 exact⟨w1.heap.size,_,rfl,hf1.out.size,Blk.new w1 _ _,hf1.out.alloc _⟩
set_option maxHeartbeats 1000000 in
set_option maxRecDepth 100000 in
theorem inBranch_any {w0 w:World}{cT:TypeId}{cx:Value}{n:Nat}(H:ItoaOK w0) (hG:SameG w0 w) (hn:n≤4000) :
 Calls Tryz.prog 158 #[.int .i64 (n:Int),.iface cT cx] w (WithinPost w (.iface cT cx)):=by
 obtain⟨POST,hPOST⟩:∃ Q,Hid (Q=WithinPost w (.iface cT cx)):=⟨_,rfl⟩
 rw[← hPOST.out]
 have hC:=hide (H w hG n hn)
 go_enter Tryz.func158,Tryz.ntmps158
 go_wp2_with (first|(go_at_call 165;refine hC.out.mono ?_;rintro e w1 ⟨tx,rfl,htx,hf1⟩;replace hf1:=hide hf1)|(go_at_call 166;refine hC.out.mono ?_;rintro e w1 ⟨tx,rfl,htx,hf1⟩;replace hf1:=hide hf1))
 try go_ret
 rw[hPOST.out]
 exact⟨w1.heap.size,_,rfl,hf1.out.size,Blk.new w1 _ _,hf1.out.alloc _⟩
set_option maxHeartbeats 1000000 in
set_option maxRecDepth 100000 in
theorem inKey_any {w0 w:World}{cT:TypeId}{cx:Value}{k:ByteArray}(H:QuoteOK w0) (hG:SameG w0 w) (hn:k.size≤4000) :
 Calls Tryz.prog 149 #[.string k,.iface cT cx] w (WithinPost w (.iface cT cx)):=by
 obtain⟨POST,hPOST⟩:∃ Q,Hid (Q=WithinPost w (.iface cT cx)):=⟨_,rfl⟩
 rw[← hPOST.out]
 have hC:=hide (H w hG k hn)
 go_enter Tryz.func149,Tryz.ntmps149
 go_wp2_with (first|(go_at_call 165;refine hC.out.mono ?_;rintro e w1 ⟨tx,rfl,htx,hf1⟩;replace hf1:=hide hf1)|(go_at_call 166;refine hC.out.mono ?_;rintro e w1 ⟨tx,rfl,htx,hf1⟩;replace hf1:=hide hf1))
 try go_ret
 rw[hPOST.out]
 exact⟨w1.heap.size,_,rfl,hf1.out.size,Blk.new w1 _ _,hf1.out.alloc _⟩
set_option maxHeartbeats 1000000 in
set_option maxRecDepth 100000 in
theorem inField_any {w:World}{cT:TypeId}{cx:Value}{l:Nat}(hl:isSmall l=true) :
 Calls Tryz.prog 152 #[.int .u8 (l:Int),.iface cT cx] w (WithinPost w (.iface cT cx)):=by
 obtain⟨POST,hPOST⟩:∃ Q,Hid (Q=WithinPost w (.iface cT cx)):=⟨_,rfl⟩
 rw[← hPOST.out]
 obtain⟨k,hk,hk26⟩:=small_k hl
 have hc:l=97∨l=98∨l=99∨l=100∨l=101∨l=102∨l=103∨l=104∨l=105∨l=106∨l=107∨l=108∨l=109∨l=110∨l=111∨l=112∨l=113∨l=114∨l=115∨l=116∨l=117∨l=118∨l=119∨l=120∨l=121∨l=122:=by omega
 clear hl hk hk26
 rcases hc with rfl|rfl|rfl|rfl|rfl|rfl|rfl|rfl|rfl|rfl|rfl|rfl|rfl|rfl|rfl|rfl|rfl|rfl|rfl|rfl|rfl|rfl|rfl|rfl|rfl|rfl
 all_goals
  go_enter Tryz.func152,Tryz.ntmps152
  go_wp2_with fail
  try go_ret
  rw[hPOST.out]
  exact⟨w.heap.size,_,rfl,Nat.le_refl _,Blk.new w _ _,(Fr.refl w _).alloc _⟩
inductive ErrD (w:World) (lo:Nat) (nt:TypeId) (nx:Value):Value→Prop
 | base:ErrD w lo nt nx (.iface nt nx)
 | within (g:Nat) (hg:lo≤g) (tx:ByteArray) {v:Value} (hb:Blk w g [.string tx,v] 271) (h:ErrD w lo nt nx v):ErrD w lo nt nx (.iface 269 (.pointer (some ⟨g,0,none⟩)))
theorem ErrD.fr {w w':World}{lo:Nat}{nt:TypeId}{nx v:Value}{S:Nat→Prop}(h:ErrD w lo nt nx v) (hf:Fr w w' S) (hS:∀ g,lo≤g→¬ S g):ErrD w' lo nt nx v:=by
 induction h with
 | base=>exact .base
 | within g hg tx hb h ih=>exact .within g hg tx (hf.blk hb (hS g hg)) ih
theorem ErrD.less {w:World}{lo lo':Nat}{nt:TypeId}{nx v:Value}(h:ErrD w lo nt nx v) (hl:lo'≤lo):ErrD w lo' nt nx v:=by
 induction h with
 | base=>exact .base
 | within g hg tx hb h ih=>exact .within g (Nat.le_trans hl hg) tx hb ih
theorem ErrD.iface {w:World}{lo:Nat}{nt:TypeId}{nx v:Value}(h:ErrD w lo nt nx v):∃ T x,v=.iface T x:=by
 cases h <;> exact⟨_,_,rfl⟩
theorem ErrD.wrap {w w':World}{lo:Nat}{nt:TypeId}{nx cv v:Value}(h:ErrD w lo nt nx cv){e:Ending}(hW:WithinPost w cv e w') (hl:lo≤w.heap.size) (he:e=.returned v):ErrD w' lo nt nx v:=by
 obtain⟨g,tx,rfl,h1,h2,h3⟩:=hW
 cases he
 exact .within g (Nat.le_trans hl h1) tx h2 (h.fr h3 (fun _ _ f=>f))
structure NC (w0:World) (P:Nat→Prop) (ss:ByteArray) (ds:List PD) (sv rv:Value) (xs:List Value) (s:ByteArray) (nt:TypeId) (nx:Value) (pl:Bool) (br i:Nat) (W:World):Prop where
 R:RdAt W br sv rv s i (!pl)
 D:DRow W P ss ds sv xs
 G:SameG w0 W
 E:ErrV 3 w0 nt nx
 Pbr:∀ g,P g→g<br
 brG:w0.heap.size≤br
 hs:s.size≤4000
 il:i≤s.size
section
variable {w0 W W':World} {P:Nat→Prop} {ss:ByteArray} {ds:List PD} {sv rv:Value} {xs:List Value} {s:ByteArray} {nt:TypeId} {nx:Value} {pl:Bool} {br i i':Nat}
theorem NC.brP (M:NC w0 P ss ds sv rv xs s nt nx pl br i W):¬ P br:=fun h=>Nat.lt_irrefl _ (M.Pbr br h)
theorem NC.lt (M:NC w0 P ss ds sv rv xs s nt nx pl br i W):br<W.heap.size:=Blk.lt M.R
theorem NC.call (M:NC w0 P ss ds sv rv xs s nt nx pl br i W) (h:RdAt W' br sv rv s i' (!pl)) (hf:Fr W W' (· = br)) (hi:i'≤s.size):NC w0 P ss ds sv rv xs s nt nx pl br i' W':=by
 have h1:=M.lt
 have h2:=M.brG
 exact⟨h,M.D.fr hf (fun g hg e=>M.brP (e▸hg)),M.G.fr hf (by omega) (fun g e=>e▸M.brG),M.E,M.Pbr,M.brG,M.hs,hi⟩
theorem NC.new (M:NC w0 P ss ds sv rv xs s nt nx pl br i W) (hf:Fr W W' (fun _=>False)):NC w0 P ss ds sv rv xs s nt nx pl br i W':=M.call (hf.blk M.R id) (hf.mono (fun _ _ f=>f.elim)) M.il
theorem NC.still (M:NC w0 P ss ds sv rv xs s nt nx pl br i W) (hf:Still W W'):NC w0 P ss ds sv rv xs s nt nx pl br i W':=M.new ((Fr.refl W _).still hf)
theorem NC.e (M:NC w0 P ss ds sv rv xs s nt nx pl br i W):W.cell? ⟨3,0,none⟩=some (.iface nt nx):=M.G.err M.E
end
def NPost (w:World) (sv rv:Value) (s:ByteArray) (nt:TypeId) (nx:Value) (pl:Bool) (br:Nat) (res:Option (DT×Nat)) (e:Ending) (w':World):Prop:=
 ∃ v ev,e=.returned (.tuple #[v,ev])∧Fr w w' (· = br)∧
 match res with
 | some (d,j)=>ev=.nilIface∧DatV w' (fun g=>w.heap.size≤g) d v∧RdAt w' br sv rv s j (!pl)∧j≤s.size
 | none=>v=.nilIface∧ErrD w' w.heap.size nt nx ev∧∃ j,RdAt w' br sv rv s j (!pl)∧j≤s.size
open Go.RowKit
section
variable {w0 w:World} {P:Nat→Prop} {ss:ByteArray} {ds:List PD} {sv rv:Value} {xs:List Value} {s:ByteArray} {nt:TypeId} {nx:Value} {pl:Bool} {br i:Nat}
theorem nerr {W:World}{j:Nat}(hf:Fr w W (· = br)) (h:RdAt W br sv rv s j (!pl)) (hj:j≤s.size):NPost w sv rv s nt nx pl br none (.returned (.tuple #[.nilIface,.iface nt nx])) W:=⟨.nilIface,_,rfl,hf,rfl,.base,j,h,hj⟩
theorem nok {W:World}{j:Nat}{d:DT}{v:Value}(hD:DatV W (fun g=>w.heap.size≤g) d v) (hf:Fr w W (· = br)) (h:RdAt W br sv rv s j (!pl)) (hj:j≤s.size):NPost w sv rv s nt nx pl br (some (d,j)) (.returned (.tuple #[v,.nilIface])) W:=⟨v,_,rfl,hf,rfl,hD,h,hj⟩
end
theorem letEnd_le {s:ByteArray}{i:Nat}(h:i≤s.size):i≤letEnd s i∧letEnd s i≤s.size:=⟨(runEnd_ge 97 122 s _ i (Nat.le_refl _)).1,(runEnd_ge 97 122 s _ i (Nat.le_refl _)).2 h⟩
def tEnd (s:ByteArray) (i:Nat):Option (DT×Nat):=if bt s i=84 then some (.mk 116 1 noB [] [],i+1) else if bt s i=70 then some (.mk 116 0 noB [] [],i+1) else none
set_option maxHeartbeats 4000000 in
set_option maxRecDepth 100000 in
theorem ntruth_any {w0 w:World}{P:Nat→Prop}{ss:ByteArray}{ds:List PD}{sv rv:Value}{xs:List Value}{s:ByteArray}{nt:TypeId}{nx:Value}{pl:Bool}{br i:Nat}(M:NC w0 P ss ds sv rv xs s nt nx pl br i w) :
 Calls Tryz.prog 115 #[.pointer (some ⟨br,0,none⟩)] w (NPost w sv rv s nt nx pl br (tEnd s i)):=by
 obtain⟨POST,hPOST⟩:∃ Q,Hid (Q=NPost w sv rv s nt nx pl br (tEnd s i)):=⟨_,rfl⟩
 rw[← hPOST.out]
 have hs4:s.size≤4000:=by have:=M.hs;omega
 have F:=hide (Fr.refl w (fun g=>g=br))
 have hil:=M.il
 replace M:=hide M
 by_cases h84:bt s i=84
 ·have hlt:i+1≤s.size:=bt_pos (s:=s) (i:=i) (by omega)
  have hr:=hide (show tEnd s i=some (.mk 116 1 noB [] [],i+1) by unfold tEnd;rw[if_pos h84])
  have hb:=hide h84
  go_enter Tryz.func115,Tryz.ntmps115
  go_wp2_with (go_at_call 114;refine(ntake_yes 84 M.out.R hs4 hil (by decide) (by decide) hb.out).mono ?_;rintro e wM1 ⟨rfl,hf2,h2⟩;have M1:=hide (M.out.call h2 hf2 hlt);have F1:=hide (F.out.trans hf2 (fun _ _ e=>e));clear hf2 h2)
  try go_ret
  rw[hPOST.out,hr.out]
  exact nok (.flat (.truth true)) F1.out M1.out.R hlt
 ·by_cases h70:bt s i=70
  ·have hlt:i+1≤s.size:=bt_pos (s:=s) (i:=i) (by omega)
   have hr:=hide (show tEnd s i=some (.mk 116 0 noB [] [],i+1) by unfold tEnd;rw[if_neg h84,if_pos h70])
   have hn:=hide h84
   have hb:=hide h70
   go_enter Tryz.func115,Tryz.ntmps115
   go_wp2_with (first
    |(go_at_call 114;refine(ntake_no 84 M.out.R hs4 hil (by decide) (by decide) hn.out).mono ?_;rintro e wM1 ⟨rfl,hf2,h2⟩;have M1:=hide (M.out.call h2 hf2 hil);have F1:=hide (F.out.trans hf2 (fun _ _ e=>e));clear hf2 h2)
    |(go_at_call 114;refine(ntake_yes 70 M1.out.R hs4 hil (by decide) (by decide) hb.out).mono ?_;rintro e wM2 ⟨rfl,hf2,h2⟩;have M2:=hide (M1.out.call h2 hf2 hlt);have F2:=hide (F1.out.trans hf2 (fun _ _ e=>e));clear hf2 h2))
   try go_ret
   rw[hPOST.out,hr.out]
   exact nok (.flat (.truth false)) F2.out M2.out.R hlt
  ·have hr:=hide (show tEnd s i=none by unfold tEnd;rw[if_neg h84,if_neg h70])
   have hn:=hide h84
   have hb:=hide h70
   go_enter Tryz.func115,Tryz.ntmps115
   go_wp2_with (first
    |(go_at_call 114;refine(ntake_no 84 M.out.R hs4 hil (by decide) (by decide) hn.out).mono ?_;rintro e wM1 ⟨rfl,hf2,h2⟩;have M1:=hide (M.out.call h2 hf2 hil);have F1:=hide (F.out.trans hf2 (fun _ _ e=>e));clear hf2 h2)
    |(go_at_call 114;refine(ntake_no 70 M1.out.R hs4 hil (by decide) (by decide) hb.out).mono ?_;rintro e wM2 ⟨rfl,hf2,h2⟩;have M2:=hide (M1.out.call h2 hf2 hil);have F2:=hide (F1.out.trans hf2 (fun _ _ e=>e));clear hf2 h2))
   have e0:=M2.out.e
   go_quiet (fail)
   go_wp2_with fail
   try go_ret
   rw[hPOST.out,hr.out]
   exact nerr (F2.out.still (Still.drewN _ _)) (M2.out.R.still (Still.drewN _ _)) hil
open Go.RowKit
def BtwPost (w:World) (sv rv:Value) (s:ByteArray) (pl:Bool) (br i d:Nat) (e:Ending) (w':World):Prop:=
 ∃ tx b,e=.returned (.tuple #[.string tx,.bool b])∧Fr w w' (· = br)∧
  ((bt s i=d∧bt s (letEnd s (i+1))=d∧b=true∧tx=s.extract (i+1) (letEnd s (i+1))∧RdAt w' br sv rv s (letEnd s (i+1)+1) (!pl)∧letEnd s (i+1)+1≤s.size)∨
   (¬ (bt s i=d∧bt s (letEnd s (i+1))=d)∧b=false∧∃ j,RdAt w' br sv rv s j (!pl)∧j≤s.size))
set_option maxHeartbeats 4000000 in
set_option maxRecDepth 100000 in
theorem nbetween_any {w0 w:World}{P:Nat→Prop}{ss:ByteArray}{ds:List PD}{sv rv:Value}{xs:List Value}{s:ByteArray}{nt:TypeId}{nx:Value}{pl:Bool}{br i:Nat}{c:Int}(d:Nat) (M:NC w0 P ss ds sv rv xs s nt nx pl br i w) (hd:c=(d:Int)) (hd0:0<d) :
 Calls Tryz.prog 142 #[.pointer (some ⟨br,0,none⟩),.int .u8 c] w (BtwPost w sv rv s pl br i d):=by
 subst hd
 obtain⟨POST,hPOST⟩:∃ Q,Hid (Q=BtwPost w sv rv s pl br i d):=⟨_,rfl⟩
 rw[← hPOST.out]
 have hs4:s.size≤4000:=by have:=M.hs;omega
 have hil:=M.il
 have F:=hide (Fr.refl w (fun g=>g=br))
 replace M:=hide M
 by_cases hb:bt s i=d
 ·have hlt:i+1≤s.size:=bt_pos (s:=s) (i:=i) (by omega)
  have hle:=letEnd_le hlt
  obtain⟨e1,he1⟩:∃ e1,letEnd s (i+1)=e1:=⟨_,rfl⟩
  rw[he1] at hle
  by_cases hb2:bt s e1=d
  ·have hlt2:e1+1≤s.size:=bt_pos (s:=s) (i:=e1) (by omega)
   have hbb:=hide hb2
   replace hb:=hide hb
   replace he1:=hide he1
   go_enter Tryz.func142,Tryz.ntmps142
   go_wp2_with (first
    |(go_at_call 114;refine(ntake_yes d M.out.R hs4 hil rfl hd0 hb.out).mono ?_;rintro e w2 ⟨rfl,hf2,h2⟩;have F1:=hide (F.out.trans hf2 (fun _ _ e=>e));clear F M;replace h2:=hide h2;clear hf2)
    |(go_at_call 147;refine(nrun_letters h2.out hs4 hlt).mono ?_;rintro e w3 ⟨rfl,hf3,h3⟩;rw[show runEnd 97 122 s (i+1)=e1 from he1.out] at h3⊢;have F2:=hide (F1.out.trans hf3 (fun _ _ e=>e));replace h3:=hide h3;clear hf3)
    |(go_at_call 114;refine(ntake_yes d h3.out hs4 hle.2 rfl hd0 hbb.out).mono ?_;rintro e w4 ⟨rfl,hf4,h4⟩;have F3:=hide (F2.out.trans hf4 (fun _ _ e=>e));replace h4:=hide h4;clear hf4))
   try go_ret
   rw[hPOST.out]
   refine⟨_,true,rfl,F3.out,.inl ?_⟩
   rw[he1.out]
   exact⟨hb.out,hbb.out,rfl,rfl,h4.out,hlt2⟩
  ·have hbb:=hide hb2
   replace hb:=hide hb
   replace he1:=hide he1
   go_enter Tryz.func142,Tryz.ntmps142
   go_wp2_with (first
    |(go_at_call 114;refine(ntake_yes d M.out.R hs4 hil rfl hd0 hb.out).mono ?_;rintro e w2 ⟨rfl,hf2,h2⟩;have F1:=hide (F.out.trans hf2 (fun _ _ e=>e));clear F M;replace h2:=hide h2;clear hf2)
    |(go_at_call 147;refine(nrun_letters h2.out hs4 hlt).mono ?_;rintro e w3 ⟨rfl,hf3,h3⟩;rw[show runEnd 97 122 s (i+1)=e1 from he1.out] at h3⊢;have F2:=hide (F1.out.trans hf3 (fun _ _ e=>e));replace h3:=hide h3;clear hf3)
    |(go_at_call 114;refine(ntake_no d h3.out hs4 hle.2 rfl hd0 hbb.out).mono ?_;rintro e w4 ⟨rfl,hf4,h4⟩;have F3:=hide (F2.out.trans hf4 (fun _ _ e=>e));replace h4:=hide h4;clear hf4))
   try go_ret
   rw[hPOST.out]
   refine⟨_,false,rfl,F3.out,.inr ⟨fun h=>?_,rfl,e1,h4.out,hle.2⟩⟩
   rw[he1.out] at h
   exact hbb.out h.2
 ·have hbn:=hide hb
  clear hb
  go_enter Tryz.func142,Tryz.ntmps142
  go_wp2_with (go_at_call 114;refine(ntake_no d M.out.R hs4 hil rfl hd0 hbn.out).mono ?_;rintro e w2 ⟨rfl,hf2,h2⟩;have F1:=hide (F.out.trans hf2 (fun _ _ e=>e));replace h2:=hide h2;clear hf2)
  try go_ret
  rw[hPOST.out]
  exact⟨_,false,rfl,F1.out,.inr ⟨fun h=>hbn.out h.1,rfl,i,h2.out,hil⟩⟩
open Go.RowKit
def sEnd (s:ByteArray) (i:Nat):Option (DT×Nat):=if bt s i=34∧bt s (letEnd s (i+1))=34 then some (.mk 115 0 (s.extract (i+1) (letEnd s (i+1))) [] [],letEnd s (i+1)+1) else none
set_option maxHeartbeats 4000000 in
set_option maxRecDepth 100000 in
theorem nquoted_any {w0 w:World}{P:Nat→Prop}{ss:ByteArray}{ds:List PD}{sv rv:Value}{xs:List Value}{s:ByteArray}{nt:TypeId}{nx:Value}{pl:Bool}{br i:Nat}(M:NC w0 P ss ds sv rv xs s nt nx pl br i w) :
 Calls Tryz.prog 117 #[.pointer (some ⟨br,0,none⟩)] w (NPost w sv rv s nt nx pl br (sEnd s i)):=by
 obtain⟨POST,hPOST⟩:∃ Q,Hid (Q=NPost w sv rv s nt nx pl br (sEnd s i)):=⟨_,rfl⟩
 rw[← hPOST.out]
 have hC:=hide (nbetween_any (c:=34) 34 M rfl (by decide))
 have hs4:=M.hs
 replace M:=hide M
 by_cases hb:bt s i=34∧bt s (letEnd s (i+1))=34
 ·have hr:=hide (show sEnd s i=some (.mk 115 0 (s.extract (i+1) (letEnd s (i+1))) [] [],letEnd s (i+1)+1) by unfold sEnd;rw[if_pos hb])
  replace hb:=hide hb
  go_enter Tryz.func117,Tryz.ntmps117
  go_wp2_with (go_at_call 142;refine hC.out.mono ?_;rintro e w2 ⟨tx,b,rfl,hf2,hm⟩;obtain⟨rfl,rfl,h2,hj⟩:b=true∧tx=s.extract (i+1) (letEnd s (i+1))∧RdAt w2 br sv rv s (letEnd s (i+1)+1) (!pl)∧letEnd s (i+1)+1≤s.size:=(by rcases hm with⟨_,_,q1,q4,q2,q3⟩|⟨q,_⟩;(exact⟨q1,q4,q2,q3⟩);exact absurd hb.out q);replace hf2:=hide hf2;replace h2:=hide h2;replace hj:=hide hj;clear hm)
  try go_ret
  rw[hPOST.out,hr.out]
  exact nok (.flat (.text _ (by rw[ByteArray.size_extract];omega))) hf2.out h2.out hj.out
 ·have hr:=hide (show sEnd s i=none by unfold sEnd;rw[if_neg hb])
  replace hb:=hide hb
  go_enter Tryz.func117,Tryz.ntmps117
  go_wp2_with (go_at_call 142;refine hC.out.mono ?_;rintro e w2 ⟨tx,b,rfl,hf2,hm⟩;obtain⟨rfl,j,h2,hj⟩:b=false∧∃ j,RdAt w2 br sv rv s j (!pl)∧j≤s.size:=(by rcases hm with⟨q0,q1,_⟩|⟨_,q1,q2⟩;(exact absurd ⟨q0,q1⟩ hb.out);exact⟨q1,q2⟩);have M2:=M.out.call h2 hf2 hj;have e0:=M2.e;replace hf2:=hide hf2;replace h2:=hide h2;clear hm M2)
  go_quiet (fail)
  go_wp2_with fail
  try go_ret
  rw[hPOST.out,hr.out]
  exact nerr (hf2.out.still (Still.drewN _ _)) (h2.out.still (Still.drewN _ _)) hj
open Go.RowKit
def fEnd (s:ByteArray) (n i:Nat):Option (DT×Nat):=if bt s i=39∧letEnd s (i+1)-(i+1)=n∧bt s (letEnd s (i+1))=39 then some (.mk 102 0 (s.extract (i+1) (letEnd s (i+1))) [] [],letEnd s (i+1)+1) else none
set_option maxHeartbeats 4000000 in
set_option maxRecDepth 100000 in
theorem nbytes_any {w0 w:World}{P:Nat→Prop}{ss:ByteArray}{ds:List PD}{sv rv:Value}{xs:List Value}{s:ByteArray}{nt:TypeId}{nx:Value}{pl:Bool}{br i:Nat}{p:Int}{n:Nat}(M:NC w0 P ss ds sv rv xs s nt nx pl br i w) :
 Calls Tryz.prog 123 #[.pointer (some ⟨br,0,none⟩),.agg #[.int .i64 p,.int .i64 (n:Int)]] w (NPost w sv rv s nt nx pl br (fEnd s n i)):=by
 obtain⟨POST,hPOST⟩:∃ Q,Hid (Q=NPost w sv rv s nt nx pl br (fEnd s n i)):=⟨_,rfl⟩
 rw[← hPOST.out]
 have A0:Fr w (w.alloc (.cells #[.int .i64 p,.int .i64 (n:Int)] 233)) (fun _=>False):=(Fr.refl w _).alloc _
 have M0:=M.new A0
 have hbl:=M.lt
 have hs4:=M.hs
 have hC:=hide (nbetween_any (c:=39) 39 M0 rfl (by decide))
 have hN:=Blk.new w #[.int .i64 p,.int .i64 (n:Int)] 233
 have F0:=hide (A0.mono (T:=fun g=>g=br) (fun _ _ f=>f.elim))
 replace M0:=hide M0
 replace hN:=hide hN
 clear A0
 by_cases hb:bt s i=39∧bt s (letEnd s (i+1))=39
 ·have hlt:i+1≤s.size:=bt_pos (s:=s) (i:=i) (by omega)
  have hle:=letEnd_le hlt
  have hsz:(s.extract (i+1) (letEnd s (i+1))).size=letEnd s (i+1)-(i+1):=by rw[ByteArray.size_extract];omega
  clear M
  replace hb:=hide hb
  have hcall:Hid (∀ e w2,BtwPost (w.alloc (.cells #[.int .i64 p,.int .i64 (n:Int)] 233)) sv rv s pl br i 39 e w2→∃ tx,e=.returned (.tuple #[.string tx,.bool true])∧tx=s.extract (i+1) (letEnd s (i+1))∧(tx.size:Int)=((letEnd s (i+1)-(i+1):Nat):Int)∧Fr (w.alloc (.cells #[.int .i64 p,.int .i64 (n:Int)] 233)) w2 (· = br)∧RdAt w2 br sv rv s (letEnd s (i+1)+1) (!pl)∧letEnd s (i+1)+1≤s.size):=hide (by
   rintro e w2 ⟨tx,b,rfl,hf2,hm⟩
   rcases hm with⟨_,_,rfl,rfl,q2,q3⟩|⟨q,_⟩
   ·exact⟨_,rfl,rfl,by rw[hsz],hf2,q2,q3⟩
   ·exact absurd hb.out q)
  by_cases hn:letEnd s (i+1)-(i+1)=n
  ·have hr:=hide (show fEnd s n i=some (.mk 102 0 (s.extract (i+1) (letEnd s (i+1))) [] [],letEnd s (i+1)+1) by unfold fEnd;rw[if_pos ⟨hb.out.1,hn,hb.out.2⟩])
   rw[hn] at hcall
   clear hsz hn hle
   go_enter Tryz.func123,Tryz.ntmps123
   go_wp2_with (go_at_call 142;refine hC.out.mono ?_;intro e w2 hB;obtain⟨tx,rfl,htq,htx,hf2,h2,hj⟩:=hcall.out e w2 hB;replace htq:=hide htq;have n1:=(hf2.blk hN.out (by omega)).cell 1;simp only[List.getElem?_cons_zero,List.getElem?_cons_succ] at n1;replace hf2:=hide hf2;replace h2:=hide h2;replace hj:=hide hj;clear hB)
   try go_ret
   rw[hPOST.out,hr.out]
   exact nok (by rw[← htq.out];exact .flat (.bytes _ (by rw[htq.out,ByteArray.size_extract];omega))) (F0.out.trans hf2.out (fun _ _ e=>e)) h2.out hj.out
  ·have hr:=hide (show fEnd s n i=none by unfold fEnd;rw[if_neg (fun h=>hn h.2.1)])
   have hn':∀ z:Int,z=((letEnd s (i+1)-(i+1):Nat):Int)→(z != (n:Int))=true:=fun z hz=>by rw[hz];simp;omega
   replace hn':=hide hn'
   clear hsz hn hle
   go_enter Tryz.func123,Tryz.ntmps123
   go_wp2_with (go_at_call 142;refine hC.out.mono ?_;intro e w2 hB;obtain⟨tx,rfl,htq,htx,hf2,h2,hj⟩:=hcall.out e w2 hB;clear htq;have htx':=hn'.out _ htx;clear htx;have n1:=(hf2.blk hN.out (by omega)).cell 1;simp only[List.getElem?_cons_zero,List.getElem?_cons_succ] at n1;have e0:=(M0.out.call h2 hf2 hj).e;replace hf2:=hide hf2;replace h2:=hide h2;replace hj:=hide hj;clear hB)
   go_quiet (fail)
   go_wp2_with fail
   try go_ret
   rw[hPOST.out,hr.out]
   exact nerr ((F0.out.trans hf2.out (fun _ _ e=>e)).still (Still.drewN _ _)) (h2.out.still (Still.drewN _ _)) hj.out
 ·have hr:=hide (show fEnd s n i=none by unfold fEnd;rw[if_neg (fun h=>hb ⟨h.1,h.2.2⟩)])
  replace hb:=hide hb
  clear M
  go_enter Tryz.func123,Tryz.ntmps123
  go_wp2_with (go_at_call 142;refine hC.out.mono ?_;rintro e w2 ⟨tx,b,rfl,hf2,hm⟩;obtain⟨rfl,j,h2,hj⟩:b=false∧∃ j,RdAt w2 br sv rv s j (!pl)∧j≤s.size:=(by rcases hm with⟨q0,q1,_⟩|⟨_,q1,q2⟩;(exact absurd ⟨q0,q1⟩ hb.out);exact⟨q1,q2⟩);have e0:=(M0.out.call h2 hf2 hj).e;replace hf2:=hide hf2;replace h2:=hide h2;clear hm)
  go_quiet (fail)
  go_wp2_with fail
  try go_ret
  rw[hPOST.out,hr.out]
  exact nerr ((F0.out.trans hf2.out (fun _ _ e=>e)).still (Still.drewN _ _)) (h2.out.still (Still.drewN _ _)) hj
open Go.RowKit
theorem find_at:∀ (l:List Nat) (q b:Nat),l[q]?=some b→b∉l.take q→l.findIdx? (fun c=>c==b)=some q
 | [],q,b,h,_=>by simp at h
 | a::r,0,b,h,_=>by
  simp only[List.getElem?_cons_zero,Option.some.injEq] at h
  simp[List.findIdx?_cons,h]
 | a::r,q+1,b,h,hn=>by
  simp only[List.getElem?_cons_succ] at h
  simp only[List.take_succ_cons,List.mem_cons,not_or] at hn
  rw[List.findIdx?_cons,if_neg (by simp;omega),find_at r q b h hn.2]
  rfl
theorem find_none {l:List Nat}{b:Nat}(h:b∉l):l.findIdx? (fun c=>c==b)=none:=by
 rw[List.findIdx?_eq_none_iff]
 intro x hx
 exact beq_eq_false_iff_ne.2 (fun e=>h (e▸hx))
def eEnd (s:ByteArray) (l:List (Nat×Nat)) (i:Nat):Option (DT×Nat):=
 match (l.map Prod.fst).findIdx? (fun c=>c==bt s i) with|none=>none|some q=>some (.mk 101 q noB [] [],i+1)
set_option maxHeartbeats 8000000 in
set_option maxRecDepth 100000 in
theorem nsymbol_any {w0 w:World}{P:Nat→Prop}{ss:ByteArray}{ds:List PD}{sv rv:Value}{xs:List Value}{s:ByteArray}{nt:TypeId}{nx:Value}{pl:Bool}{br i:Nat}{p:Int}{lv u:Value}{l:List (Nat×Nat)}(M:NC w0 P ss ds sv rv xs s nt nx pl br i w) (ho:w.ownsRow 0 146 2 lv l.length (symCells l)) (hoP:∀ g,lv.ownBlock=some g→P g) (hl:l.length≤300) (hsm:∀ q∈l,isSmall q.1=true) :
 Calls Tryz.prog 122 #[.pointer (some ⟨br,0,none⟩),.agg #[.int .i64 p,lv,u]] w (NPost w sv rv s nt nx pl br (eEnd s l i)):=by
 obtain⟨POST,hPOST⟩:∃ Q,Hid (Q=NPost w sv rv s nt nx pl br (eEnd s l i)):=⟨_,rfl⟩
 rw[← hPOST.out]
 obtain⟨la,lc,rfl⟩:=own_sl ho
 have hs4:s.size≤4000:=by have:=M.hs;omega
 have hil:=M.il
 have hbl:=M.lt
 have hbP:=M.brP
 have A0:Fr w (w.alloc (.cells #[.int .i64 p,.slice la l.length lc,u] 216)) (fun _=>False):=(Fr.refl w _).alloc _
 have start:Hid (∃ q:Nat,Value.int .i64 0=.int .i64 (q:Int)∧q≤l.length∧l.length+1-q≤l.length+1∧Fr w (w.alloc (.cells #[.int .i64 p,.slice la l.length lc,u] 216)) (fun g=>g=br)∧RdAt (w.alloc (.cells #[.int .i64 p,.slice la l.length lc,u] 216)) br sv rv s i (!pl)∧bt s i∉(l.take q).map Prod.fst):=hide ⟨0,rfl,Nat.zero_le _,by omega,A0.mono (fun _ _ f=>f.elim),A0.blk M.R id,by simp⟩
 replace M:=hide M
 replace ho:=hide ho
 replace hoP:=hide hoP
 clear A0
 go_enter Tryz.func122,Tryz.ntmps122
 go_wp2_with fail
 go_loopg [6,11] (l.length+1) (fun m v6 v W=>∃ q:Nat,v=.int .i64 (q:Int)∧q≤l.length∧l.length+1-q≤m∧Fr w W (fun g=>g=br)∧RdAt W br sv rv s i (!pl)∧bt s i∉(l.take q).map Prod.fst)
 case atStart=>exact start.out
 case round=>
  clear start
  obtain⟨q,rfl,hq,hm,hf,hR,he⟩:=hrel
  have hsz:=hf.size
  by_cases hlt:q<l.length
  ·have hlt':(q:Int)<(l.length:Int):=by omega
   have hd:l[q]?=some l[q]:=List.getElem?_eq_getElem hlt
   have hmem:l[q]∈l:=List.getElem_mem hlt
   generalize l[q]=f at hd hmem
   obtain⟨c,plq⟩:=f
   obtain⟨k,hk,hk26⟩:=small_k (hsm _ hmem)
   have hc0:0<c:=by have:c=97+k:=hk;omega
   clear hk hk26
   obtain⟨g,cap,hgc⟩:=own_form ho.out (by omega)
   cases hgc
   have hne:¬ g=br:=fun e=>hbP (e▸hoP.out g rfl)
   have hrow:=ownsRow_fr ho.out hf (fun g' e=>by simp only[Value.ownBlock,Option.some.injEq] at e;subst e;exact hne)
   have c0:=own_cell hrow rfl (symCells_get hd).1
   have c1:=own_cell hrow rfl (symCells_get hd).2
   have htk:=take_fst hd
   have A1:=(Fr.refl wr (fun _=>False)).alloc (.cells #[.int .i64 (plq:Int),.int .u8 (c:Int)] 146)
   have hN:=Blk.new wr #[.int .i64 (plq:Int),.int .u8 (c:Int)] 146
   have hR1:=A1.blk hR id
   have hf1:=hide (hf.trans A1 (fun _ _ f=>f.elim))
   clear hrow
   by_cases hb:bt s i=c
   ·have hC:=hide (ntake_yes c (show RdAt _ br sv rv s i (!pl) from hR1) hs4 hil rfl hc0 hb)
    have hlt2:i+1≤s.size:=bt_pos (s:=s) (i:=i) (by omega)
    have hr:=hide (show eEnd s l i=some (.mk 101 (q:Int) noB [] [],i+1) by unfold eEnd;rw[find_at _ q (bt s i) (by rw[List.getElem?_map,hd,hb];rfl) (by rw[← List.map_take];exact he)])
    replace hN:=hide hN
    clear hR1 hR hf A1 he htk hb
    go_wp2_with (go_at_call 114;refine hC.out.mono ?_;rintro e w2 ⟨rfl,hf2,h2⟩;have n1:=(hf2.blk hN.out (by omega)).cell 1;simp only[List.getElem?_cons_zero,List.getElem?_cons_succ] at n1;replace hf2:=hide hf2;replace h2:=hide h2)
    try go_ret
    rw[hPOST.out,hr.out]
    exact nok (.flat (.sym q c (by omega))) (hf1.out.trans hf2.out (fun _ _ e=>e)) h2.out hlt2
   ·have hC:=hide (ntake_no c (show RdAt _ br sv rv s i (!pl) from hR1) hs4 hil rfl hc0 hb)
    have he':=hide (show bt s i∉(l.take (q+1)).map Prod.fst by rw[htk,List.mem_append,List.mem_singleton];rintro(h|h);exact he h;exact hb h)
    clear hR1 hR hf A1 he htk hb hN
    go_wp2_with (go_at_call 114;refine hC.out.mono ?_;rintro e w2 ⟨rfl,hf2,h2⟩;replace hf2:=hide hf2;replace h2:=hide h2)
    go_roundg (l.length+1-(q+1))
    case measure=>omega
    case rel=>exact⟨q+1,rfl,hlt,Nat.le_refl _,hf1.out.trans hf2.out (fun _ _ e=>e),h2.out,he'.out⟩
  ·have hlt':¬ ((q:Int)<(l.length:Int)):=by omega
   rw[List.take_of_length_le (by omega)] at he
   have hr:=hide (show eEnd s l i=none by unfold eEnd;rw[find_none he])
   have e0:=(M.out.call hR hf hil).e
   replace hf:=hide hf
   replace hR:=hide hR
   clear he
   go_wp2_with fail
   go_quiet (fail)
   go_wp2_with fail
   try go_ret
   rw[hPOST.out,hr.out]
   exact nerr (hf.out.still (Still.drewN _ _)) (hR.out.still (Still.drewN _ _)) hil
open Go.RowKit
def itemsP {St:Type}(step:St→Nat→Option (St×Nat)) (s:ByteArray) (fin:Nat):Nat→St→Nat→Option (St×Nat)
 | 0,_,_=>none
 | n+1,σ,j=>
  match step σ j with
  | none=>none
  | some (σ',j')=>if bt s j'=fin then some (σ',j'+1) else if bt s j'=44 then itemsP step s fin n σ' (j'+1) else none
def listP {St:Type}(step:St→Nat→Option (St×Nat)) (s:ByteArray) (op fin:Nat) (σ:St) (i:Nat):Option (St×Nat):=
 if bt s i=op then (if bt s (i+1)=fin then some (σ,i+2) else itemsP step s fin (s.size+2) σ (i+1)) else none
structure ItemOK {St:Type}(sv rv:Value) (s:ByteArray) (nt:TypeId) (nx:Value) (pl:Bool) (br fid:Nat) (caps:Array Value) (step:St→Nat→Option (St×Nat)) (Inv:St→Nat→World→Prop) (Bad:Value→World→Prop):Prop where
 F:∀ W:World,(callFunc fid caps).run Tryz.prog W=.ok (.enter fid caps) W
 R:∀ {σ j W},Inv σ j W→RdAt W br sv rv s j (!pl)∧j≤s.size∧W.cell? ⟨3,0,none⟩=some (.iface nt nx)
 K:∀ {σ j j' W W'},Inv σ j W→RdAt W' br sv rv s j' (!pl)→Fr W W' (· = br)→j'≤s.size→j≤j'→Inv σ j' W'
 B:∀ {σ j W},Inv σ j W→Bad (.iface nt nx) W
 C:∀ {σ j W},Inv σ j W→Calls Tryz.prog fid caps W fun e W'=>∃ v,e=.returned v∧match step σ j with|some (σ',j')=>v=.nilIface∧j<j'∧Inv σ' j' W'|none=>(∃ T x,v=.iface T x)∧Bad v W'
def ItemsPost {St:Type}(Inv:St→Nat→World→Prop) (Bad:Value→World→Prop) (res:Option (St×Nat)) (e:Ending) (w':World):Prop:=
 ∃ v,e=.returned v∧match res with|some (σ,j)=>v=.nilIface∧Inv σ j w'|none=>(∃ T x,v=.iface T x)∧Bad v w'
set_option maxHeartbeats 8000000 in
set_option maxRecDepth 100000 in
theorem nitems_any {St:Type}{sv rv:Value}{s:ByteArray}{nt:TypeId}{nx:Value}{pl:Bool}{br fid:Nat}{caps:Array Value}{step:St→Nat→Option (St×Nat)}{Inv:St→Nat→World→Prop}{Bad:Value→World→Prop}(I:ItemOK sv rv s nt nx pl br fid caps step Inv Bad)
 {w:World} {σ:St} {i:Nat} {co cf:Int} (op fin:Nat) (hR:RdAt w br sv rv s i (!pl)) (hil:i≤s.size) (hS:∀ W',RdAt W' br sv rv s (i+1) (!pl)→Fr w W' (· = br)→i+1≤s.size→Inv σ (i+1) W') (hB0:∀ W',RdAt W' br sv rv s i (!pl)→Fr w W' (· = br)→Bad (.iface nt nx) W'∧W'.cell? ⟨3,0,none⟩=some (.iface nt nx)) (hs4:s.size≤4000) (hco:co=(op:Int)) (hcf:cf=(fin:Int)) (ho0:0<op) (hf0:0<fin) :
 Calls Tryz.prog 143 #[.pointer (some ⟨br,0,none⟩),.int .u8 co,.int .u8 cf,.func (.func fid) #[] caps] w (ItemsPost Inv Bad (listP step s op fin σ i)):=by
 subst hco
 subst hcf
 obtain⟨POST,hPOST⟩:∃ Q,Hid (Q=ItemsPost Inv Bad (listP step s op fin σ i)):=⟨_,rfl⟩
 rw[← hPOST.out]
 by_cases hop:bt s i=op
 case neg=>
  have hr:=hide (show listP step s op fin σ i=none by unfold listP;rw[if_neg hop])
  have hC:=hide (ntake_no op hR hs4 hil rfl ho0 hop)
  replace hB0:=hide hB0
  clear hR hop hS
  go_enter Tryz.func143,Tryz.ntmps143
  go_wp2_with (go_at_call 114;refine hC.out.mono ?_;rintro e w2 ⟨rfl,hf2,h2⟩;obtain⟨B2,e2⟩:=hB0.out w2 h2 hf2;replace B2:=hide B2;clear hf2 h2)
  try go_ret
  rw[hPOST.out,hr.out]
  exact⟨_,rfl,⟨_,_,rfl⟩,B2.out⟩
 case pos=>
 have hlt:i+1≤s.size:=bt_pos (s:=s) (i:=i) (by omega)
 have hC:=hide (ntake_yes op hR hs4 hil rfl ho0 hop)
 replace hS:=hide hS
 replace I:=hide I
 clear hB0
 by_cases hfin:bt s (i+1)=fin
 case pos=>
  have hlt2:i+1+1≤s.size:=bt_pos (s:=s) (i:=i+1) (by omega)
  have hr:=hide (show listP step s op fin σ i=some (σ,i+2) by unfold listP;rw[if_pos hop,if_pos hfin])
  have hC2:Hid (∀ w2,RdAt w2 br sv rv s (i+1) (!pl)→_):=hide (fun w2 h2=>ntake_yes (w:=w2) fin h2 hs4 hlt rfl hf0 hfin)
  clear hR hop hfin
  go_enter Tryz.func143,Tryz.ntmps143
  go_wp2_with (first
   |(go_at_call 114;refine hC.out.mono ?_;rintro e w2 ⟨rfl,hf2,h2⟩;have I2:=hS.out w2 h2 hf2 hlt;replace I2:=hide I2;clear hf2 hC;replace h2:=hide h2)
   |(go_at_call 114;refine(hC2.out w2 h2.out).mono ?_;rintro e w3 ⟨rfl,hf3,h3⟩;have I3:=I.out.K I2.out h3 hf3 hlt2 (by omega);replace I3:=hide I3;clear hf3 h3))
  try go_ret
  rw[hPOST.out,hr.out]
  exact⟨_,rfl,rfl,I3.out⟩
 case neg=>
  have hr:=hide (show listP step s op fin σ i=itemsP step s fin (s.size+2) σ (i+1) by unfold listP;rw[if_pos hop,if_neg hfin])
  have hC2:Hid (∀ w2,RdAt w2 br sv rv s (i+1) (!pl)→_):=hide (fun w2 h2=>ntake_no (w:=w2) fin h2 hs4 hlt rfl hf0 hfin)
  clear hR hop hfin
  go_enter Tryz.func143,Tryz.ntmps143
  go_wp2_with (first
   |(go_at_call 114;refine hC.out.mono ?_;rintro e w2 ⟨rfl,hf2,h2⟩;have I2:=hS.out w2 h2 hf2 hlt;replace I2:=hide I2;clear hf2 hC;replace h2:=hide h2)
   |(go_at_call 114;refine(hC2.out w2 h2.out).mono ?_;rintro e w3 ⟨rfl,hf3,h3⟩;have I3:=I.out.K I2.out h3 hf3 hlt (Nat.le_refl _);have start:∃ n σ' j,Inv σ' j w3∧s.size+1-j≤s.size+1∧s.size+1-j≤n∧listP step s op fin σ i=itemsP step s fin n σ' j:=⟨s.size+2,σ,i+1,I3,(by omega),(by omega),hr.out⟩;replace start:=hide start;clear I3 hf3 h3 I2 hr))
  go_loopg [] (s.size+1) (fun m W=>∃ n σ' j,Inv σ' j W∧s.size+1-j≤m∧s.size+1-j≤n∧listP step s op fin σ i=itemsP step s fin n σ' j)
  case atStart=>exact start.out
  case round=>
   clear start
   have hcf:=I.out.F
   obtain⟨n,σ1,j,hI,hm,hn,hr⟩:=hrel
   obtain⟨hR,hjl,hE⟩:=I.out.R hI
   have hCc:=I.out.C hI
   obtain⟨n',rfl⟩:∃ n',n=n'+1:=⟨n-1,by omega⟩
   rw[itemsP] at hr
   cases hst:step σ1 j with
   | none=>
    rw[hst] at hr hCc
    replace hr:=hide hr
    replace hCc:=hide hCc
    clear hR hE hI hst
    go_wp2_with (refine hCc.out.mono ?_;rintro e w5 ⟨v5,rfl,⟨vT,vx,rfl⟩,hB⟩;replace hB:=hide hB;clear hCc)
    try go_ret
    rw[hPOST.out,hr.out]
    exact⟨_,rfl,⟨_,_,rfl⟩,hB.out⟩
   | some q=>
    obtain⟨σ2,j2⟩:=q
    rw[hst] at hr hCc
    simp only at hr
    replace hCc:=hide hCc
    clear hR hE hI hst
    by_cases hbf:bt s j2=fin
    ·rw[if_pos hbf] at hr
     replace hr:=hide hr
     have hlt2:j2+1≤s.size:=bt_pos (s:=s) (i:=j2) (by omega)
     replace hbf:=hide hbf
     go_wp2_with (first
      |(refine hCc.out.mono ?_;rintro e w5 ⟨v5,rfl,rfl,hjj,hI5⟩;have hR5:=(I.out.R hI5).1;have hj5:=(I.out.R hI5).2.1;replace hI5:=hide hI5;replace hR5:=hide hR5;clear hCc)
      |(go_at_call 114;refine(ntake_yes fin hR5.out hs4 hj5 rfl hf0 hbf.out).mono ?_;rintro e w6 ⟨rfl,hf6,h6⟩;have I6:=I.out.K hI5.out h6 hf6 hlt2 (by omega);replace I6:=hide I6;clear hf6 h6))
     try go_ret
     rw[hPOST.out,hr.out]
     exact⟨_,rfl,rfl,I6.out⟩
    ·rw[if_neg hbf] at hr
     by_cases hb44:bt s j2=44
     ·rw[if_pos hb44] at hr
      replace hr:=hide hr
      have hlt2:j2+1≤s.size:=bt_pos (s:=s) (i:=j2) (by omega)
      replace hbf:=hide hbf
      replace hb44:=hide hb44
      go_wp2_with (first
       |(refine hCc.out.mono ?_;rintro e w5 ⟨v5,rfl,rfl,hjj,hI5⟩;have hR5:=(I.out.R hI5).1;have hj5:=(I.out.R hI5).2.1;replace hI5:=hide hI5;replace hR5:=hide hR5;clear hCc)
       |(go_at_call 114;refine(ntake_no fin hR5.out hs4 hj5 rfl hf0 hbf.out).mono ?_;rintro e w6 ⟨rfl,hf6,h6⟩;have I6:=I.out.K hI5.out h6 hf6 hj5 (Nat.le_refl _);have hR6:=(I.out.R I6).1;replace I6:=hide I6;replace hR6:=hide hR6;clear hf6 h6 hR5)
       |(go_at_call 114;refine(ntake_yes 44 hR6.out hs4 hj5 rfl (by decide) hb44.out).mono ?_;rintro e w7 ⟨rfl,hf7,h7⟩;have I7:=I.out.K I6.out h7 hf7 hlt2 (by omega);replace I7:=hide I7;clear hf7 h7))
      go_roundg (s.size+1-(j2+1))
      case measure=>omega
      case rel=>exact⟨n',σ2,j2+1,I7.out,Nat.le_refl _,by omega,hr.out⟩
     ·rw[if_neg hb44] at hr
      replace hr:=hide hr
      replace hbf:=hide hbf
      replace hb44:=hide hb44
      go_wp2_with (first
       |(refine hCc.out.mono ?_;rintro e w5 ⟨v5,rfl,rfl,hjj,hI5⟩;have hR5:=(I.out.R hI5).1;have hj5:=(I.out.R hI5).2.1;replace hI5:=hide hI5;replace hR5:=hide hR5;clear hCc)
       |(go_at_call 114;refine(ntake_no fin hR5.out hs4 hj5 rfl hf0 hbf.out).mono ?_;rintro e w6 ⟨rfl,hf6,h6⟩;have I6:=I.out.K hI5.out h6 hf6 hj5 (Nat.le_refl _);have hR6:=(I.out.R I6).1;replace I6:=hide I6;replace hR6:=hide hR6;clear hf6 h6 hR5)
       |(go_at_call 114;refine(ntake_no 44 hR6.out hs4 hj5 rfl (by decide) hb44.out).mono ?_;rintro e w7 ⟨rfl,hf7,h7⟩;have I7:=I.out.K I6.out h7 hf7 hj5 (Nat.le_refl _);have e7:=(I.out.R I7).2.2;replace I7:=hide I7;clear hf7 h7))
      try go_ret
      rw[hPOST.out,hr.out]
      exact⟨_,rfl,⟨_,_,rfl⟩,I.out.B I7.out⟩
end Go.Proofs.YtiifagiebikmdaaGreatDoor
