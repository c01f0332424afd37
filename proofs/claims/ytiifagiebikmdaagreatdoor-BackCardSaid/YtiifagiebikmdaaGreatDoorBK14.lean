import Derived.Test.YtiifagiebikmdaaGreatDoorBK03
import Derived.Test.YtiifagiebikmdaaGreatDoorBK01
import Derived.Test.YtiifagiebikmdaaGreatDoorBK07
import Derived.Test.YtiifagiebikmdaaGreatDoorBK02
namespace Go.Proofs.YtiifagiebikmdaaGreatDoor
open Go.RowKit
def PAt (w:World) (bp:Nat) (s:ByteArray) (i:Nat):Prop:=Blk w bp [.string s,.int .i64 (i:Int)] 109
section
variable {w w':World} {bp:Nat} {s:ByteArray} {i:Nat}
theorem PAt.c0 (h:PAt w bp s i):w.cell? ⟨bp,0,none⟩=some (.string s):=by rw[Blk.cell h];rfl
theorem PAt.c1 (h:PAt w bp s i):w.cell? ⟨bp,1,none⟩=some (.int .i64 (i:Int)):=by rw[Blk.cell h];rfl
theorem PAt.thaw (h:PAt w bp s i) (o:Nat):w.frozen? ⟨bp,o,none⟩=false:=Blk.thaw h o
theorem PAt.still (h:PAt w bp s i) (hw:Still w w'):PAt w' bp s i:=by obtain⟨n,rfl⟩:=hw;exact h
theorem PAt.inc (h:PAt w bp s i):PAt (w.setCell ⟨bp,1,none⟩ (.int .i64 ((i:Int)+1))) bp s (i+1):=Blk.set h 1 _
end
set_option maxHeartbeats 400000 in
theorem pspot_any {w:World}{bp:Nat}{s:ByteArray}{i:Nat}(h:PAt w bp s i) :
 Calls Tryz.prog 103 #[.pointer (some ⟨bp,0,none⟩)] w fun e w'=>e=.returned (.int .i64 (i:Int))∧w'=w:=by
 have c1:=h.c1
 go_enter Tryz.func103,Tryz.ntmps103
 go_wp2
 go_ret
 exact⟨rfl,rfl⟩
set_option maxHeartbeats 400000 in
theorem pisName_any (c:Nat) (w:World) :
 Calls Tryz.prog 101 #[.int .u8 (c:Int)] w fun e w'=>e=.returned (.bool (isName c))∧w'=w:=by
 have hb:isName c=(decide ((65:Int)≤(c:Int))&&decide ((c:Int)≤70)):=by
  unfold isName
  rw[show decide ((65:Int)≤(c:Int))=decide (65≤c) by congr 1;exact propext (by omega),show decide ((c:Int)≤70)=decide (c≤70) by congr 1;exact propext (by omega)]
 rw[hb]
 by_cases h1:(65:Int)≤(c:Int)
 ·go_enter Tryz.func101,Tryz.ntmps101
  go_wp2
  go_ret
  exact⟨by simp[h1],rfl⟩
 ·go_enter Tryz.func101,Tryz.ntmps101
  go_wp2
  go_ret
  exact⟨by simp;omega,rfl⟩
set_option maxHeartbeats 400000 in
theorem ppeek_any {w:World}{bp:Nat}{s:ByteArray}{i:Nat}(h:PAt w bp s i) (_hs:s.size≤300) (hi:i≤s.size) :
 Calls Tryz.prog 102 #[.pointer (some ⟨bp,0,none⟩)] w fun e w'=>e=.returned (.int .u8 (bt s i:Int))∧Still w w':=by
 have c0:=h.c0
 have c1:=h.c1
 clear h
 by_cases hl:i<s.size
 ·have hl':(i:Int)<(s.size:Int):=by omega
  go_enter Tryz.func102,Tryz.ntmps102
  go_wp2
  go_quiet (fail)
  go_wp2
  go_quiet (fail)
  go_wp2
  go_ret
  exact⟨by simp[bt_eq s i hl],(Still.drewN _ _).trans (Still.drewN _ _)⟩
 ·have hl':¬ (i:Int)<(s.size:Int):=by omega
  go_enter Tryz.func102,Tryz.ntmps102
  go_wp2
  go_quiet (fail)
  go_wp2
  go_ret
  exact⟨by rw[bt_end (by omega)];rfl,_,rfl⟩
def PTake (w:World) (bp:Nat) (s:ByteArray) (i d:Nat) (b:Bool) (w':World):Prop:=
 Fr w w' (· = bp)∧((bt s i=d∧b=true∧PAt w' bp s (i+1)∧i<s.size)∨(bt s i≠d∧b=false∧PAt w' bp s i))
set_option maxHeartbeats 400000 in
theorem ptake_any {w:World}{bp:Nat}{s:ByteArray}{i:Nat}{c:Int}(d:Nat) (h:PAt w bp s i) (hs:s.size≤300) (hi:i≤s.size) (hd:c=(d:Int)) (hd0:0<d) :
 Calls Tryz.prog 106 #[.pointer (some ⟨bp,0,none⟩),.int .u8 c] w fun e w'=>∃ b,e=.returned (.bool b)∧PTake w bp s i d b w':=by
 subst hd
 obtain⟨x,hx⟩:∃ x,bt s i=x:=⟨_,rfl⟩
 by_cases hb:x=d
 ·subst hb
  replace hx:=hide hx
  go_enter Tryz.func106,Tryz.ntmps106
  go_wp2_with (go_at_call 102;refine(ppeek_any h hs hi).mono ?_;rintro e w' ⟨rfl,hw⟩;rw[hx.out];have h':=h.still hw;have c1:=h'.c1;have f1:=h'.thaw 1)
  go_ret
  exact⟨true,rfl,((Fr.refl w _).still hw).setCell _ _ (fun _=>rfl),.inl ⟨hx.out,rfl,h'.inc,bt_pos (by rw[hx.out];exact hd0)⟩⟩
 ·have hn:((x:Int) != (d:Int))=true:=by simp;omega
  replace hx:=hide hx
  go_enter Tryz.func106,Tryz.ntmps106
  go_wp2_with (go_at_call 102;refine(ppeek_any h hs hi).mono ?_;rintro e w' ⟨rfl,hw⟩;rw[hx.out];have h':=h.still hw)
  go_ret
  exact⟨false,rfl,(Fr.refl w _).still hw,.inr ⟨by rw[hx.out];exact hb,rfl,h'⟩⟩
theorem ptake_yes {w:World}{bp:Nat}{s:ByteArray}{i:Nat}{c:Int}(d:Nat) (h:PAt w bp s i) (hs:s.size≤300) (hi:i≤s.size) (hd:c=(d:Int)) (hd0:0<d) (hb:bt s i=d) :
 Calls Tryz.prog 106 #[.pointer (some ⟨bp,0,none⟩),.int .u8 c] w fun e w'=>e=.returned (.bool true)∧Fr w w' (· = bp)∧PAt w' bp s (i+1):=by
 refine(ptake_any d h hs hi hd hd0).mono ?_
 rintro e w' ⟨b,rfl,hf,hT⟩
 rcases hT with⟨_,rfl,h1,_⟩|⟨hn,_⟩
 ·exact⟨rfl,hf,h1⟩
 ·exact absurd hb hn
theorem ptake_no {w:World}{bp:Nat}{s:ByteArray}{i:Nat}{c:Int}(d:Nat) (h:PAt w bp s i) (hs:s.size≤300) (hi:i≤s.size) (hd:c=(d:Int)) (hd0:0<d) (hb:bt s i≠d) :
 Calls Tryz.prog 106 #[.pointer (some ⟨bp,0,none⟩),.int .u8 c] w fun e w'=>e=.returned (.bool false)∧Fr w w' (· = bp)∧PAt w' bp s i:=by
 refine(ptake_any d h hs hi hd hd0).mono ?_
 rintro e w' ⟨b,rfl,hf,hT⟩
 rcases hT with⟨hy,_⟩|⟨_,rfl,h1⟩
 ·exact absurd hy hb
 ·exact⟨rfl,hf,h1⟩
open Go.RowKit
def FaultAt (w:World) (lo:Nat) (v:Value) (p:Int) (ev:Value):Prop:=
 ∃ g,lo≤g∧v=.iface 139 (.pointer (some ⟨g,0,none⟩))∧Blk w g [.int .i64 p,ev] 141
set_option maxHeartbeats 1000000 in
theorem pwrong_any {w:World}{bp:Nat}{s:ByteArray}{i:Nat}{et:TypeId}{ex:Value}(h:PAt w bp s i) (hg:w.cell? ⟨0,0,none⟩=some (.iface et ex)) :
 Calls Tryz.prog 75 #[.pointer (some ⟨bp,0,none⟩)] w fun e w'=>∃ v,e=.returned v∧FaultAt w' w.heap.size v (i:Int) (.iface et ex)∧Fr w w' (fun _=>False):=by
 obtain⟨POST,hPOST⟩:∃ P,Hid (P=fun (e:Ending) (w':World)=>∃ v,e=.returned v∧FaultAt w' w.heap.size v (i:Int) (.iface et ex)∧Fr w w' (fun _=>False)):=⟨_,rfl⟩
 rw[← hPOST.out]
 have c1:=h.c1
 replace h:=hide h
 go_enter Tryz.func75,Tryz.ntmps75
 go_wp2_with fail
 refine wp_regionC 8 (fun W=>W.cell? ⟨bp,1,none⟩=some (.int .i64 (i:Int))∧W.cell? ⟨0,0,none⟩=some (.iface et ex)) (by kernel_rfl) ?_
 refine wpAnyC_take 0 ?v0 rfl (by kernel_rfl) (fun _ _ _ h=>h) (by kernel_rfl) ?y0 ?_
 case y0=>(rintro W ⟨h1,h2⟩;go_simp <;> rfl)
 refine wpAnyC_take 1 ?v1 rfl (by kernel_rfl) (fun _ _ _ h=>h) (by kernel_rfl) ?y1 ?_
 case y1=>(rintro W ⟨h1,h2⟩;go_simp <;> rfl)
 refine wpAnyC_take 2 ?v2 rfl (by kernel_rfl) (fun _ _ _ h=>h) (by kernel_rfl) ?y2 ?_
 case y2=>(rintro W ⟨h1,h2⟩;go_simp <;> rfl)
 refine wpAnyC_take 3 ?v3 rfl (by kernel_rfl) (fun _ _ _ h=>h) (by kernel_rfl) ?y3 ?_
 case y3=>(rintro W ⟨h1,h2⟩;go_simp <;> rfl)
 refine wpAnyC_take 4 ?v4 rfl (by kernel_rfl) (fun _ _ _ h=>h) (by kernel_rfl) ?y4 ?_
 case y4=>(rintro W ⟨h1,h2⟩;go_simp <;> rfl)
 refine wpAnyC_take 5 ?v5 rfl (by kernel_rfl) (fun _ _ _ h=>h) (by kernel_rfl) ?y5 ?_
 case y5=>(rintro W ⟨h1,h2⟩;go_simp <;> rfl)
 refine wpAnyC_one 6 rfl (by kernel_rfl) (fun _=>⟨c1,hg⟩) (fun K hK=>?_)
 go_simp
 refine hK _ _ ?_
 clear hK K
 have c1a:(w.drew.alloc (.cells #[.int .i64 (i:Int),.iface et ex] 141)).cell? ⟨bp,1,none⟩=some (.int .i64 (i:Int)):=by
  rw[World.cell?_alloc_past _ _ _ (World.block_lt_of_cell? w.drew ⟨bp,1,none⟩ c1)];exact c1
 have hga:(w.drew.alloc (.cells #[.int .i64 (i:Int),.iface et ex] 141)).cell? ⟨0,0,none⟩=some (.iface et ex):=by
  rw[World.cell?_alloc_past _ _ _ (World.block_lt_of_cell? w.drew ⟨0,0,none⟩ hg)];exact hg
 refine wpAnyC_one 7 rfl (by kernel_rfl) (fun _=>⟨c1a,hga⟩) (fun K hK=>?_)
 go_simp
 refine hK _ _ ?_
 clear hK K
 refine wpAnyC_one 8 rfl (by kernel_rfl) (fun _=>⟨c1a,hga⟩) (fun K hK=>?_)
 go_simp
 refine hK _ _ ?_
 clear hK K
 refine wpAnyC_done (by kernel_rfl) (fun hm=>absurd hm (by decide)) ?_ _
 go_wp2_with fail
 try go_ret
 rw[hPOST.out]
 exact⟨_,rfl,⟨w.heap.size,Nat.le_refl _,rfl,(Blk.new w _ _).drew⟩,((Fr.refl w _).alloc _).drew⟩
def Gram (w:World) (et:TypeId) (ex:Value):Prop:=w.cell? ⟨0,0,none⟩=some (.iface et ex)
theorem Gram.fr {w w':World}{et:TypeId}{ex:Value}{S:Nat→Prop}(h:Gram w et ex) (hf:Fr w w' S) (hS:¬ S 0):Gram w' et ex:=
 (World.cell?_of_block (a:=⟨0,0,none⟩) (hf.block _ (World.block_lt_of_cell? w ⟨0,0,none⟩ h) hS)).trans h
theorem FaultAt.fr {w w':World}{lo:Nat}{v:Value}{p:Int}{ev:Value}{S:Nat→Prop}(h:FaultAt w lo v p ev) (hf:Fr w w' S) (hS:∀ g,lo≤g→¬ S g):FaultAt w' lo v p ev:=by
 obtain⟨g,h1,h2,h3⟩:=h
 exact⟨g,h1,h2,hf.blk h3 (hS g h1)⟩
theorem FaultAt.less {w:World}{lo lo':Nat}{v:Value}{p:Int}{ev:Value}(h:FaultAt w lo v p ev) (hl:lo'≤lo):FaultAt w lo' v p ev:=by
 obtain⟨g,h1,h2⟩:=h
 exact⟨g,Nat.le_trans hl h1,h2⟩
def PExp (w:World) (bp:Nat) (s:ByteArray) (i d:Nat) (et:TypeId) (ex:Value) (v:Value) (w':World):Prop:=
 Fr w w' (· = bp)∧((bt s i=d∧v=.nilIface∧PAt w' bp s (i+1)∧i<s.size)∨(bt s i≠d∧FaultAt w' w.heap.size v (i:Int) (.iface et ex)∧PAt w' bp s i))
set_option maxHeartbeats 1000000 in
set_option maxRecDepth 100000 in
theorem pexpect_any {w:World}{bp:Nat}{s:ByteArray}{i:Nat}{et:TypeId}{ex:Value}{c:Int}(d:Nat) (h:PAt w bp s i) (hG:Gram w et ex) (hne:bp≠0) (hs:s.size≤300) (hi:i≤s.size) (hd:c=(d:Int)) (hd0:0<d) :
 Calls Tryz.prog 105 #[.pointer (some ⟨bp,0,none⟩),.int .u8 c] w fun e w'=>∃ v,e=.returned v∧PExp w bp s i d et ex v w':=by
 subst hd
 obtain⟨POST,hPOST⟩:∃ P,Hid (P=fun (e:Ending) (w':World)=>∃ v,e=.returned v∧PExp w bp s i d et ex v w'):=⟨_,rfl⟩
 rw[← hPOST.out]
 by_cases hb:bt s i=d
 ·have hC:=hide (ptake_yes d h hs hi rfl hd0 hb)
  have hlt:i<s.size:=bt_pos (by omega)
  replace hb:=hide hb
  replace h:=hide h
  replace hG:=hide hG
  go_enter Tryz.func105,Tryz.ntmps105
  go_wp2_with (go_at_call 106;refine hC.out.mono ?_;rintro e w1 ⟨rfl,hf,h1⟩;replace h1:=hide h1;replace hf:=hide hf)
  try go_ret
  rw[hPOST.out]
  exact⟨.nilIface,rfl,hf.out,.inl ⟨hb.out,rfl,h1.out,hlt⟩⟩
 ·have hC:=hide (ptake_no d h hs hi rfl hd0 hb)
  replace hb:=hide hb
  replace h:=hide h
  replace hG:=hide hG
  go_enter Tryz.func105,Tryz.ntmps105
  go_wp2_with (first
   |(go_at_call 106;refine hC.out.mono ?_;rintro e w1 ⟨rfl,hf,h1⟩;replace h1:=hide h1;replace hf:=hide hf)
   |(go_at_call 75;refine(pwrong_any h1.out (hG.out.fr hf.out (Ne.symm hne))).mono ?_;rintro e w2 ⟨v,rfl,hF,hf2⟩;replace hF:=hide hF;replace hf2:=hide hf2))
  try go_ret
  rw[hPOST.out]
  have hsz:=hf.out.size
  exact⟨v,rfl,hf.out.trans hf2.out (fun _ _ f=>f.elim),.inr ⟨hb.out,hF.out.less hsz,hf2.out.blk h1.out id⟩⟩
open Go.RowKit
def baseT (c:Nat):TypeId:=if c=110 then 198 else if c=116 then 199 else if c=105 then 200 else if c=108 then 201 else 202
def wrapT (c:Nat):TypeId:=if c=91 then 205 else 206
inductive TyV (w:World) (P:Nat→Prop):PT→Value→Prop
 | base (c p:Nat) (h:isBase c=true):TyV w P (.leaf c p) (.iface (baseT c) (.agg #[.int .i64 (p:Int)]))
 | name (c p:Nat) (h:isName c=true):TyV w P (.leaf c p) (.iface 209 (.agg #[.int .i64 (p:Int),.int .u8 (c:Int)]))
 | wrap (c p:Nat) {t:PT} {v:Value} (h:TyV w P t v):TyV w P (.wrap c p t) (.iface (wrapT c) (.agg #[.int .i64 (p:Int),v]))
 | alts (p:Nat) {l:List PT} {sv:Value} (X:Nat→Value) (ho:w.ownsRow 0 83 1 sv l.length ((List.range l.length).map X)) (hP:∀ g,sv.ownBlock=some g→P g) (h:∀ i t,l[i]?=some t→TyV w P t (X i)) :
  TyV w P (.alts p l) (.iface 220 (.agg #[.int .i64 (p:Int),sv]))
theorem TyV.mono {w:World}{P Q:Nat→Prop}{t:PT}{v:Value}(h:TyV w P t v) (hQ:∀ g,g<w.heap.size→P g→Q g):TyV w Q t v:=by
 induction h with
 | base c p h=>exact .base c p h
 | name c p h=>exact .name c p h
 | wrap c p h ih=>exact .wrap c p ih
 | alts p X ho hP h ih=>exact .alts p X ho (fun g e=>hQ g (ho.lt g e).2 (hP g e)) ih
theorem TyV.fr {w w':World}{P S:Nat→Prop}{t:PT}{v:Value}(h:TyV w P t v) (hf:Fr w w' S) (hS:∀ g,P g→¬ S g):TyV w' P t v:=by
 induction h with
 | base c p h=>exact .base c p h
 | name c p h=>exact .name c p h
 | wrap c p h ih=>exact .wrap c p ih
 | alts p X ho hP h ih=>exact .alts p X (ownsRow_fr ho hf (fun g e=>hS g (hP g e))) hP ih
def IfV (v:Value):Prop:=v=.nilIface∨∃ T x,v=.iface T x
def PTypPost (w:World) (bp:Nat) (s:ByteArray) (i:Nat) (et:TypeId) (ex:Value) (e:Ending) (w':World):Prop:=
 ∃ v ev,IfV v∧e=.returned (.tuple #[v,ev])∧Fr w w' (· = bp)∧
 match pT s i with
 | .ok (t,j)=>ev=.nilIface∧PAt w' bp s j∧TyV w' (fun g=>w.heap.size≤g) t v
 | .error k=>FaultAt w' w.heap.size ev (k:Int) (.iface et ex)∧∃ j,j≤s.size∧PAt w' bp s j
def PTypOK (s:ByteArray) (i:Nat):Prop:=∀ (w:World) (bp:Nat) (et:TypeId) (ex:Value),PAt w bp s i→Gram w et ex→bp≠0→
 Calls Tryz.prog 74 #[.pointer (some ⟨bp,0,none⟩)] w (PTypPost w bp s i et ex)
theorem ptake_yesI {w:World}{bp:Nat}{s:ByteArray}{i x:Nat}{c:Int}(h:PAt w bp s i) (hs:s.size≤300) (hi:i≤s.size) (hx:bt s i=x) (hc:(x:Int)=c) (h0:0<c) :
 Calls Tryz.prog 106 #[.pointer (some ⟨bp,0,none⟩),.int .u8 c] w fun e w'=>e=.returned (.bool true)∧Fr w w' (· = bp)∧PAt w' bp s (i+1):=
 ptake_yes x h hs hi hc.symm (by omega) hx
theorem ptake_noI {w:World}{bp:Nat}{s:ByteArray}{i x:Nat}{c:Int}(h:PAt w bp s i) (hs:s.size≤300) (hi:i≤s.size) (hx:bt s i=x) (hc:(x:Int)≠c) (h0:0<c) :
 Calls Tryz.prog 106 #[.pointer (some ⟨bp,0,none⟩),.int .u8 c] w fun e w'=>e=.returned (.bool false)∧Fr w w' (· = bp)∧PAt w' bp s i:=
 ptake_no c.toNat h hs hi (by omega) (by omega) (by rw[hx];omega)
theorem pT_base' {s:ByteArray}{i c:Nat}(h:bt s i=c) (hb:isBase c=true):pT s i=.ok (.leaf c i,i+1):=by
 rw[pT_eq]
 unfold stepT
 rw[h,if_pos hb]
set_option maxHeartbeats 4000000 in
set_option maxRecDepth 100000 in
theorem ptyp_110 {s:ByteArray}{i:Nat}(hs:s.size≤300) (hi:i≤s.size) (hx:bt s i=110):PTypOK s i:=by
 intro w bp et ex h hG hne
 obtain⟨POST,hPOST⟩:∃ P,Hid (P=PTypPost w bp s i et ex):=⟨_,rfl⟩
 rw[← hPOST.out]
 have H:=hide (And.intro h (Fr.refl w (fun x=>x=bp)))
 replace hx:=hide hx
 replace hG:=hide hG
 replace h:=hide h
 go_enter Tryz.func74,Tryz.ntmps74
 go_wp2_with (first
  |(go_at_call 103;refine(pspot_any H.out.1).mono ?_;rintro e w' ⟨rfl,hw'⟩;rw[hw'])
  |(go_at_call 102;refine(ppeek_any H.out.1 hs hi).mono ?_;rintro e w' ⟨rfl,hw'⟩;rw[hx.out];replace H:=hide (And.intro (H.out.1.still hw') (H.out.2.still hw'));clear hw')
  |(go_at_call 106;refine(ptake_yesI H.out.1 hs hi hx.out (by decide) (by decide)).mono ?_;rintro e w' ⟨rfl,hf',h'⟩;have H1:=hide (And.intro h' (H.out.2.trans hf' (fun _ _ e=>e)));clear hf' h')
  |(go_at_call 106;refine(ptake_noI H.out.1 hs hi hx.out (by decide) (by decide)).mono ?_;rintro e w' ⟨rfl,hf',h'⟩;replace H:=hide (And.intro h' (H.out.2.trans hf' (fun _ _ e=>e)));clear hf' h'))
 try go_ret
 rw[hPOST.out]
 refine⟨.iface (baseT 110) (.agg #[.int .i64 (i:Int)]),.nilIface,.inr ⟨_,_,rfl⟩,rfl,H1.out.2,?_⟩
 rw[pT_base' hx.out rfl]
 exact⟨rfl,H1.out.1,.base 110 i rfl⟩
set_option maxHeartbeats 4000000 in
set_option maxRecDepth 100000 in
theorem ptyp_116 {s:ByteArray}{i:Nat}(hs:s.size≤300) (hi:i≤s.size) (hx:bt s i=116):PTypOK s i:=by
 intro w bp et ex h hG hne
 obtain⟨POST,hPOST⟩:∃ P,Hid (P=PTypPost w bp s i et ex):=⟨_,rfl⟩
 rw[← hPOST.out]
 have H:=hide (And.intro h (Fr.refl w (fun x=>x=bp)))
 replace hx:=hide hx
 replace hG:=hide hG
 replace h:=hide h
 go_enter Tryz.func74,Tryz.ntmps74
 go_wp2_with (first
  |(go_at_call 103;refine(pspot_any H.out.1).mono ?_;rintro e w' ⟨rfl,hw'⟩;rw[hw'])
  |(go_at_call 102;refine(ppeek_any H.out.1 hs hi).mono ?_;rintro e w' ⟨rfl,hw'⟩;rw[hx.out];replace H:=hide (And.intro (H.out.1.still hw') (H.out.2.still hw'));clear hw')
  |(go_at_call 106;refine(ptake_yesI H.out.1 hs hi hx.out (by decide) (by decide)).mono ?_;rintro e w' ⟨rfl,hf',h'⟩;have H1:=hide (And.intro h' (H.out.2.trans hf' (fun _ _ e=>e)));clear hf' h')
  |(go_at_call 106;refine(ptake_noI H.out.1 hs hi hx.out (by decide) (by decide)).mono ?_;rintro e w' ⟨rfl,hf',h'⟩;replace H:=hide (And.intro h' (H.out.2.trans hf' (fun _ _ e=>e)));clear hf' h'))
 try go_ret
 rw[hPOST.out]
 refine⟨.iface (baseT 116) (.agg #[.int .i64 (i:Int)]),.nilIface,.inr ⟨_,_,rfl⟩,rfl,H1.out.2,?_⟩
 rw[pT_base' hx.out rfl]
 exact⟨rfl,H1.out.1,.base 116 i rfl⟩
set_option maxHeartbeats 4000000 in
set_option maxRecDepth 100000 in
theorem ptyp_105 {s:ByteArray}{i:Nat}(hs:s.size≤300) (hi:i≤s.size) (hx:bt s i=105):PTypOK s i:=by
 intro w bp et ex h hG hne
 obtain⟨POST,hPOST⟩:∃ P,Hid (P=PTypPost w bp s i et ex):=⟨_,rfl⟩
 rw[← hPOST.out]
 have H:=hide (And.intro h (Fr.refl w (fun x=>x=bp)))
 replace hx:=hide hx
 replace hG:=hide hG
 replace h:=hide h
 go_enter Tryz.func74,Tryz.ntmps74
 go_wp2_with (first
  |(go_at_call 103;refine(pspot_any H.out.1).mono ?_;rintro e w' ⟨rfl,hw'⟩;rw[hw'])
  |(go_at_call 102;refine(ppeek_any H.out.1 hs hi).mono ?_;rintro e w' ⟨rfl,hw'⟩;rw[hx.out];replace H:=hide (And.intro (H.out.1.still hw') (H.out.2.still hw'));clear hw')
  |(go_at_call 106;refine(ptake_yesI H.out.1 hs hi hx.out (by decide) (by decide)).mono ?_;rintro e w' ⟨rfl,hf',h'⟩;have H1:=hide (And.intro h' (H.out.2.trans hf' (fun _ _ e=>e)));clear hf' h')
  |(go_at_call 106;refine(ptake_noI H.out.1 hs hi hx.out (by decide) (by decide)).mono ?_;rintro e w' ⟨rfl,hf',h'⟩;replace H:=hide (And.intro h' (H.out.2.trans hf' (fun _ _ e=>e)));clear hf' h'))
 try go_ret
 rw[hPOST.out]
 refine⟨.iface (baseT 105) (.agg #[.int .i64 (i:Int)]),.nilIface,.inr ⟨_,_,rfl⟩,rfl,H1.out.2,?_⟩
 rw[pT_base' hx.out rfl]
 exact⟨rfl,H1.out.1,.base 105 i rfl⟩
set_option maxHeartbeats 4000000 in
set_option maxRecDepth 100000 in
theorem ptyp_108 {s:ByteArray}{i:Nat}(hs:s.size≤300) (hi:i≤s.size) (hx:bt s i=108):PTypOK s i:=by
 intro w bp et ex h hG hne
 obtain⟨POST,hPOST⟩:∃ P,Hid (P=PTypPost w bp s i et ex):=⟨_,rfl⟩
 rw[← hPOST.out]
 have H:=hide (And.intro h (Fr.refl w (fun x=>x=bp)))
 replace hx:=hide hx
 replace hG:=hide hG
 replace h:=hide h
 go_enter Tryz.func74,Tryz.ntmps74
 go_wp2_with (first
  |(go_at_call 103;refine(pspot_any H.out.1).mono ?_;rintro e w' ⟨rfl,hw'⟩;rw[hw'])
  |(go_at_call 102;refine(ppeek_any H.out.1 hs hi).mono ?_;rintro e w' ⟨rfl,hw'⟩;rw[hx.out];replace H:=hide (And.intro (H.out.1.still hw') (H.out.2.still hw'));clear hw')
  |(go_at_call 106;refine(ptake_yesI H.out.1 hs hi hx.out (by decide) (by decide)).mono ?_;rintro e w' ⟨rfl,hf',h'⟩;have H1:=hide (And.intro h' (H.out.2.trans hf' (fun _ _ e=>e)));clear hf' h')
  |(go_at_call 106;refine(ptake_noI H.out.1 hs hi hx.out (by decide) (by decide)).mono ?_;rintro e w' ⟨rfl,hf',h'⟩;replace H:=hide (And.intro h' (H.out.2.trans hf' (fun _ _ e=>e)));clear hf' h'))
 try go_ret
 rw[hPOST.out]
 refine⟨.iface (baseT 108) (.agg #[.int .i64 (i:Int)]),.nilIface,.inr ⟨_,_,rfl⟩,rfl,H1.out.2,?_⟩
 rw[pT_base' hx.out rfl]
 exact⟨rfl,H1.out.1,.base 108 i rfl⟩
set_option maxHeartbeats 4000000 in
set_option maxRecDepth 100000 in
theorem ptyp_115 {s:ByteArray}{i:Nat}(hs:s.size≤300) (hi:i≤s.size) (hx:bt s i=115):PTypOK s i:=by
 intro w bp et ex h hG hne
 obtain⟨POST,hPOST⟩:∃ P,Hid (P=PTypPost w bp s i et ex):=⟨_,rfl⟩
 rw[← hPOST.out]
 have H:=hide (And.intro h (Fr.refl w (fun x=>x=bp)))
 replace hx:=hide hx
 replace hG:=hide hG
 replace h:=hide h
 go_enter Tryz.func74,Tryz.ntmps74
 go_wp2_with (first
  |(go_at_call 103;refine(pspot_any H.out.1).mono ?_;rintro e w' ⟨rfl,hw'⟩;rw[hw'])
  |(go_at_call 102;refine(ppeek_any H.out.1 hs hi).mono ?_;rintro e w' ⟨rfl,hw'⟩;rw[hx.out];replace H:=hide (And.intro (H.out.1.still hw') (H.out.2.still hw'));clear hw')
  |(go_at_call 106;refine(ptake_yesI H.out.1 hs hi hx.out (by decide) (by decide)).mono ?_;rintro e w' ⟨rfl,hf',h'⟩;have H1:=hide (And.intro h' (H.out.2.trans hf' (fun _ _ e=>e)));clear hf' h')
  |(go_at_call 106;refine(ptake_noI H.out.1 hs hi hx.out (by decide) (by decide)).mono ?_;rintro e w' ⟨rfl,hf',h'⟩;replace H:=hide (And.intro h' (H.out.2.trans hf' (fun _ _ e=>e)));clear hf' h'))
 try go_ret
 rw[hPOST.out]
 refine⟨.iface (baseT 115) (.agg #[.int .i64 (i:Int)]),.nilIface,.inr ⟨_,_,rfl⟩,rfl,H1.out.2,?_⟩
 rw[pT_base' hx.out rfl]
 exact⟨rfl,H1.out.1,.base 115 i rfl⟩
open Go.RowKit
set_option maxHeartbeats 4000000 in
set_option maxRecDepth 100000 in
theorem ptyp_name {s:ByteArray}{i:Nat}(hs:s.size≤300) (hi:i≤s.size) (hn:isName (bt s i)=true):PTypOK s i:=by
 intro w bp et ex h hG hne
 obtain⟨POST,hPOST⟩:∃ P,Hid (P=PTypPost w bp s i et ex):=⟨_,rfl⟩
 rw[← hPOST.out]
 have H:=hide (And.intro h (Fr.refl w (fun x=>x=bp)))
 have hpT:=hide (show pT s i=.ok (.leaf (bt s i) i,i+1) from pT_name (by simpa[isName] using hn))
 obtain⟨x,hx⟩:∃ x,bt s i=x:=⟨_,rfl⟩
 rw[hx] at hn hpT
 have hxr:65≤x∧x≤70:=by simpa[isName] using hn
 have hlt:i<s.size:=bt_pos (by omega)
 replace hx:=hide hx
 replace hG:=hide hG
 replace h:=hide h
 replace hn:=hide hn
 go_enter Tryz.func74,Tryz.ntmps74
 go_wp2_with (first
  |(go_at_call 103;refine(pspot_any H.out.1).mono ?_;rintro e w' ⟨rfl,hw'⟩;rw[hw'])
  |(go_at_call 102;refine(ppeek_any H.out.1 hs hi).mono ?_;rintro e w' ⟨rfl,hw'⟩;rw[hx.out];replace H:=hide (And.intro (H.out.1.still hw') (H.out.2.still hw'));clear hw')
  |(go_at_call 106;refine(ptake_noI H.out.1 hs hi hx.out (by omega) (by decide)).mono ?_;rintro e w' ⟨rfl,hf',h'⟩;replace H:=hide (And.intro h' (H.out.2.trans hf' (fun _ _ e=>e)));clear hf' h')
  |(go_at_call 101;refine(pisName_any x _).mono ?_;rintro e w' ⟨rfl,hw'⟩;rw[hw',hn.out];clear hw';have c1:=H.out.1.c1;have f1:=H.out.1.thaw 1))
 try go_ret
 rw[hPOST.out]
 refine⟨.iface 209 (.agg #[.int .i64 (i:Int),.int .u8 (x:Int)]),.nilIface,.inr ⟨_,_,rfl⟩,rfl,H.out.2.setCell _ _ (fun _=>rfl),?_⟩
 rw[hpT.out]
 exact⟨rfl,H.out.1.inc,.name x i hn.out⟩
open Go.RowKit
set_option maxHeartbeats 4000000 in
set_option maxRecDepth 100000 in
theorem ptyp_bad {s:ByteArray}{i:Nat}(hs:s.size≤300) (hi:i≤s.size) (h1:¬ isBase (bt s i)=true) (h2:¬ (bt s i=91∨bt s i=123)) (h3:¬ bt s i=40) (h4:¬ (65≤bt s i∧bt s i≤70)):PTypOK s i:=by
 intro w bp et ex h hG hne
 obtain⟨POST,hPOST⟩:∃ P,Hid (P=PTypPost w bp s i et ex):=⟨_,rfl⟩
 rw[← hPOST.out]
 have H:=hide (And.intro h (Fr.refl w (fun x=>x=bp)))
 have hpT:=hide (pT_bad h1 h2 h3 h4)
 obtain⟨x,hx⟩:∃ x,bt s i=x:=⟨_,rfl⟩
 rw[hx] at h1 h2 h3 h4
 have hn:Hid (isName x=false):=hide (by
  cases hc:isName x with
  | false=>rfl
  | true=>exact absurd (by simpa[isName] using hc) h4)
 simp only[isBase,Bool.or_eq_true,beq_iff_eq,not_or] at h1
 have hall:x≠110∧x≠116∧x≠105∧x≠108∧x≠115∧x≠91∧x≠123∧x≠40:=by omega
 clear h1 h2 h3 h4
 replace hx:=hide hx
 replace hG:=hide hG
 replace h:=hide h
 go_enter Tryz.func74,Tryz.ntmps74
 go_wp2_with (first
  |(go_at_call 103;refine(pspot_any H.out.1).mono ?_;rintro e w' ⟨rfl,hw'⟩;rw[hw'])
  |(go_at_call 102;refine(ppeek_any H.out.1 hs hi).mono ?_;rintro e w' ⟨rfl,hw'⟩;rw[hx.out];replace H:=hide (And.intro (H.out.1.still hw') (H.out.2.still hw'));clear hw')
  |(go_at_call 106;refine(ptake_noI H.out.1 hs hi hx.out (by omega) (by decide)).mono ?_;rintro e w' ⟨rfl,hf',h'⟩;replace H:=hide (And.intro h' (H.out.2.trans hf' (fun _ _ e=>e)));clear hf' h')
  |(go_at_call 101;refine(pisName_any x _).mono ?_;rintro e w' ⟨rfl,hw'⟩;rw[hw',hn.out];clear hw')
  |(go_at_call 75;refine(pwrong_any H.out.1 (hG.out.fr H.out.2 (Ne.symm hne))).mono ?_;rintro e w2 ⟨v,rfl,hF,hf2⟩;replace hF:=hide hF;replace hf2:=hide hf2))
 try go_ret
 rw[hPOST.out]
 have hsz:=H.out.2.size
 refine⟨.nilIface,v,.inl rfl,rfl,H.out.2.trans hf2.out (fun _ _ f=>f.elim),?_⟩
 rw[hpT.out]
 exact⟨hF.out.less hsz,i,hi,hf2.out.blk H.out.1 id⟩
def PItemPost (w:World) (bp:Nat) (s:ByteArray) (i d:Nat) (et:TypeId) (ex:Value) (e:Ending) (w':World):Prop:=
 ∃ v ev,IfV v∧e=.returned (.tuple #[v,ev])∧Fr w w' (· = bp)∧
 match pT s i with
 | .ok (t,j)=>if bt s j=d then ev=.nilIface∧PAt w' bp s (j+1)∧TyV w' (fun g=>w.heap.size≤g) t v else FaultAt w' w.heap.size ev (j:Int) (.iface et ex)∧∃ j,j≤s.size∧PAt w' bp s j
 | .error k=>FaultAt w' w.heap.size ev (k:Int) (.iface et ex)∧∃ j,j≤s.size∧PAt w' bp s j
set_option maxHeartbeats 4000000 in
set_option maxRecDepth 100000 in
theorem pitem_any {w:World}{bp:Nat}{s:ByteArray}{i:Nat}{et:TypeId}{ex:Value}{c:Int}(d:Nat) (hT:PTypOK s i) (h:PAt w bp s i) (hG:Gram w et ex) (hne:bp≠0) (hs:s.size≤300) (hi:i≤s.size) (hd:c=(d:Int)) (hd0:0<d) :
 Calls Tryz.prog 107 #[.pointer (some ⟨bp,0,none⟩),.int .u8 c] w (PItemPost w bp s i d et ex):=by
 subst hd
 obtain⟨POST,hPOST⟩:∃ P,Hid (P=PItemPost w bp s i d et ex):=⟨_,rfl⟩
 rw[← hPOST.out]
 have hC:=hide (hT w bp et ex h hG hne)
 have hbd:=pT_bounds (s:=s) hi
 cases hp:pT s i with
 | error k=>
  replace hp:=hide hp
  replace hG:=hide hG
  clear hbd h
  go_enter Tryz.func107,Tryz.ntmps107
  go_wp2_with (go_at_call 74;refine hC.out.mono ?_;rintro e w1 ⟨v,ev,_,rfl,hf,hm⟩;rw[hp.out] at hm;obtain⟨⟨g,hg1,rfl,hg2⟩,j1,hj1,h1⟩:=hm;replace hf:=hide hf;replace h1:=hide h1;replace hg2:=hide hg2)
  try go_ret
  rw[hPOST.out]
  refine⟨.nilIface,_,.inl rfl,rfl,hf.out,?_⟩
  rw[hp.out]
  exact⟨⟨g,hg1,rfl,hg2.out⟩,j1,hj1,h1.out⟩
 | ok r=>
  obtain⟨t,j⟩:=r
  have hj:=hbd.1 t j hp
  have hbp:=h.lt
  replace hp:=hide hp
  replace hG:=hide hG
  clear hbd h
  go_enter Tryz.func107,Tryz.ntmps107
  go_wp2_with (first
   |(go_at_call 74;refine hC.out.mono ?_;rintro e w1 ⟨v,ev,hI,rfl,hf,hm⟩;rw[hp.out] at hm;obtain⟨rfl,h1,hv⟩:=hm;replace hI:=hide hI;replace hf:=hide hf;replace h1:=hide h1;replace hv:=hide hv)
   |(go_at_call 105;refine(pexpect_any d h1.out (hG.out.fr hf.out (Ne.symm hne)) hne hs hj.2 rfl hd0).mono ?_;rintro e w2 ⟨v2,rfl,hf2,hE⟩;replace hf2:=hide hf2;replace hE:=hide hE))
  try go_ret
  rw[hPOST.out]
  have hsz:=hf.out.size
  refine⟨v,v2,hI.out,rfl,hf.out.trans hf2.out (fun _ _ e=>e),?_⟩
  rw[hp.out]
  rcases hE.out with⟨hb,rfl,h2,_⟩|⟨hb,hF,h2⟩
  ·show(if bt s j=d then _ else _)
   rw[if_pos hb]
   exact⟨rfl,h2,hv.out.fr hf2.out (fun g hg e=>by omega)⟩
  ·show(if bt s j=d then _ else _)
   rw[if_neg hb]
   exact⟨hF.less hsz,j,hj.2,h2⟩
set_option maxHeartbeats 4000000 in
set_option maxRecDepth 100000 in
theorem ptyp_91 {s:ByteArray}{i:Nat}(hs:s.size≤300) (hi:i≤s.size) (hx:bt s i=91) (hT:PTypOK s (i+1)):PTypOK s i:=by
 intro w bp et ex h hG hne
 obtain⟨POST,hPOST⟩:∃ P,Hid (P=PTypPost w bp s i et ex):=⟨_,rfl⟩
 rw[← hPOST.out]
 have H:=hide (And.intro h (Fr.refl w (fun x=>x=bp)))
 have hlt:i<s.size:=bt_pos (by omega)
 have hpT:=hide (pT_wrap (s:=s) (i:=i) (by omega))
 have hbp:=h.lt
 replace hx:=hide hx
 replace hG:=hide hG
 replace h:=hide h
 replace hT:=hide hT
 go_enter Tryz.func74,Tryz.ntmps74
 go_wp2_with (first
  |(go_at_call 103;refine(pspot_any H.out.1).mono ?_;rintro e w' ⟨rfl,hw'⟩;rw[hw'])
  |(go_at_call 102;refine(ppeek_any H.out.1 hs hi).mono ?_;rintro e w' ⟨rfl,hw'⟩;rw[hx.out];replace H:=hide (And.intro (H.out.1.still hw') (H.out.2.still hw'));clear hw')
  |(go_at_call 106;refine(ptake_yesI H.out.1 hs hi hx.out (by decide) (by decide)).mono ?_;rintro e w' ⟨rfl,hf',h'⟩;have H1:=hide (And.intro h' (H.out.2.trans hf' (fun _ _ e=>e)));clear hf' h')
  |(go_at_call 106;refine(ptake_noI H.out.1 hs hi hx.out (by decide) (by decide)).mono ?_;rintro e w' ⟨rfl,hf',h'⟩;replace H:=hide (And.intro h' (H.out.2.trans hf' (fun _ _ e=>e)));clear hf' h')
  |(go_at_call 107;refine(pitem_any 93 hT.out H1.out.1 (hG.out.fr H1.out.2 (Ne.symm hne)) hne hs hlt rfl (by decide)).mono ?_;rintro e w3 ⟨v,ev,hI,rfl,hf3,hm⟩;replace hf3:=hide hf3;replace hm:=hide hm;rcases hI with rfl|⟨vT,vx,rfl⟩))
 all_goals
  try go_ret
  rw[hPOST.out]
  have hsz:=H1.out.2.size
  refine⟨.iface (wrapT 91) (.agg #[.int .i64 (i:Int),_]),ev,.inr ⟨_,_,rfl⟩,rfl,H1.out.2.trans hf3.out (fun _ _ e=>e),?_⟩
  rw[hpT.out]
  have hm':=hm.out
  cases hp:pT s (i+1) with
  | error k=>
   rw[hp] at hm'
   exact⟨hm'.1.less hsz,hm'.2⟩
  | ok r=>
   obtain⟨t,j⟩:=r
   rw[hp] at hm'
   simp only at hm'⊢
   rw[hx.out]
   by_cases hb:bt s j=93
   ·rw[if_pos hb] at hm'
    rw[show closing 91=93 from rfl,if_pos hb]
    obtain⟨rfl,h2,hv⟩:=hm'
    exact⟨rfl,h2,.wrap 91 i (hv.mono (fun g _ hg=>Nat.le_trans hsz hg))⟩
   ·rw[if_neg hb] at hm'
    rw[show closing 91=93 from rfl,if_neg hb]
    exact⟨hm'.1.less hsz,hm'.2⟩
set_option maxHeartbeats 4000000 in
set_option maxRecDepth 100000 in
theorem ptyp_123 {s:ByteArray}{i:Nat}(hs:s.size≤300) (hi:i≤s.size) (hx:bt s i=123) (hT:PTypOK s (i+1)):PTypOK s i:=by
 intro w bp et ex h hG hne
 obtain⟨POST,hPOST⟩:∃ P,Hid (P=PTypPost w bp s i et ex):=⟨_,rfl⟩
 rw[← hPOST.out]
 have H:=hide (And.intro h (Fr.refl w (fun x=>x=bp)))
 have hlt:i<s.size:=bt_pos (by omega)
 have hpT:=hide (pT_wrap (s:=s) (i:=i) (by omega))
 have hbp:=h.lt
 replace hx:=hide hx
 replace hG:=hide hG
 replace h:=hide h
 replace hT:=hide hT
 go_enter Tryz.func74,Tryz.ntmps74
 go_wp2_with (first
  |(go_at_call 103;refine(pspot_any H.out.1).mono ?_;rintro e w' ⟨rfl,hw'⟩;rw[hw'])
  |(go_at_call 102;refine(ppeek_any H.out.1 hs hi).mono ?_;rintro e w' ⟨rfl,hw'⟩;rw[hx.out];replace H:=hide (And.intro (H.out.1.still hw') (H.out.2.still hw'));clear hw')
  |(go_at_call 106;refine(ptake_yesI H.out.1 hs hi hx.out (by decide) (by decide)).mono ?_;rintro e w' ⟨rfl,hf',h'⟩;have H1:=hide (And.intro h' (H.out.2.trans hf' (fun _ _ e=>e)));clear hf' h')
  |(go_at_call 106;refine(ptake_noI H.out.1 hs hi hx.out (by decide) (by decide)).mono ?_;rintro e w' ⟨rfl,hf',h'⟩;replace H:=hide (And.intro h' (H.out.2.trans hf' (fun _ _ e=>e)));clear hf' h')
  |(go_at_call 107;refine(pitem_any 125 hT.out H1.out.1 (hG.out.fr H1.out.2 (Ne.symm hne)) hne hs hlt rfl (by decide)).mono ?_;rintro e w3 ⟨v,ev,hI,rfl,hf3,hm⟩;replace hf3:=hide hf3;replace hm:=hide hm;rcases hI with rfl|⟨vT,vx,rfl⟩))
 all_goals
  try go_ret
  rw[hPOST.out]
  have hsz:=H1.out.2.size
  refine⟨.iface (wrapT 123) (.agg #[.int .i64 (i:Int),_]),ev,.inr ⟨_,_,rfl⟩,rfl,H1.out.2.trans hf3.out (fun _ _ e=>e),?_⟩
  rw[hpT.out]
  have hm':=hm.out
  cases hp:pT s (i+1) with
  | error k=>
   rw[hp] at hm'
   exact⟨hm'.1.less hsz,hm'.2⟩
  | ok r=>
   obtain⟨t,j⟩:=r
   rw[hp] at hm'
   simp only at hm'⊢
   rw[hx.out]
   by_cases hb:bt s j=125
   ·rw[if_pos hb] at hm'
    rw[show closing 123=125 from rfl,if_pos hb]
    obtain⟨rfl,h2,hv⟩:=hm'
    exact⟨rfl,h2,.wrap 123 i (hv.mono (fun g _ hg=>Nat.le_trans hsz hg))⟩
   ·rw[if_neg hb] at hm'
    rw[show closing 123=125 from rfl,if_neg hb]
    exact⟨hm'.1.less hsz,hm'.2⟩
open Go.RowKit
structure UM (w:World) (bp:Nat) (s:ByteArray) (j:Nat) (p:Int) (sv:Value) (ds:List PT) (X:Nat→Value) (W:World):Prop where
 here:PAt W bp s j
 fr:Fr w W (· = bp)
 lt:bp<w.heap.size
 hB:w.heap.size+1≤W.heap.size
 b:Blk W w.heap.size [.int .i64 p,sv] 220
 row:W.ownsRow (w.heap.size+1) 83 1 sv ds.length ((List.range ds.length).map X)
 ty:∀ i t,ds[i]?=some t→TyV W (fun g=>w.heap.size+1≤g∧sv.ownBlock≠some g) t (X i)
section
variable {w W W':World} {bp:Nat} {s:ByteArray} {j j':Nat} {p:Int} {sv:Value} {ds:List PT} {X:Nat→Value}
theorem UM.call (M:UM w bp s j p sv ds X W) (h:PAt W' bp s j') (hf:Fr W W' (· = bp)):UM w bp s j' p sv ds X W':=by
 have:=M.lt
 exact⟨h,M.fr.trans hf (fun _ _ e=>e),M.lt,Nat.le_trans M.hB hf.size,hf.blk M.b (by omega),ownsRow_fr M.row hf (fun g hg e=>by have:=M.row.lt g hg;omega),fun i t e=>(M.ty i t e).fr hf (fun g hg e=>by omega)⟩
theorem UM.item (M:UM w bp s j p sv ds X W){o:Obj}{w5:World}{v5 v:Value}{t:PT}(hg:(W.alloc o).grownBy w5 sv.ownBlock) (ho:w5.ownsRow (w.heap.size+1) 83 1 v5 (ds.length+1) ((List.range ds.length).map X++[v]))
 (hl:v5.ownBlock=sv.ownBlock∨v5.ownBlock=some (W.alloc o).heap.size) (hv:TyV W (fun g=>w.heap.size+1≤g∧sv.ownBlock≠some g) t v) :
 UM w bp s j p v5 (ds++[t]) (fun i=>if i<ds.length then X i else v) (w5.setCell ⟨w.heap.size,1,none⟩ v5):=by
 have hlt:=M.lt
 have hbB:=M.hB
 have hF:Fr W w5 (fun g=>sv.ownBlock=some g):=Fr.grown ((Fr.refl W _).alloc o) hg (fun k e _=>e)
 have hn:∀ g,v5.ownBlock=some g→w.heap.size+1≤g∧(sv.ownBlock=some g∨W.heap.size≤g):=fun g hg'=>by
  rcases hl with e|e
  ·exact⟨(M.row.lt g (e▸hg')).1,.inl (e▸hg')⟩
  ·rw[e] at hg'
   simp only[Option.some.injEq] at hg'
   have:(W.alloc o).heap.size=W.heap.size+1:=by simp
   exact⟨by omega,.inr (by omega)⟩
 have hG:Fr w5 (w5.setCell ⟨w.heap.size,1,none⟩ v5) (fun g=>g=w.heap.size):=(Fr.refl w5 (fun g=>g=w.heap.size)).setCell ⟨w.heap.size,1,none⟩ v5 (fun _=>rfl)
 have hH:Fr W (w5.setCell ⟨w.heap.size,1,none⟩ v5) (fun g=>sv.ownBlock=some g∨g=w.heap.size):=(hF.mono (fun _ _ e=>.inl e)).trans hG (fun _ _ e=>.inr e)
 have B1:=hF.blk M.b (fun e=>by have:=M.row.lt _ e;omega)
 have keep:∀ {u x},TyV W (fun g=>w.heap.size+1≤g∧sv.ownBlock≠some g) u x→TyV (w5.setCell ⟨w.heap.size,1,none⟩ v5) (fun g=>w.heap.size+1≤g∧v5.ownBlock≠some g) u x:=fun hx=>
  ((hx.mono (Q:=fun g=>(w.heap.size+1≤g∧sv.ownBlock≠some g)∧g<W.heap.size) (fun _ h1 h2=>⟨h2,h1⟩)).fr hH (fun g hg' e=>by
    rcases e with e|e
    ·exact hg'.1.2 e
    ·have:=hg'.1.1;omega)).mono (fun g _ hg'=>⟨hg'.1.1,fun e=>by
    rcases(hn g e).2 with q|q
    ·exact hg'.1.2 q
    ·have:=hg'.2;omega⟩)
 refine⟨hH.blk M.here (fun e=>?_),M.fr.trans hH (fun x hx e=>?_),M.lt,Nat.le_trans hbB hH.size,B1.set 1 v5,?_,fun i u hu=>?_⟩
 ·rcases e with e|e
  ·have:=M.row.lt _ e;omega
  ·omega
 ·rcases e with e|e
  ·have:=M.row.lt _ e;omega
  ·omega
 ·rw[List.length_append,List.length_singleton,List.range_succ,List.map_append,List.map_cons,List.map_nil,if_neg (Nat.lt_irrefl _)]
  have e:(List.range ds.length).map (fun i=>if i<ds.length then X i else v)=(List.range ds.length).map X:=List.map_congr_left (fun i hi=>by rw[if_pos (List.mem_range.1 hi)])
  rw[e]
  exact ownsRow_fr ho hG (fun g hg' e=>by have:=hn g hg';omega)
 ·by_cases hi:i<ds.length
  ·rw[List.getElem?_append_left hi] at hu
   simp only[hi,if_true]
   exact keep (M.ty i u hu)
  ·rw[List.getElem?_append_right (by omega)] at hu
   have h0:i-ds.length=0:=by
    rcases Nat.eq_zero_or_pos (i-ds.length) with h|h
    ·exact h
    ·rw[List.getElem?_eq_none (by simp;omega)] at hu;cases hu
   rw[h0] at hu
   simp only[List.getElem?_cons_zero,Option.some.injEq] at hu
   subst hu
   simp only[hi,if_false]
   exact keep hv
theorem UM.itemCell (M:UM w bp s j p sv ds X W){o:Obj}{w5:World}(hg:(W.alloc o).grownBy w5 sv.ownBlock):w5.cell? ⟨w.heap.size,1,none⟩=some sv∧w5.frozen? ⟨w.heap.size,1,none⟩=false:=by
 have hF:Fr W w5 (fun g=>sv.ownBlock=some g):=Fr.grown ((Fr.refl W _).alloc o) hg (fun k e _=>e)
 have B1:=hF.blk M.b (fun e=>by have:=M.row.lt _ e;omega)
 exact⟨B1.cell 1,B1.thaw 1⟩
theorem UM.alts (M:UM w bp s j p sv ds X W) (i:Nat) (hp:p=(i:Int)):TyV W (fun g=>w.heap.size≤g) (.alts i ds) (.iface 220 (.agg #[.int .i64 p,sv])):=by
 subst hp
 exact .alts i X (own_zero M.row) (fun g e=>by have:=M.row.lt g e;omega) (fun k t e=>(M.ty k t e).mono (fun g _ hg=>by have:=hg.1;omega))
end
theorem u_Tys:Tryz.prog.underlying 218=some (.slice 83):=by kernel_rfl
theorem i_Tys:(Tryz.prog.info? 83).map (fun i=>(i.zero,i.size,i.bytes))=some (some .nilIface,1,16):=by kernel_rfl
open Go.RowKit
def UnPost (w:World) (bp:Nat) (s:ByteArray) (i p:Nat) (et:TypeId) (ex:Value) (e:Ending) (w':World):Prop:=
 ∃ v ev,IfV v∧e=.returned (.tuple #[v,ev])∧Fr w w' (· = bp)∧
 match pA s i with
 | .ok (ts,j)=>if bt s j=41 then ev=.nilIface∧PAt w' bp s (j+1)∧TyV w' (fun g=>w.heap.size≤g) (.alts p ts) v else FaultAt w' w.heap.size ev (j:Int) (.iface et ex)∧∃ j,j≤s.size∧PAt w' bp s j
 | .error k=>FaultAt w' w.heap.size ev (k:Int) (.iface et ex)∧∃ j,j≤s.size∧PAt w' bp s j
def UInv (w:World) (bp:Nat) (s:ByteArray) (i:Nat) (p:Int) (m:Nat) (W:World):Prop:=
 ∃ j sv ds X,UM w bp s j p sv ds X W∧j≤s.size∧i+ds.length≤j∧s.size+1-j≤m∧pA s i=ahead ds (pA s j)
theorem un_start {w:World}{bp:Nat}{s:ByteArray}{i:Nat}{p:Int}(h:PAt w bp s i):UM w bp s i p (.slice none 0 0) [] (fun _=>.nilIface) (w.alloc (.cells #[.int .i64 p,.slice none 0 0] 220)):=
 ⟨h.alloc _,(Fr.refl w _).alloc _,h.lt,by simp,Blk.new w _ _,World.ownsRow_nil _ _ _ _,fun i t h=>by simp at h⟩
set_option maxHeartbeats 8000000 in
set_option maxRecDepth 100000 in
theorem punion_any {w:World}{bp:Nat}{s:ByteArray}{i p:Nat}{et:TypeId}{ex:Value}(hT:∀ j,i≤j→j≤s.size→PTypOK s j) (h:PAt w bp s i) (hG:Gram w et ex) (hne:bp≠0) (hs:s.size≤300) (hi:i≤s.size) :
 Calls Tryz.prog 108 #[.pointer (some ⟨bp,0,none⟩),.int .i64 (p:Int)] w (UnPost w bp s i p et ex):=by
 obtain⟨POST,hPOST⟩:∃ P,Hid (P=UnPost w bp s i p et ex):=⟨_,rfl⟩
 rw[← hPOST.out]
 have hbp:=h.lt
 have start:=hide (show UInv w bp s i (p:Int) (s.size+1) (w.alloc (.cells #[.int .i64 (p:Int),.slice none 0 0] 220)) from⟨i,_,[],_,un_start h,hi,by simp,by omega,(ahead_nil _).symm⟩)
 have hgl:=World.block_lt_of_cell? w ⟨0,0,none⟩ hG
 replace hG:=hide hG
 replace hT:=hide hT
 clear h
 go_enter Tryz.func108,Tryz.ntmps108
 go_wp2_with fail
 go_loopg [] (s.size+1) (fun m W=>UInv w bp s i (p:Int) m W)
 case atStart=>exact start.out
 case round=>
  clear start
  obtain⟨j,sv,ds,X,M,hj,hij,hm,hres⟩:=hrel
  obtain⟨sa,sc,rfl⟩:=own_sl M.row
  have hds:ds.length≤300:=by omega
  have hC:=hide (hT.out j (by omega) hj wr bp et ex M.here (hG.out.fr M.fr (Ne.symm hne)) hne)
  have hsz:=M.fr.size
  have hbB:=M.hB
  have hbd:=pT_bounds (s:=s) hj
  rw[pA_step s j hj] at hres
  cases hp:pT s j with
  | error k=>
   rw[hp] at hres
   replace hres:=hide hres
   replace hp:=hide hp
   replace M:=hide M
   clear hbd
   go_wp2_with (go_at_call 74;refine hC.out.mono ?_;rintro e w1 ⟨v,ev,_,rfl,hf,hm⟩;rw[hp.out] at hm;obtain⟨⟨g,hg1,rfl,hg2⟩,j1,hj1,h1⟩:=hm;replace hf:=hide hf;replace h1:=hide h1;replace hg2:=hide hg2)
   try go_ret
   rw[hPOST.out]
   refine⟨.nilIface,_,.inl rfl,rfl,M.out.fr.trans hf.out (fun _ _ e=>e),?_⟩
   rw[hres.out]
   exact⟨⟨g,Nat.le_trans hsz hg1,rfl,hg2.out⟩,j1,hj1,h1.out⟩
  | ok r=>
   obtain⟨t,j2⟩:=r
   have hj2:=hbd.1 t j2 hp
   rw[hp] at hres
   simp only at hres
   obtain⟨ti,hi1,hi2,hi3,hi4⟩:=info_parts i_Tys
   replace hp:=hide hp
   replace M:=hide M
   clear hbd
   by_cases h44:bt s j2=44
   ·rw[if_pos h44,ahead_ahead] at hres
    replace hres:=hide hres
    have hlt2:j2<s.size:=bt_pos (by omega)
    replace h44:=hide h44
    go_wp2_with (first
     |(go_at_call 74;refine hC.out.mono ?_;rintro e w1 ⟨v,ev,_,rfl,hf,hm⟩;rw[hp.out] at hm;obtain⟨rfl,h1,hv⟩:=hm;obtain⟨vT,vx,rfl⟩:∃ T x,v=.iface T x:=(by cases hv <;> exact⟨_,_,rfl⟩);have M1:=M.out.call h1 hf;have hv1:=hv.mono (Q:=fun g=>w.heap.size+1≤g∧(Value.slice sa ds.length sc).ownBlock≠some g) (fun g _ hg=>⟨by omega,fun e=>by have:=M.out.row.lt g e;omega⟩);have t1:=M1.b.cell 1;simp only[List.getElem?_cons_zero,List.getElem?_cons_succ] at t1;have hbB1:=M1.hB;replace M1:=hide M1;replace hv1:=hide hv1;clear hf h1 hv)
     |(at_builtin;go_must (refine wpList_append_own_at _ rfl _ _ 218 rfl (w.heap.size+1) 83 ti _ 1 16 u_Tys hi1 hi2 hi3 hi4 rfl (by decide) (.slice sa ds.length sc) ds.length ((List.range ds.length).map X) rfl ?hown _ 1 1 [.iface vT vx] rfl rfl (news_new _ #[.iface vT vx] _ _ ?nn) ?one ?b1 ?b2 ?b3 ?_)
       case hown=>exact World.ownsRow.alloc M1.out.row _
       case nn=>simp
       case one=>simp[Value.oneCell']
       case b1=>unfold maxLen;omega
       case b2=>omega
       case b3=>simp;omega
       intro v5 w5 ho5 hg5 hn5 hl5
       have M5:=M1.out.item hg5 ho5 hl5 hv1.out
       obtain⟨e5,f5⟩:=M1.out.itemCell hg5
       obtain⟨g5,cap5,rfl⟩:=own_form ho5 (by omega)
       clear hg5 hl5 hn5 ho5
       replace M5:=hide M5)
     |(go_at_call 106;refine(ptake_yesI M5.out.here hs hj2.2 h44.out (by decide) (by decide)).mono ?_;rintro e w6 ⟨rfl,hf6,h6⟩;have M6:=M5.out.call h6 hf6;replace M6:=hide M6;clear hf6 h6))
    go_roundg (s.size+1-(j2+1))
    case measure=>omega
    case rel=>exact⟨j2+1,_,ds++[t],_,M6.out,hlt2,by rw[List.length_append,List.length_singleton];omega,Nat.le_refl _,hres.out⟩
   ·rw[if_neg h44] at hres
    obtain⟨y,hy⟩:∃ y,bt s j2=y:=⟨_,rfl⟩
    rw[hy] at h44
    replace hy:=hide hy
    replace hres:=hide hres
    go_wp2_with (first
     |(go_at_call 74;refine hC.out.mono ?_;rintro e w1 ⟨v,ev,_,rfl,hf,hm⟩;rw[hp.out] at hm;obtain⟨rfl,h1,hv⟩:=hm;obtain⟨vT,vx,rfl⟩:∃ T x,v=.iface T x:=(by cases hv <;> exact⟨_,_,rfl⟩);have M1:=M.out.call h1 hf;have hv1:=hv.mono (Q:=fun g=>w.heap.size+1≤g∧(Value.slice sa ds.length sc).ownBlock≠some g) (fun g _ hg=>⟨by omega,fun e=>by have:=M.out.row.lt g e;omega⟩);have t1:=M1.b.cell 1;simp only[List.getElem?_cons_zero,List.getElem?_cons_succ] at t1;have hbB1:=M1.hB;replace M1:=hide M1;replace hv1:=hide hv1;clear hf h1 hv)
     |(at_builtin;go_must (refine wpList_append_own_at _ rfl _ _ 218 rfl (w.heap.size+1) 83 ti _ 1 16 u_Tys hi1 hi2 hi3 hi4 rfl (by decide) (.slice sa ds.length sc) ds.length ((List.range ds.length).map X) rfl ?hown _ 1 1 [.iface vT vx] rfl rfl (news_new _ #[.iface vT vx] _ _ ?nn) ?one ?b1 ?b2 ?b3 ?_)
       case hown=>exact World.ownsRow.alloc M1.out.row _
       case nn=>simp
       case one=>simp[Value.oneCell']
       case b1=>unfold maxLen;omega
       case b2=>omega
       case b3=>simp;omega
       intro v5 w5 ho5 hg5 hn5 hl5
       have M5:=M1.out.item hg5 ho5 hl5 hv1.out
       obtain⟨e5,f5⟩:=M1.out.itemCell hg5
       obtain⟨g5,cap5,rfl⟩:=own_form ho5 (by omega)
       clear hg5 hl5 hn5 ho5
       replace M5:=hide M5)
     |(go_at_call 106;refine(ptake_noI M5.out.here hs hj2.2 hy.out (by omega) (by decide)).mono ?_;rintro e w6 ⟨rfl,hf6,h6⟩;have M6:=M5.out.call h6 hf6;replace M6:=hide M6;clear hf6 h6))
    have u0:=M6.out.b.cell 0
    have u1:=M6.out.b.cell 1
    simp only[List.getElem?_cons_zero,List.getElem?_cons_succ] at u0 u1
    have hd6:Still w6 w6.drew:=Still.drew w6
    have M7:=M6.out.call (M6.out.here.still hd6) ((Fr.refl w6 _).still hd6)
    have hC7:=hide (pexpect_any (c:=41) 41 M7.here (hG.out.fr M7.fr (Ne.symm hne)) hne hs hj2.2 rfl (by decide))
    replace M7:=hide M7
    refine wp_regionC 5 (fun W=>W.cell? ⟨w.heap.size,0,none⟩=some (.int .i64 (p:Int))∧W.cell? ⟨w.heap.size,1,none⟩=some (.slice (some ⟨g5,0,none⟩) (ds.length+1) cap5)) (by kernel_rfl) ?_
    refine wpAnyC_take 0 ?v0 rfl (by kernel_rfl) (fun _ _ _ h=>h) (by kernel_rfl) ?y0 ?_
    case y0=>(rintro W ⟨h1,h2⟩;go_simp <;> rfl)
    refine wpAnyC_take 1 ?v1 rfl (by kernel_rfl) (fun _ _ _ h=>h) (by kernel_rfl) ?y1 ?_
    case y1=>(rintro W ⟨h1,h2⟩;go_simp <;> rfl)
    refine wpAnyC_take 2 ?v2 rfl (by kernel_rfl) (fun _ _ _ h=>h) (by kernel_rfl) ?y2 ?_
    case y2=>(rintro W ⟨h1,h2⟩;go_simp <;> rfl)
    refine wpAnyC_one 3 rfl (by kernel_rfl) (fun _=>⟨u0,u1⟩) (fun K hK=>?_)
    go_simp
    refine hC7.out.mono ?_
    rintro e w8 ⟨v8,rfl,hf8,hE⟩
    refine hK _ _ ?_
    clear hK K
    have M8:∃ j8,j8≤s.size∧UM w bp s j8 (p:Int) (.slice (some ⟨g5,0,none⟩) (ds.length+1) cap5) (ds++[t]) (fun i=>if i<ds.length then X i else .iface vT vx) w8:=by
     rcases hE with⟨_,_,h8,hl8⟩|⟨_,_,h8⟩
     ·exact⟨j2+1,hl8,M7.out.call h8 hf8⟩
     ·exact⟨j2,hj2.2,M7.out.call h8 hf8⟩
    obtain⟨j8,hj8,M8⟩:=M8
    have x0:=M8.b.cell 0
    have x1:=M8.b.cell 1
    simp only[List.getElem?_cons_zero,List.getElem?_cons_succ] at x0 x1
    refine wpAnyC_one 4 rfl (by kernel_rfl) (fun _=>⟨x0,x1⟩) (fun K hK=>?_)
    go_simp
    refine hK _ _ ?_
    clear hK K
    refine wpAnyC_one 5 rfl (by kernel_rfl) (fun _=>⟨x0,x1⟩) (fun K hK=>?_)
    go_simp
    refine hK _ _ ?_
    clear hK K
    refine wpAnyC_done (by kernel_rfl) (fun hm=>absurd hm (by decide)) ?_ _
    replace M8:=hide M8
    replace hE:=hide hE
    replace hf8:=hide hf8
    clear x0 x1 u0 u1
    go_wp2_with fail
    try go_ret
    rw[hPOST.out]
    refine⟨.iface 220 (.agg #[.int .i64 (p:Int),(.slice (some ⟨g5,0,none⟩) (ds.length+1) cap5)]),v8,.inr ⟨_,_,rfl⟩,rfl,M8.out.fr,?_⟩
    rw[hres.out]
    show(if bt s j2=41 then _ else _)
    have hs7:=M7.out.fr.size
    rcases hE.out with⟨hb,rfl,h8,hl8⟩|⟨hb,hF,h8⟩
    ·rw[if_pos hb]
     exact⟨rfl,h8,M8.out.alts p rfl⟩
    ·rw[if_neg hb]
     exact⟨hF.less hs7,j2,hj2.2,h8⟩
end Go.Proofs.YtiifagiebikmdaaGreatDoor
