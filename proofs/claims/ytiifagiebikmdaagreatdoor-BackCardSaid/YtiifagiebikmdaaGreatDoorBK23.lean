import Derived.Test.YtiifagiebikmdaaGreatDoorBK04
import Derived.Test.YtiifagiebikmdaaGreatDoorBK01
import Derived.Test.YtiifagiebikmdaaGreatDoorBK22
namespace Go.Proofs.YtiifagiebikmdaaGreatDoor
open Go.RowKit
def RdAt (w:World) (br:Nat) (sv rv:Value) (s:ByteArray) (i:Nat) (nb:Bool):Prop:=Blk w br [sv,rv,.string s,.int .i64 (i:Int),.bool nb] 114
section
variable {w w':World} {br:Nat} {sv rv:Value} {s:ByteArray} {i:Nat} {nb:Bool}
theorem RdAt.c0 (h:RdAt w br sv rv s i nb):w.cell? ⟨br,0,none⟩=some sv:=by rw[Blk.cell h];rfl
theorem RdAt.c1 (h:RdAt w br sv rv s i nb):w.cell? ⟨br,1,none⟩=some rv:=by rw[Blk.cell h];rfl
theorem RdAt.c2 (h:RdAt w br sv rv s i nb):w.cell? ⟨br,2,none⟩=some (.string s):=by rw[Blk.cell h];rfl
theorem RdAt.c3 (h:RdAt w br sv rv s i nb):w.cell? ⟨br,3,none⟩=some (.int .i64 (i:Int)):=by rw[Blk.cell h];rfl
theorem RdAt.c4 (h:RdAt w br sv rv s i nb):w.cell? ⟨br,4,none⟩=some (.bool nb):=by rw[Blk.cell h];rfl
theorem RdAt.thaw (h:RdAt w br sv rv s i nb) (o:Nat):w.frozen? ⟨br,o,none⟩=false:=Blk.thaw h o
theorem RdAt.still (h:RdAt w br sv rv s i nb) (hw:Still w w'):RdAt w' br sv rv s i nb:=by obtain⟨n,rfl⟩:=hw;exact h
theorem RdAt.inc (h:RdAt w br sv rv s i nb):RdAt (w.setCell ⟨br,3,none⟩ (.int .i64 ((i:Int)+1))) br sv rv s (i+1) nb:=Blk.set h 3 _
end
def NTake (w:World) (br:Nat) (sv rv:Value) (s:ByteArray) (i:Nat) (nb:Bool) (d:Nat) (b:Bool) (w':World):Prop:=
 Fr w w' (· = br)∧((bt s i=d∧b=true∧RdAt w' br sv rv s (i+1) nb∧i<s.size)∨(bt s i≠d∧b=false∧RdAt w' br sv rv s i nb))
set_option maxHeartbeats 4000000 in
set_option maxRecDepth 100000 in
theorem ntake_any {w:World}{br:Nat}{sv rv:Value}{s:ByteArray}{i:Nat}{nb:Bool}{c:Int}(d:Nat) (h:RdAt w br sv rv s i nb) (hs:s.size≤4000) (hi:i≤s.size) (hd:c=(d:Int)) (hd0:0<d) :
 Calls Tryz.prog 114 #[.pointer (some ⟨br,0,none⟩),.int .u8 c] w fun e w'=>∃ b,e=.returned (.bool b)∧NTake w br sv rv s i nb d b w':=by
 subst hd
 obtain⟨POST,hPOST⟩:∃ Q,Hid (Q=fun (e:Ending) (w':World)=>∃ b,e=.returned (.bool b)∧NTake w br sv rv s i nb d b w'):=⟨_,rfl⟩
 rw[← hPOST.out]
 have c2:=h.c2
 have c3:=h.c3
 have f3:=h.thaw 3
 by_cases hl:i<s.size
 ·have hl':(i:Int)<(s.size:Int):=by omega
  have hd1:decide ((i:Int)<(s.size:Int))=true:=decide_eq_true hl'
  obtain⟨x,hx⟩:∃ x,bt s i=x:=⟨_,rfl⟩
  have hbk:((s[i]'hl).toNat:Int)=(x:Int):=by rw[← hx,bt_eq s i hl]
  by_cases hb:x=d
  ·subst hb
   replace hx:=hide hx
   replace h:=hide h
   go_enter Tryz.func114,Tryz.ntmps114
   go_wp2_with fail
   go_quiet (fail)
   go_wp2_with fail
   try go_ret
   rw[hPOST.out]
   exact⟨true,rfl,((Fr.refl w _).still (Still.drewN _ _)).setCell _ _ (fun _=>rfl),.inl ⟨hx.out,rfl,(h.out.still (Still.drewN _ _)).inc,hl⟩⟩
  ·have hn:((x:Int)==(d:Int))=false:=by simp;omega
   replace hx:=hide hx
   replace h:=hide h
   go_enter Tryz.func114,Tryz.ntmps114
   go_wp2_with fail
   go_quiet (fail)
   go_wp2_with fail
   try go_ret
   rw[hPOST.out]
   exact⟨false,rfl,(Fr.refl w _).still (Still.drewN _ _),.inr ⟨by rw[hx.out];exact hb,rfl,h.out.still (Still.drewN _ _)⟩⟩
 ·have hl':¬ ((i:Int)<(s.size:Int)):=by omega
  have hd1:decide ((i:Int)<(s.size:Int))=false:=decide_eq_false hl'
  have hb:Hid (bt s i≠d):=hide (by rw[bt_end (by omega)];omega)
  replace h:=hide h
  go_enter Tryz.func114,Tryz.ntmps114
  go_wp2_with fail
  go_quiet (fail)
  go_wp2_with fail
  try go_ret
  rw[hPOST.out]
  exact⟨false,rfl,(Fr.refl w _).still (Still.drewN _ _),.inr ⟨hb.out,rfl,h.out.still (Still.drewN _ _)⟩⟩
theorem ntake_yes {w:World}{br:Nat}{sv rv:Value}{s:ByteArray}{i:Nat}{nb:Bool}{c:Int}(d:Nat) (h:RdAt w br sv rv s i nb) (hs:s.size≤4000) (hi:i≤s.size) (hd:c=(d:Int)) (hd0:0<d) (hb:bt s i=d) :
 Calls Tryz.prog 114 #[.pointer (some ⟨br,0,none⟩),.int .u8 c] w fun e w'=>e=.returned (.bool true)∧Fr w w' (· = br)∧RdAt w' br sv rv s (i+1) nb:=by
 refine(ntake_any d h hs hi hd hd0).mono ?_
 rintro e w' ⟨b,rfl,hf,hT⟩
 rcases hT with⟨_,rfl,h1,_⟩|⟨hn,_⟩
 ·exact⟨rfl,hf,h1⟩
 ·exact absurd hb hn
theorem ntake_no {w:World}{br:Nat}{sv rv:Value}{s:ByteArray}{i:Nat}{nb:Bool}{c:Int}(d:Nat) (h:RdAt w br sv rv s i nb) (hs:s.size≤4000) (hi:i≤s.size) (hd:c=(d:Int)) (hd0:0<d) (hb:bt s i≠d) :
 Calls Tryz.prog 114 #[.pointer (some ⟨br,0,none⟩),.int .u8 c] w fun e w'=>e=.returned (.bool false)∧Fr w w' (· = br)∧RdAt w' br sv rv s i nb:=by
 refine(ntake_any d h hs hi hd hd0).mono ?_
 rintro e w' ⟨b,rfl,hf,hT⟩
 rcases hT with⟨hy,_⟩|⟨_,rfl,h1⟩
 ·exact absurd hy hb
 ·exact⟨rfl,hf,h1⟩
set_option maxHeartbeats 400000 in
theorem isLetter_any (c:Nat) (w:World) :
 Calls Tryz.prog 148 #[.int .u8 (c:Int)] w fun e w'=>e=.returned (.bool (decide (97≤c∧c≤122)))∧w'=w:=by
 have hb:decide (97≤c∧c≤122)=(decide ((97:Int)≤(c:Int))&&decide ((c:Int)≤122)):=by
  rw[Bool.decide_and,show decide ((97:Int)≤(c:Int))=decide (97≤c) by congr 1;exact propext (by omega),show decide ((c:Int)≤122)=decide (c≤122) by congr 1;exact propext (by omega)]
 rw[hb]
 by_cases h1:(97:Int)≤(c:Int)
 ·go_enter Tryz.func148,Tryz.ntmps148
  go_wp2
  go_ret
  exact⟨by simp[h1],rfl⟩
 ·go_enter Tryz.func148,Tryz.ntmps148
  go_wp2
  go_ret
  exact⟨by simp;omega,rfl⟩
set_option maxHeartbeats 4000000 in
set_option maxRecDepth 100000 in
theorem nrun_letters {w:World}{br:Nat}{sv rv:Value}{s:ByteArray}{i:Nat}{nb:Bool}(h:RdAt w br sv rv s i nb) (hs:s.size≤4000) (hi:i≤s.size) :
 Calls Tryz.prog 147 #[.pointer (some ⟨br,0,none⟩),.func (.func 148) #[] #[]] w fun e w'=>e=.returned (.string (s.extract i (runEnd 97 122 s i)))∧Fr w w' (· = br)∧RdAt w' br sv rv s (runEnd 97 122 s i) nb:=by
 obtain⟨POST,hPOST⟩:∃ Q,Hid (Q=fun (e:Ending) (w':World)=>e=.returned (.string (s.extract i (runEnd 97 122 s i)))∧Fr w w' (· = br)∧RdAt w' br sv rv s (runEnd 97 122 s i) nb):=⟨_,rfl⟩
 rw[← hPOST.out]
 have c3:=h.c3
 have start:Hid (∃ k,i≤k∧k≤s.size∧s.size+1-k≤s.size+1∧Fr w w (· = br)∧RdAt w br sv rv s k nb∧runEnd 97 122 s i=runEnd 97 122 s k):=hide ⟨i,Nat.le_refl _,hi,by omega,Fr.refl _ _,h,rfl⟩
 replace h:=hide h
 go_enter Tryz.func147,Tryz.ntmps147
 go_wp2_with fail
 clear c3
 go_loopg [] (s.size+1) (fun m W=>∃ k,i≤k∧k≤s.size∧s.size+1-k≤m∧Fr w W (· = br)∧RdAt W br sv rv s k nb∧runEnd 97 122 s i=runEnd 97 122 s k)
 case atStart=>exact start.out
 case round=>
  clear start
  obtain⟨k,hik,hkl,hm,hf,hR,he⟩:=hrel
  have c2:=hR.c2
  have c3:=hR.c3
  have f3:=hR.thaw 3
  have hik':(i:Int)≤(k:Int):=by omega
  have hkl':(k:Int)≤(s.size:Int):=by omega
  replace hf:=hide hf
  replace hR:=hide hR
  have fin:Hid (runEnd 97 122 s k=k→∀ W,Still wr W→POST (.returned (.string (s.extract i k))) W):=hide (fun hk W hW=>by
   rw[hPOST.out,he,hk]
   exact⟨rfl,hf.out.still hW,hR.out.still hW⟩)
  by_cases hk:k<s.size
  ·have hk':(k:Int)<(s.size:Int):=by omega
   have hd1:decide ((k:Int)<(s.size:Int))=true:=decide_eq_true hk'
   obtain⟨c,hc⟩:∃ c,bt s k=c:=⟨_,rfl⟩
   have hbk:((s[k]'hk).toNat:Int)=(c:Int):=by rw[← hc,bt_eq s k hk]
   have hcall:Hid (∀ (q:Nat) (b:Bool),decide (97≤c∧c≤122)=b→Calls Tryz.prog 148 #[.int .u8 (c:Int)] (wr.drewN q) fun e w'=>e=.returned (.bool b)∧w'=wr.drewN q):=hide (fun q b hb=>by rw[← hb];exact isLetter_any c _)
   have hst:runEnd 97 122 s k=if 97≤c∧c≤122 then runEnd 97 122 s (k+1) else k:=by
    rw[runEnd,dif_pos hk,hc]
   by_cases hin:97≤c∧c≤122
   ·rw[if_pos hin] at hst
    have hdin:=hide (decide_eq_true hin)
    have hne:=hide (he.trans hst)
    clear hst he fin
    replace hc:=hide hc
    go_wp2_with fail
    go_quiet (first|(go_at_call 148;exact Calls.quiet_of_same (hcall.out _ _ hdin.out)))
    go_wp2_with fail
    go_roundg (s.size+1-(k+1))
    case measure=>omega
    case rel=>exact⟨k+1,by omega,hk,Nat.le_refl _,(hf.out.still (Still.drewN _ _)).setCell _ _ (fun _=>rfl),(hR.out.still (Still.drewN _ _)).inc,hne.out⟩
   ·rw[if_neg hin] at hst
    have hdin:=hide (decide_eq_false hin)
    replace hst:=hide hst
    replace hc:=hide hc
    clear he
    go_wp2_with fail
    go_quiet (first|(go_at_call 148;exact Calls.quiet_of_same (hcall.out _ _ hdin.out)))
    go_wp2_with fail
    go_quiet (fail)
    go_wp2_with fail
    try go_ret
    exact fin.out hst.out _ ((Still.drewN _ _).trans (Still.drewN _ _))
  ·have hk':¬ ((k:Int)<(s.size:Int)):=by omega
   have hd1:decide ((k:Int)<(s.size:Int))=false:=decide_eq_false hk'
   have hst:=hide (show runEnd 97 122 s k=k by rw[runEnd,dif_neg hk])
   clear he
   go_wp2_with fail
   go_quiet (fail)
   go_wp2_with fail
   go_quiet (fail)
   go_wp2_with fail
   try go_ret
   exact fin.out hst.out _ ((Still.drewN _ _).trans (Still.drewN _ _))
set_option maxHeartbeats 400000 in
theorem isDigit_any (c:Nat) (w:World) :
 Calls Tryz.prog 163 #[.int .u8 (c:Int)] w fun e w'=>e=.returned (.bool (decide (48≤c∧c≤57)))∧w'=w:=by
 have hb:decide (48≤c∧c≤57)=(decide ((48:Int)≤(c:Int))&&decide ((c:Int)≤57)):=by
  rw[Bool.decide_and,show decide ((48:Int)≤(c:Int))=decide (48≤c) by congr 1;exact propext (by omega),show decide ((c:Int)≤57)=decide (c≤57) by congr 1;exact propext (by omega)]
 rw[hb]
 by_cases h1:(48:Int)≤(c:Int)
 ·go_enter Tryz.func163,Tryz.ntmps163
  go_wp2
  go_ret
  exact⟨by simp[h1],rfl⟩
 ·go_enter Tryz.func163,Tryz.ntmps163
  go_wp2
  go_ret
  exact⟨by simp;omega,rfl⟩
set_option maxHeartbeats 4000000 in
set_option maxRecDepth 100000 in
theorem nrun_digits {w:World}{br:Nat}{sv rv:Value}{s:ByteArray}{i:Nat}{nb:Bool}(h:RdAt w br sv rv s i nb) (hs:s.size≤4000) (hi:i≤s.size) :
 Calls Tryz.prog 147 #[.pointer (some ⟨br,0,none⟩),.func (.func 163) #[] #[]] w fun e w'=>e=.returned (.string (s.extract i (runEnd 48 57 s i)))∧Fr w w' (· = br)∧RdAt w' br sv rv s (runEnd 48 57 s i) nb:=by
 obtain⟨POST,hPOST⟩:∃ Q,Hid (Q=fun (e:Ending) (w':World)=>e=.returned (.string (s.extract i (runEnd 48 57 s i)))∧Fr w w' (· = br)∧RdAt w' br sv rv s (runEnd 48 57 s i) nb):=⟨_,rfl⟩
 rw[← hPOST.out]
 have c3:=h.c3
 have start:Hid (∃ k,i≤k∧k≤s.size∧s.size+1-k≤s.size+1∧Fr w w (· = br)∧RdAt w br sv rv s k nb∧runEnd 48 57 s i=runEnd 48 57 s k):=hide ⟨i,Nat.le_refl _,hi,by omega,Fr.refl _ _,h,rfl⟩
 replace h:=hide h
 go_enter Tryz.func147,Tryz.ntmps147
 go_wp2_with fail
 clear c3
 go_loopg [] (s.size+1) (fun m W=>∃ k,i≤k∧k≤s.size∧s.size+1-k≤m∧Fr w W (· = br)∧RdAt W br sv rv s k nb∧runEnd 48 57 s i=runEnd 48 57 s k)
 case atStart=>exact start.out
 case round=>
  clear start
  obtain⟨k,hik,hkl,hm,hf,hR,he⟩:=hrel
  have c2:=hR.c2
  have c3:=hR.c3
  have f3:=hR.thaw 3
  have hik':(i:Int)≤(k:Int):=by omega
  have hkl':(k:Int)≤(s.size:Int):=by omega
  replace hf:=hide hf
  replace hR:=hide hR
  have fin:Hid (runEnd 48 57 s k=k→∀ W,Still wr W→POST (.returned (.string (s.extract i k))) W):=hide (fun hk W hW=>by
   rw[hPOST.out,he,hk]
   exact⟨rfl,hf.out.still hW,hR.out.still hW⟩)
  by_cases hk:k<s.size
  ·have hk':(k:Int)<(s.size:Int):=by omega
   have hd1:decide ((k:Int)<(s.size:Int))=true:=decide_eq_true hk'
   obtain⟨c,hc⟩:∃ c,bt s k=c:=⟨_,rfl⟩
   have hbk:((s[k]'hk).toNat:Int)=(c:Int):=by rw[← hc,bt_eq s k hk]
   have hcall:Hid (∀ (q:Nat) (b:Bool),decide (48≤c∧c≤57)=b→Calls Tryz.prog 163 #[.int .u8 (c:Int)] (wr.drewN q) fun e w'=>e=.returned (.bool b)∧w'=wr.drewN q):=hide (fun q b hb=>by rw[← hb];exact isDigit_any c _)
   have hst:runEnd 48 57 s k=if 48≤c∧c≤57 then runEnd 48 57 s (k+1) else k:=by
    rw[runEnd,dif_pos hk,hc]
   by_cases hin:48≤c∧c≤57
   ·rw[if_pos hin] at hst
    have hdin:=hide (decide_eq_true hin)
    have hne:=hide (he.trans hst)
    clear hst he fin
    replace hc:=hide hc
    go_wp2_with fail
    go_quiet (first|(go_at_call 163;exact Calls.quiet_of_same (hcall.out _ _ hdin.out)))
    go_wp2_with fail
    go_roundg (s.size+1-(k+1))
    case measure=>omega
    case rel=>exact⟨k+1,by omega,hk,Nat.le_refl _,(hf.out.still (Still.drewN _ _)).setCell _ _ (fun _=>rfl),(hR.out.still (Still.drewN _ _)).inc,hne.out⟩
   ·rw[if_neg hin] at hst
    have hdin:=hide (decide_eq_false hin)
    replace hst:=hide hst
    replace hc:=hide hc
    clear he
    go_wp2_with fail
    go_quiet (first|(go_at_call 163;exact Calls.quiet_of_same (hcall.out _ _ hdin.out)))
    go_wp2_with fail
    go_quiet (fail)
    go_wp2_with fail
    try go_ret
    exact fin.out hst.out _ ((Still.drewN _ _).trans (Still.drewN _ _))
  ·have hk':¬ ((k:Int)<(s.size:Int)):=by omega
   have hd1:decide ((k:Int)<(s.size:Int))=false:=decide_eq_false hk'
   have hst:=hide (show runEnd 48 57 s k=k by rw[runEnd,dif_neg hk])
   clear he
   go_wp2_with fail
   go_quiet (fail)
   go_wp2_with fail
   go_quiet (fail)
   go_wp2_with fail
   try go_ret
   exact fin.out hst.out _ ((Still.drewN _ _).trans (Still.drewN _ _))
open Go.RowKit
inductive FlatV:DT→Value→Prop
 | nothing:FlatV (.mk 110 0 noB [] []) (.iface 188 (.agg #[]))
 | truth (b:Bool):FlatV (.mk 116 (if b=true then 1 else 0) noB [] []) (.iface 164 (.bool b))
 | num (c:Nat) (n:Int) (hc:c=105∨c=108) (h0 : -9223372036854775808≤n) (h1:n≤9223372036854775807):FlatV (.mk c n noB [] []) (.iface 166 (.int .i64 n))
 | text (tx:ByteArray) (h:tx.size≤4000):FlatV (.mk 115 0 tx [] []) (.iface 168 (.string tx))
 | bytes (tx:ByteArray) (h:tx.size≤4000):FlatV (.mk 102 0 tx [] []) (.iface 174 (.string tx))
 | sym (n l:Nat) (h:n≤4000):FlatV (.mk 101 (n:Int) noB [] []) (.iface 173 (.agg #[.int .u8 (l:Int),.int .i64 (n:Int)]))
inductive DatV (w:World) (P:Nat→Prop):DT→Value→Prop
 | flat {d:DT} {v:Value} (h:FlatV d v):DatV w P d v
 | branch (n:Nat) (h:n≤4000) {d:DT} {v:Value} (hd:DatV w P d v):DatV w P (.mk 40 (n:Int) noB [] [d]) (.iface 162 (.agg #[.int .i64 (n:Int),v]))
 | row {c:Nat} {T:TypeId} {ds:List DT} {lv:Value} (Y:Nat→Value) (hc:(c=91∧T=156)∨(c=114∧T=163)) (ho:w.ownsRow 0 89 1 lv ds.length ((List.range ds.length).flatMap fun i=>[Y i])) (hP:∀ g,lv.ownBlock=some g→P g)
  (hd:∀ i d,ds[i]?=some d→DatV w P d (Y i)):DatV w P (.mk c 0 noB [] ds) (.iface T lv)
 | map {ks:List ByteArray} {ds:List DT} {lv:Value} (Y:Nat→Value) (hl:ks.length=ds.length) (hk:∀ k∈ks,k.size≤4000) (ho:w.ownsRow 0 160 2 lv ds.length ((List.range ds.length).flatMap fun i=>[.string (ks.getD i noB),Y i])) (hP:∀ g,lv.ownBlock=some g→P g)
  (hd:∀ i d,ds[i]?=some d→DatV w P d (Y i)):DatV w P (.mk 123 0 noB ks ds) (.iface 158 lv)
section
variable {w w':World} {P Q S:Nat→Prop} {d:DT} {v:Value}
theorem DatV.mono (h:DatV w P d v) (hQ:∀ g,g<w.heap.size→P g→Q g):DatV w Q d v:=by
 induction h with
 | flat h=>exact .flat h
 | branch n h hd ih=>exact .branch n h ih
 | row Y hc ho hP hd ih=>exact .row Y hc ho (fun g e=>hQ g (ho.lt g e).2 (hP g e)) ih
 | map Y hl hk ho hP hd ih=>exact .map Y hl hk ho (fun g e=>hQ g (ho.lt g e).2 (hP g e)) ih
theorem DatV.fr (h:DatV w P d v) (hf:Fr w w' S) (hS:∀ g,P g→¬ S g):DatV w' P d v:=by
 induction h with
 | flat h=>exact .flat h
 | branch n h hd ih=>exact .branch n h ih
 | row Y hc ho hP hd ih=>exact .row Y hc (ownsRow_fr ho hf (fun g e=>hS g (hP g e))) hP ih
 | map Y hl hk ho hP hd ih=>exact .map Y hl hk (ownsRow_fr ho hf (fun g e=>hS g (hP g e))) hP ih
theorem DatV.iface (h:DatV w P d v):∃ T x,v=.iface T x:=by
 cases h with
 | flat h=>cases h <;> exact⟨_,_,rfl⟩
 | branch n h hd=>exact⟨_,_,rfl⟩
 | row Y hc ho hP hd=>exact⟨_,_,rfl⟩
 | map Y hl hk ho hP hd=>exact⟨_,_,rfl⟩
end
def RowD (w:World) (B:Nat) (P:Nat→Prop) (lv:Value) (ds:List DT):Prop:=
 ∃ Y:Nat→Value,w.ownsRow B 89 1 lv ds.length ((List.range ds.length).flatMap fun i=>[Y i])∧∀ i d,ds[i]?=some d→DatV w P d (Y i)
section
variable {w w':World} {B:Nat} {P Q S:Nat→Prop} {lv:Value} {ds:List DT}
theorem RowD.nil (w:World) (B:Nat) (P:Nat→Prop):RowD w B P (.slice none 0 0) []:=⟨fun _=>.nilIface,World.ownsRow_nil _ _ _ _,fun i d h=>by simp at h⟩
theorem RowD.mono (h:RowD w B P lv ds) (hQ:∀ g,g<w.heap.size→P g→Q g):RowD w B Q lv ds:=by
 obtain⟨Y,a,b⟩:=h
 exact⟨Y,a,fun i d e=>(b i d e).mono hQ⟩
theorem RowD.fr (h:RowD w B P lv ds) (hf:Fr w w' S) (hS:∀ g,P g→¬ S g) (hv:∀ g,lv.ownBlock=some g→¬ S g):RowD w' B P lv ds:=by
 obtain⟨Y,a,b⟩:=h
 exact⟨Y,ownsRow_fr a hf hv,fun i d e=>(b i d e).fr hf hS⟩
theorem RowD.row (h:RowD w B P lv ds):∃ ys,w.ownsRow B 89 1 lv ds.length ys:=by
 obtain⟨Y,a,_⟩:=h
 exact⟨_,a⟩
theorem RowD.snoc {lv' v:Value}{d:DT}{Y:Nat→Value}(hY:∀ i d,ds[i]?=some d→DatV w P d (Y i)) (hd:DatV w P d v) (hf:Fr w w' S) (hS:∀ g,P g→¬ S g)
 (ho:w'.ownsRow B 89 1 lv' (ds.length+1) (((List.range ds.length).flatMap fun i=>[Y i])++[v])):RowD w' B P lv' (ds++[d]):=by
 refine⟨fun i=>if i<ds.length then Y i else v,?_,fun i e he=>?_⟩
 ·rw[List.length_append,List.length_singleton,List.range_succ,List.flatMap_append,flatMap_congr_range ds.length _ (fun i=>[Y i]) (fun i hi=>by simp[hi])]
  simpa using ho
 ·by_cases hi:i<ds.length
  ·rw[List.getElem?_append_left hi] at he
   simp only[hi,if_true]
   exact(hY i e he).fr hf hS
  ·rw[List.getElem?_append_right (by omega)] at he
   have h0:i-ds.length=0:=by
    rcases Nat.eq_zero_or_pos (i-ds.length) with h|h
    ·exact h
    ·rw[List.getElem?_eq_none (by simp;omega)] at he;cases he
   rw[h0] at he
   simp only[List.getElem?_cons_zero,Option.some.injEq] at he
   subst he
   simp only[hi,if_false]
   exact hd.fr hf hS
theorem RowD.grow {w1 w6:World}{lv v5 v:Value}{d:DT}{Y:Nat→Value}{c:Nat}(hY:∀ i d,ds[i]?=some d→DatV w1 (fun g=>B≤g∧lv.ownBlock≠some g) d (Y i)) (hd:DatV w1 (fun g=>B≤g∧lv.ownBlock≠some g) d v) (hf:Fr w1 w6 (fun g=>lv.ownBlock=some g∨g=c)) (hc:c<B)
 (hl:v5.ownBlock=lv.ownBlock∨∃ h,v5.ownBlock=some h∧w1.heap.size≤h) (ho:w6.ownsRow B 89 1 v5 (ds.length+1) (((List.range ds.length).flatMap fun i=>[Y i])++[v])):RowD w6 B (fun g=>B≤g∧v5.ownBlock≠some g) v5 (ds++[d]):=by
 have up:∀ {d v},DatV w1 (fun g=>B≤g∧lv.ownBlock≠some g) d v→DatV w1 (fun g=>(B≤g∧lv.ownBlock≠some g)∧g<w1.heap.size) d v:=fun h=>h.mono (fun g h1 h2=>⟨h2,h1⟩)
 refine(RowD.snoc (fun i d e=>up (hY i d e)) (up hd) hf (fun g hg e=>?_) ho).mono (fun g _ hg=>⟨hg.1.1,fun e=>?_⟩)
 ·rcases e with e|e
  ·exact hg.1.2 e
  ·have:=hg.1.1;omega
 ·rcases hl with h|⟨q,h,hq⟩
  ·exact hg.1.2 (h▸e)
  ·rw[h] at e
   have:=hg.2
   simp only[Option.some.injEq] at e
   omega
theorem RowD.dat (h:RowD w B P lv ds) (hP:∀ g,g<w.heap.size→P g→Q g) (h2:∀ g,lv.ownBlock=some g→Q g){c:Nat}{T:TypeId}(hc:(c=91∧T=156)∨(c=114∧T=163)):DatV w Q (.mk c 0 noB [] ds) (.iface T lv):=by
 obtain⟨Y,a,b⟩:=h
 exact .row Y hc (own_zero a) h2 (fun i d e=>(b i d e).mono hP)
end
def RowM (w:World) (P:Nat→Prop) (es:List (ByteArray×DT)) (ys:List Value):Prop:=
 ∃ Y:Nat→Value,(ys=(List.range es.length).flatMap fun i=>[.string ((es.map Prod.fst).getD i noB),Y i])∧(∀ i e,es[i]?=some e→DatV w P e.2 (Y i))∧∀ e∈es,e.1.size≤4000
section
variable {w w':World} {B:Nat} {P Q S:Nat→Prop} {es:List (ByteArray×DT)} {ys:List Value}
theorem RowM.nil (w:World) (P:Nat→Prop):RowM w P [] []:=⟨fun _=>.nilIface,rfl,fun i d h=>by simp at h,fun e h=>by simp at h⟩
theorem RowM.fr (h:RowM w P es ys) (hf:Fr w w' S) (hS:∀ g,P g→¬ S g):RowM w' P es ys:=by
 obtain⟨Y,a,b,c⟩:=h
 exact⟨Y,a,fun i d e=>(b i d e).fr hf hS,c⟩
theorem RowM.grow {w1 w6:World}{lv v5 v:Value}{key:ByteArray}{d:DT}{c:Nat}(h:RowM w1 (fun g=>B≤g∧lv.ownBlock≠some g) es ys) (hd:DatV w1 (fun g=>B≤g∧lv.ownBlock≠some g) d v) (hk:key.size≤4000) (hf:Fr w1 w6 (fun g=>lv.ownBlock=some g∨g=c)) (hc:c<B)
 (hl:v5.ownBlock=lv.ownBlock∨∃ h,v5.ownBlock=some h∧w1.heap.size≤h):RowM w6 (fun g=>B≤g∧v5.ownBlock≠some g) (es++[(key,d)]) (ys++[.string key,v]):=by
 obtain⟨Y,a,b,k⟩:=h
 have up:∀ {d v},DatV w1 (fun g=>B≤g∧lv.ownBlock≠some g) d v→DatV w6 (fun g=>B≤g∧v5.ownBlock≠some g) d v:=fun h=>by
  have h1:DatV w1 (fun g=>(B≤g∧lv.ownBlock≠some g)∧g<w1.heap.size) _ _:=h.mono (fun g h1 h2=>⟨h2,h1⟩)
  refine(h1.fr hf (fun g hg e=>?_)).mono (fun g _ hg=>⟨hg.1.1,fun e=>?_⟩)
  ·rcases e with e|e
   ·exact hg.1.2 e
   ·have:=hg.1.1;omega
  ·rcases hl with h|⟨q,h,hq⟩
   ·exact hg.1.2 (h▸e)
   ·rw[h] at e
    have:=hg.2
    simp only[Option.some.injEq] at e
    omega
 refine⟨fun i=>if i<es.length then Y i else v,?_,fun i e he=>?_,fun e he=>?_⟩
 ·have hc2:=flatMap_congr_range es.length (fun i=>[Value.string (((es++[(key,d)]).map Prod.fst).getD i noB),if i<es.length then Y i else v]) (fun i=>[Value.string ((es.map Prod.fst).getD i noB),Y i]) (fun i hi=>by
   simp only[List.map_append,List.getD_eq_getElem?_getD]
   rw[List.getElem?_append_left (by simpa using hi),if_pos hi])
  rw[a,List.length_append,List.length_singleton,List.range_succ,List.flatMap_append,hc2]
  simp[List.getD_eq_getElem?_getD]
 ·by_cases hi:i<es.length
  ·rw[List.getElem?_append_left hi] at he
   simp only[hi,if_true]
   exact up (b i e he)
  ·rw[List.getElem?_append_right (by omega)] at he
   have h0:i-es.length=0:=by
    rcases Nat.eq_zero_or_pos (i-es.length) with h|h
    ·exact h
    ·rw[List.getElem?_eq_none (by simp;omega)] at he;cases he
   rw[h0] at he
   simp only[List.getElem?_cons_zero,Option.some.injEq] at he
   subst he
   simp only[hi,if_false]
   exact up hd
 ·rcases List.mem_append.1 he with h|h
  ·exact k e h
  ·simp only[List.mem_singleton] at h
   subst h
   exact hk
theorem RowM.dat {lv:Value}(h:RowM w P es ys) (ho:w.ownsRow B 160 2 lv es.length ys) (hP:∀ g,g<w.heap.size→P g→Q g) (h2:∀ g,lv.ownBlock=some g→Q g):DatV w Q (.mk 123 0 noB (es.map Prod.fst) (es.map Prod.snd)) (.iface 158 lv):=by
 obtain⟨Y,a,b,k⟩:=h
 subst a
 refine .map Y (by simp) (fun x hx=>?_) (by rw[List.length_map];exact own_zero ho) h2 (fun i d e=>?_)
 ·obtain⟨e,he,rfl⟩:=List.mem_map.1 hx
  exact k e he
 ·rw[List.getElem?_map] at e
  obtain⟨q,hq,rfl⟩:=Option.map_eq_some_iff.1 e
  exact(b i q hq).mono hP
end
def lastE (es:List (ByteArray×DT)):Option ByteArray:=es.getLast?.map Prod.fst
theorem lastE_snoc (es:List (ByteArray×DT)) (e:ByteArray×DT):lastE (es++[e])=some e.1:=by unfold lastE;simp
def LastIs (o:Option ByteArray) (n:Nat) (ys:List Value):Prop:=match o with|none=>n=0|some lk=>∃ m,n=m+1∧ys[m*2]?=some (.string lk)
end Go.Proofs.YtiifagiebikmdaaGreatDoor
