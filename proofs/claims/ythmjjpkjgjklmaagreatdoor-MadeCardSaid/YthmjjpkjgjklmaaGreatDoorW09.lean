import Derived.Test.YthmjjpkjgjklmaaGreatDoorW07
import Derived.Deep.DeepCutAuto
import Derived.Laws.BitsLemmas
import Derived.Test.YthmjjpkjgjklmaaGreatDoorA00
set_option maxHeartbeats 16000000
set_option maxRecDepth 100000
set_option linter.unusedSimpArgs false
namespace Go.Proofs.YthmjjpkjgjklmaaGreatDoor
open Go.RowKit
structure BM (w:World) (P:Nat->Prop) (bl:Nat) (s:BA) (bz:Nat) (ts:List TR) (env:Nat->Option PB) (sv:Value) (j:Nat) (bad:Bool) (N:Nat) (W:World):Prop where
 M:DM w P bl s bz false j bad ts env W
 b0:Blk W w.heap.size [.int .u8 40,sv] 66
 b1:Blk W (w.heap.size+1) za4 32
 b2:Blk W (w.heap.size+1+1) (jk_ 40 (N:Int) noB (.slice none 0 0) (.slice none 0 0)) 32
section
variable {w W W':World} {P:Nat->Prop} {bl:Nat} {s:BA} {bz:Nat} {ts:List TR} {env:Nat->Option PB} {sv:Value} {j j' d:Nat} {bad bad':Bool} {N:Nat}
theorem BM.call (B:BM w P bl s bz ts env sv j bad N W) (hL:LAt W' bl s bz false j' bad') (hf:Fr W W' (· = bl)) (hj:j'<=s.size):BM w P bl s bz ts env sv j' bad' N W':=by
 have:=B.M.lt;exact⟨B.M.call hL hf hj,hf.blk B.b0 (by omega),hf.blk B.b1 (by omega),hf.blk B.b2 (by omega)⟩
theorem BM.still (B:BM w P bl s bz ts env sv j bad N W) (h:ze_ W W'):BM w P bl s bz ts env sv j bad N W':=B.call (B.M.L.still h) ((Fr.refl W _).still h) B.M.jl
theorem BM.inc (B:BM w P bl s bz ts env sv j bad N W) (h:j<s.size):BM w P bl s bz ts env sv (j+1) bad N (W.setCell ⟨bl,1,none⟩ (.int .i64 ((j:Int)+1))):=B.call B.M.L.inc (Fr.one _ _ _) h
theorem BM.num (B:BM w P bl s bz ts env sv j bad N W) (K:Nat):BM w P bl s bz ts env sv j bad K (W.setCell ⟨w.heap.size+1+1,1,none⟩ (.int .i64 (K:Int))):=
 ⟨B.M.put ⟨w.heap.size+1+1,1,none⟩ _ (by show w.heap.size<=w.heap.size+1+1;omega),B.b0.other (a:=⟨w.heap.size+1+1,1,none⟩) _ (by show ¬ (w.heap.size=w.heap.size+1+1);omega),B.b1.other (a:=⟨w.heap.size+1+1,1,none⟩) _ (by show ¬ (w.heap.size+1=w.heap.size+1+1);omega),Blk.set B.b2 1 _⟩
theorem BM.start (M:DM w P bl s bz false j bad ts env w) (sv:Value):BM w P bl s bz ts env sv j bad 0 (bw w sv):=⟨bw_M M sv,bw_0 w sv,bw_1 w sv,bw_2 w sv⟩
theorem BM.n (B:BM w P bl s bz ts env sv j bad N W):W.cell? ⟨w.heap.size+1+1,1,none⟩=some (.int .i64 (N:Int)):=by rw[B.b2.cell];rfl
theorem BM.subs (B:BM w P bl s bz ts env sv j bad N W):W.cell? ⟨w.heap.size,1,none⟩=some sv:=by rw[B.b0.cell];rfl
end
def zgj (s:BA) (i k N sn:Nat):Bool:=decide (k≠i/\¬ (bt s i=48/\k-i > 1)/\N<sn)
theorem zml {R:PT->Nat->Option (DT×Nat)}{s:BA}{l:List PT}{i k N:Nat}(h60:bt s i=60) (hk:y5_ s (i+1)=k) (hN:zd1 s (i+1) (k-(i+1))=N) :
 y9_ R s false l i=if zgj s (i+1) k N l.length=true/\bt s k=58 then (match l[N]? with|none=>none|some t=>match R t (k+1) with|none=>none|some (d,j)=>if bt s j=62 then some (.mk 40 (N:Int) noB [] [d],j+1) else none) else none:=by
 unfold y9_;rw[if_neg (by decide),hk,hN];unfold zgj
 by_cases hg:k≠i+1/\¬ (bt s (i+1)=48/\k-(i+1) > 1)
 ·by_cases h58:bt s k=58
  ·rw[if_pos ⟨h60,hg.1,hg.2,h58⟩]
   by_cases hl:N<l.length
   ·rw[if_pos ⟨decide_eq_true ⟨hg.1,hg.2,hl⟩,h58⟩];try rfl
   ·rw[if_neg (λ h=>hl (of_decide_eq_true h.1).2.2),bm_ (by omega)]
  ·rw[if_neg (λ h=>h58 h.2.2.2),if_neg (λ h=>h58 h.2)]
 ·rw[if_neg (λ h=>hg ⟨h.2.1,h.2.2.1⟩),if_neg (λ h=>hg ⟨(of_decide_eq_true h.1).1,(of_decide_eq_true h.1).2.1⟩)]
end Go.Proofs.YthmjjpkjgjklmaaGreatDoor
