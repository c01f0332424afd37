import Derived.Test.YthmjjpkjgjklmaaGreatDoorW04
import Derived.Test.YthmjjpkjgjklmaaGreatDoorW01
import Derived.Test.YthmjjpkjgjklmaaGreatDoorW19
import Derived.Test.YthmjjpkjgjklmaaGreatDoorA00
set_option maxHeartbeats 16000000
set_option maxRecDepth 100000
set_option linter.unusedSimpArgs false
open Go.Proofs.Tryz
namespace Go.Proofs.YthmjjpkjgjklmaaGreatDoor
open Go.RowKit
variable {c:Int}
def RdAt (w:World) (br:Nat) (sv rv:Value) (s:BA) (i:Nat) (nb:Bool):Prop:=Blk w br [sv,rv,.string s,.int .i64 (i:Int),.bool nb] 144
section
variable {w w':World} {br:Nat} {sv rv:Value} {s:BA} {i:Nat} {nb:Bool}
theorem RdAt.c0 (h:RdAt w br sv rv s i nb):w.cell? ⟨br,0,none⟩=some sv:=by rw[Blk.cell h];rfl
theorem RdAt.c1 (h:RdAt w br sv rv s i nb):w.cell? ⟨br,1,none⟩=some rv:=by rw[Blk.cell h];rfl
theorem RdAt.c2 (h:RdAt w br sv rv s i nb):w.cell? ⟨br,2,none⟩=some (.string s):=by rw[Blk.cell h];rfl
theorem RdAt.c3 (h:RdAt w br sv rv s i nb):w.cell? ⟨br,3,none⟩=some (.int .i64 (i:Int)):=by rw[Blk.cell h];rfl
theorem RdAt.c4 (h:RdAt w br sv rv s i nb):w.cell? ⟨br,4,none⟩=some (.bool nb):=by rw[Blk.cell h];rfl
theorem RdAt.thaw (h:RdAt w br sv rv s i nb) (o:Nat):w.frozen? ⟨br,o,none⟩=false:=Blk.thaw h o
theorem RdAt.still (h:RdAt w br sv rv s i nb) (hw:ze_ w w'):RdAt w' br sv rv s i nb:=by obtain⟨n,rfl⟩:=hw;exact h
theorem RdAt.inc (h:RdAt w br sv rv s i nb):RdAt (w.setCell ⟨br,3,none⟩ (.int .i64 ((i:Int)+1))) br sv rv s (i+1) nb:=Blk.set h 3 _
end
def z0n (w:World) (br:Nat) (sv rv:Value) (s:BA) (i:Nat) (nb:Bool) (d:Nat) (b:Bool) (w':World):Prop:=
 Fr w w' (· = br)/\((bt s i=d/\b=true/\RdAt w' br sv rv s (i+1) nb/\i<s.size)\/(bt s i≠d/\b=false/\RdAt w' br sv rv s i nb))
theorem zfz {w:World}{br:Nat}{sv rv:Value}{s:BA}{i:Nat}{nb:Bool}(d:Nat) (h:RdAt w br sv rv s i nb) (hs:s.size<=4000) (hi:i<=s.size) (hd:c=(d:Int)) (hd0:0<d) :
 Calls prog 164 #[.pointer (some ⟨br,0,none⟩),.int .u8 c] w λ e w'=>∃ b,e=.returned (.bool b)/\z0n w br sv rv s i nb d b w':=by
 subst hd;refine hq_ λ POST Q_=>?_;have c2:=h.c2;have c3:=h.c3;have f3:=h.thaw 3
 by_cases hl:i<s.size
 ·have hl':(i:Int)<(s.size:Int):=by omega
  have hd1:decide ((i:Int)<(s.size:Int))=true:=decide_eq_true hl';obtain⟨x,hx⟩:∃ x,bt s i=x:=⟨_,rfl⟩
  have hbk:((s[i]'hl).toNat:Int)=(x:Int):=by rw[<- hx,zbh s i hl]
  by_cases hb:x=d
  ·subst hb;replace hx:=q_ hx;replace h:=q_ h
   go_in
   go_wp2_with fail
   go_quiet (fail)
   go_wp2_with fail
   try go_ret
   rw[Q_.o];exact⟨true,rfl,((Fr.refl w _).still (ze_.drewN _ _)).setCell _ _ (λ _=>rfl),.inl ⟨hx.o,rfl,(h.o.still (ze_.drewN _ _)).inc,hl⟩⟩
  ·have hn:((x:Int)==(d:Int))=false:=by simp;omega
   replace hx:=q_ hx;replace h:=q_ h
   go_in
   go_wp2_with fail
   go_quiet (fail)
   go_wp2_with fail
   try go_ret
   rw[Q_.o];exact⟨false,rfl,(Fr.refl w _).still (ze_.drewN _ _),.inr ⟨by rw[hx.o];exact hb,rfl,h.o.still (ze_.drewN _ _)⟩⟩
 ·have hl':¬ ((i:Int)<(s.size:Int)):=by omega
  have hd1:decide ((i:Int)<(s.size:Int))=false:=decide_eq_false hl';have hb:H_ (bt s i≠d):=q_ (by rw[zef (by omega)];omega);replace h:=q_ h
  go_in
  go_wp2_with fail
  go_quiet (fail)
  go_wp2_with fail
  try go_ret
  rw[Q_.o];exact⟨false,rfl,(Fr.refl w _).still (ze_.drewN _ _),.inr ⟨hb.o,rfl,h.o.still (ze_.drewN _ _)⟩⟩
theorem z7_ {w:World}{br:Nat}{sv rv:Value}{s:BA}{i:Nat}{nb:Bool}(d:Nat) (h:RdAt w br sv rv s i nb) (hs:s.size<=4000) (hi:i<=s.size) (hd:c=(d:Int)) (hd0:0<d) (hb:bt s i=d) :
 Calls prog 164 #[.pointer (some ⟨br,0,none⟩),.int .u8 c] w λ e w'=>e=.returned (.bool true)/\Fr w w' (· = br)/\RdAt w' br sv rv s (i+1) nb:=by
 refine(zfz d h hs hi hd hd0).mono ?_;rintro e w' ⟨b,rfl,hf,hT⟩
 rcases hT with⟨_,rfl,h1,_⟩|⟨hn,_⟩
 ·exact⟨rfl,hf,h1⟩
 ·exact absurd hb hn
theorem xc_ {w:World}{br:Nat}{sv rv:Value}{s:BA}{i:Nat}{nb:Bool}(d:Nat) (h:RdAt w br sv rv s i nb) (hs:s.size<=4000) (hi:i<=s.size) (hd:c=(d:Int)) (hd0:0<d) (hb:bt s i≠d) :
 Calls prog 164 #[.pointer (some ⟨br,0,none⟩),.int .u8 c] w λ e w'=>e=.returned (.bool false)/\Fr w w' (· = br)/\RdAt w' br sv rv s i nb:=by
 refine(zfz d h hs hi hd hd0).mono ?_;rintro e w' ⟨b,rfl,hf,hT⟩
 rcases hT with⟨hy,_⟩|⟨_,rfl,h1⟩
 ·exact absurd hy hb
 ·exact⟨rfl,hf,h1⟩
theorem zk8 (c:Nat) (w:World) :
 Calls prog 217 #[.int .u8 (c:Int)] w λ e w'=>e=.returned (.bool (decide (97<=c/\c<=122)))/\w'=w:=by
 have hb:decide (97<=c/\c<=122)=(decide ((97:Int)<=(c:Int))&&decide ((c:Int)<=122)):=by
  rw[Bool.decide_and,show decide ((97:Int)<=(c:Int))=decide (97<=c) by congr 1;exact propext (by omega),show decide ((c:Int)<=122)=decide (c<=122) by congr 1;exact propext (by omega)]
 rw[hb]
 by_cases h1:(97:Int)<=(c:Int)
 ·go_in
  go_wp2
  go_ret
  exact⟨by simp[h1],rfl⟩
 ·go_in
  go_wp2
  go_ret
  exact⟨by simp;omega,rfl⟩
theorem zbb {w:World}{br:Nat}{sv rv:Value}{s:BA}{i:Nat}{nb:Bool}(h:RdAt w br sv rv s i nb) (hs:s.size<=4000) (hi:i<=s.size) :
 Calls prog 216 #[.pointer (some ⟨br,0,none⟩),.func (.func 217) #[] #[]] w λ e w'=>e=.returned (.string (s.extract i (zm_ 97 122 s i)))/\Fr w w' (· = br)/\RdAt w' br sv rv s (zm_ 97 122 s i) nb:=by
 refine hq_ λ POST Q_=>?_;have c3:=h.c3;have start:H_ (∃ k,i<=k/\k<=s.size/\s.size+1-k<=s.size+1/\Fr w w (· = br)/\RdAt w br sv rv s k nb/\zm_ 97 122 s i=zm_ 97 122 s k):=q_ ⟨i,l_,hi,by omega,Fr.refl _ _,h,rfl⟩;replace h:=q_ h
 go_in
 go_wp2_with fail
 clear c3
 go_loopg [] (s.size+1) (λ m W=>∃ k,i<=k/\k<=s.size/\s.size+1-k<=m/\Fr w W (· = br)/\RdAt W br sv rv s k nb/\zm_ 97 122 s i=zm_ 97 122 s k)
 case atStart=>exact start.o
 case round=>
  clear start;obtain⟨k,hik,hkl,hm,hf,hR,he⟩:=hrel;have c2:=hR.c2;have c3:=hR.c3;have f3:=hR.thaw 3
  have hik':(i:Int)<=(k:Int):=by omega
  have hkl':(k:Int)<=(s.size:Int):=by omega
  replace hf:=q_ hf;replace hR:=q_ hR
  have fin:H_ (zm_ 97 122 s k=k->∀ W,ze_ wr W->POST (.returned (.string (s.extract i k))) W):=q_ (λ hk W hW=>by
   rw[Q_.o,he,hk]
   exact⟨rfl,hf.o.still hW,hR.o.still hW⟩)
  by_cases hk:k<s.size
  ·have hk':(k:Int)<(s.size:Int):=by omega
   have hd1:decide ((k:Int)<(s.size:Int))=true:=decide_eq_true hk';obtain⟨c,hc⟩:∃ c,bt s k=c:=⟨_,rfl⟩
   have hbk:((s[k]'hk).toNat:Int)=(c:Int):=by rw[<- hc,zbh s k hk]
   have hcall:H_ (∀ (q:Nat) (b:Bool),decide (97<=c/\c<=122)=b->Calls prog 217 #[.int .u8 (c:Int)] (wr.drewN q) λ e w'=>e=.returned (.bool b)/\w'=wr.drewN q):=q_ (λ q b hb=>by rw[<- hb];exact zk8 c _)
   have hst:zm_ 97 122 s k=if 97<=c/\c<=122 then zm_ 97 122 s (k+1) else k:=by
    rw[zm_,dif_pos hk,hc]
   by_cases hin:97<=c/\c<=122
   ·rw[if_pos hin] at hst;have hdin:=q_ (decide_eq_true hin);have hne:=q_ (he.trans hst);clear hst he fin;replace hc:=q_ hc
    go_wp2_with fail
    go_quiet (first|(go_at_call 217;exact Calls.quiet_of_same (hcall.o _ _ hdin.o)))
    go_wp2_with fail
    go_roundg (s.size+1-(k+1))
    case measure=>omega
    case rel=>exact⟨k+1,by omega,hk,l_,(hf.o.still (ze_.drewN _ _)).setCell _ _ (λ _=>rfl),(hR.o.still (ze_.drewN _ _)).inc,hne.o⟩
   ·rw[if_neg hin] at hst;have hdin:=q_ (decide_eq_false hin);replace hst:=q_ hst;replace hc:=q_ hc;clear he
    go_wp2_with fail
    go_quiet (first|(go_at_call 217;exact Calls.quiet_of_same (hcall.o _ _ hdin.o)))
    go_wp2_with fail
    go_quiet (fail)
    go_wp2_with fail
    try go_ret
    exact fin.o hst.o _ ((ze_.drewN _ _).trans (ze_.drewN _ _))
  ·have hk':¬ ((k:Int)<(s.size:Int)):=by omega
   have hd1:decide ((k:Int)<(s.size:Int))=false:=decide_eq_false hk';have hst:=q_ (show zm_ 97 122 s k=k by rw[zm_,dif_neg hk]);clear he
   go_wp2_with fail
   go_quiet (fail)
   go_wp2_with fail
   go_quiet (fail)
   go_wp2_with fail
   try go_ret
   exact fin.o hst.o _ ((ze_.drewN _ _).trans (ze_.drewN _ _))
theorem zng (c:Nat) (w:World) :
 Calls prog 248 #[.int .u8 (c:Int)] w λ e w'=>e=.returned (.bool (decide (48<=c/\c<=57)))/\w'=w:=by
 have hb:decide (48<=c/\c<=57)=(decide ((48:Int)<=(c:Int))&&decide ((c:Int)<=57)):=by
  rw[Bool.decide_and,show decide ((48:Int)<=(c:Int))=decide (48<=c) by congr 1;exact propext (by omega),show decide ((c:Int)<=57)=decide (c<=57) by congr 1;exact propext (by omega)]
 rw[hb]
 by_cases h1:(48:Int)<=(c:Int)
 ·go_in
  go_wp2
  go_ret
  exact⟨by simp[h1],rfl⟩
 ·go_in
  go_wp2
  go_ret
  exact⟨by simp;omega,rfl⟩
theorem zm2 {w:World}{br:Nat}{sv rv:Value}{s:BA}{i:Nat}{nb:Bool}(h:RdAt w br sv rv s i nb) (hs:s.size<=4000) (hi:i<=s.size) :
 Calls prog 216 #[.pointer (some ⟨br,0,none⟩),.func (.func 248) #[] #[]] w λ e w'=>e=.returned (.string (s.extract i (zm_ 48 57 s i)))/\Fr w w' (· = br)/\RdAt w' br sv rv s (zm_ 48 57 s i) nb:=by
 refine hq_ λ POST Q_=>?_;have c3:=h.c3;have start:H_ (∃ k,i<=k/\k<=s.size/\s.size+1-k<=s.size+1/\Fr w w (· = br)/\RdAt w br sv rv s k nb/\zm_ 48 57 s i=zm_ 48 57 s k):=q_ ⟨i,l_,hi,by omega,Fr.refl _ _,h,rfl⟩;replace h:=q_ h
 go_in
 go_wp2_with fail
 clear c3
 go_loopg [] (s.size+1) (λ m W=>∃ k,i<=k/\k<=s.size/\s.size+1-k<=m/\Fr w W (· = br)/\RdAt W br sv rv s k nb/\zm_ 48 57 s i=zm_ 48 57 s k)
 case atStart=>exact start.o
 case round=>
  clear start;obtain⟨k,hik,hkl,hm,hf,hR,he⟩:=hrel;have c2:=hR.c2;have c3:=hR.c3;have f3:=hR.thaw 3
  have hik':(i:Int)<=(k:Int):=by omega
  have hkl':(k:Int)<=(s.size:Int):=by omega
  replace hf:=q_ hf;replace hR:=q_ hR
  have fin:H_ (zm_ 48 57 s k=k->∀ W,ze_ wr W->POST (.returned (.string (s.extract i k))) W):=q_ (λ hk W hW=>by
   rw[Q_.o,he,hk]
   exact⟨rfl,hf.o.still hW,hR.o.still hW⟩)
  by_cases hk:k<s.size
  ·have hk':(k:Int)<(s.size:Int):=by omega
   have hd1:decide ((k:Int)<(s.size:Int))=true:=decide_eq_true hk';obtain⟨c,hc⟩:∃ c,bt s k=c:=⟨_,rfl⟩
   have hbk:((s[k]'hk).toNat:Int)=(c:Int):=by rw[<- hc,zbh s k hk]
   have hcall:H_ (∀ (q:Nat) (b:Bool),decide (48<=c/\c<=57)=b->Calls prog 248 #[.int .u8 (c:Int)] (wr.drewN q) λ e w'=>e=.returned (.bool b)/\w'=wr.drewN q):=q_ (λ q b hb=>by rw[<- hb];exact zng c _)
   have hst:zm_ 48 57 s k=if 48<=c/\c<=57 then zm_ 48 57 s (k+1) else k:=by
    rw[zm_,dif_pos hk,hc]
   by_cases hin:48<=c/\c<=57
   ·rw[if_pos hin] at hst;have hdin:=q_ (decide_eq_true hin);have hne:=q_ (he.trans hst);clear hst he fin;replace hc:=q_ hc
    go_wp2_with fail
    go_quiet (first|(go_at_call 248;exact Calls.quiet_of_same (hcall.o _ _ hdin.o)))
    go_wp2_with fail
    go_roundg (s.size+1-(k+1))
    case measure=>omega
    case rel=>exact⟨k+1,by omega,hk,l_,(hf.o.still (ze_.drewN _ _)).setCell _ _ (λ _=>rfl),(hR.o.still (ze_.drewN _ _)).inc,hne.o⟩
   ·rw[if_neg hin] at hst;have hdin:=q_ (decide_eq_false hin);replace hst:=q_ hst;replace hc:=q_ hc;clear he
    go_wp2_with fail
    go_quiet (first|(go_at_call 248;exact Calls.quiet_of_same (hcall.o _ _ hdin.o)))
    go_wp2_with fail
    go_quiet (fail)
    go_wp2_with fail
    try go_ret
    exact fin.o hst.o _ ((ze_.drewN _ _).trans (ze_.drewN _ _))
  ·have hk':¬ ((k:Int)<(s.size:Int)):=by omega
   have hd1:decide ((k:Int)<(s.size:Int))=false:=decide_eq_false hk';have hst:=q_ (show zm_ 48 57 s k=k by rw[zm_,dif_neg hk]);clear he
   go_wp2_with fail
   go_quiet (fail)
   go_wp2_with fail
   go_quiet (fail)
   go_wp2_with fail
   try go_ret
   exact fin.o hst.o _ ((ze_.drewN _ _).trans (ze_.drewN _ _))
open Go.RowKit
inductive zbi:DT->Value->Prop
 | nothing:zbi (.mk 110 0 noB [] []) (.iface 178 (.agg #[]))
 | truth (b:Bool):zbi (.mk 116 (if b=true then 1 else 0) noB [] []) (.iface 179 (.bool b))
 | num (c:Nat) (n:Int) (hc:c=105\/c=108) (h0 : -9223372036854775808<=n) (h1:n<=9223372036854775807):zbi (.mk c n noB [] []) (.iface 181 (.int .i64 n))
 | text (tx:BA) (h:tx.size<=4000):zbi (.mk 115 0 tx [] []) (.iface 183 (.string tx))
 | bytes (tx:BA) (h:tx.size<=4000):zbi (.mk 102 0 tx [] []) (.iface 190 (.string tx))
 | sym (n l:Nat) (h:n<=4000):zbi (.mk 101 (n:Int) noB [] []) (.iface 189 (.agg #[.int .u8 (l:Int),.int .i64 (n:Int)]))
inductive DatV (w:World) (P:Nat->Prop):DT->Value->Prop
 | flat {d:DT} {v:Value} (h:zbi d v):DatV w P d v
 | branch (n:Nat) (h:n<=4000) {d:DT} {v:Value} (hd:DatV w P d v):DatV w P (.mk 40 (n:Int) noB [] [d]) (.iface 175 (.agg #[.int .i64 (n:Int),v]))
 | row {c:Nat} {T:TypeId} {ds:List DT} {lv:Value} (Y:Nat->Value) (hc:(c=91/\T=169)\/(c=114/\T=176)) (ho:w.ownsRow 0 94 1 lv ds.length ((List.range ds.length).flatMap λ i=>[Y i])) (hP:∀ g,lv.ownBlock=some g->P g)
  (hd:∀ i d,ds[i]?=some d->DatV w P d (Y i)):DatV w P (.mk c 0 noB [] ds) (.iface T lv)
 | map {ks:List BA} {ds:List DT} {lv:Value} (Y:Nat->Value) (hl:ks.length=ds.length) (hk:∀ k∈ks,k.size<=4000) (ho:w.ownsRow 0 173 2 lv ds.length ((List.range ds.length).flatMap λ i=>[.string (ks.getD i noB),Y i])) (hP:∀ g,lv.ownBlock=some g->P g)
  (hd:∀ i d,ds[i]?=some d->DatV w P d (Y i)):DatV w P (.mk 123 0 noB ks ds) (.iface 171 lv)
section
variable {w w':World} {P Q S:Nat->Prop} {d:DT} {v:Value}
theorem DatV.mono (h:DatV w P d v) (hQ:∀ g,g<w.heap.size->P g->Q g):DatV w Q d v:=by
 induction h with
 | flat h=>exact .flat h
 | branch n h hd ih=>exact .branch n h ih
 | row Y hc ho hP hd ih=>exact .row Y hc ho (λ g e=>hQ g (ho.lt g e).2 (hP g e)) ih
 | map Y hl hk ho hP hd ih=>exact .map Y hl hk ho (λ g e=>hQ g (ho.lt g e).2 (hP g e)) ih
theorem DatV.fr (h:DatV w P d v) (hf:Fr w w' S) (hS:∀ g,P g->¬ S g):DatV w' P d v:=by
 induction h with
 | flat h=>exact .flat h
 | branch n h hd ih=>exact .branch n h ih
 | row Y hc ho hP hd ih=>exact .row Y hc (zb_ ho hf (λ g e=>hS g (hP g e))) hP ih
 | map Y hl hk ho hP hd ih=>exact .map Y hl hk (zb_ ho hf (λ g e=>hS g (hP g e))) hP ih
theorem DatV.iface (h:DatV w P d v):∃ T x,v=.iface T x:=by
 cases h with
 | flat h=>cases h<;>exact⟨_,_,rfl⟩
 | branch n h hd=>exact⟨_,_,rfl⟩
 | row Y hc ho hP hd=>exact⟨_,_,rfl⟩
 | map Y hl hk ho hP hd=>exact⟨_,_,rfl⟩
end
def RowD (w:World) (B:Nat) (P:Nat->Prop) (lv:Value) (ds:List DT):Prop:=
 ∃ Y:Nat->Value,w.ownsRow B 94 1 lv ds.length ((List.range ds.length).flatMap λ i=>[Y i])/\∀ i d,ds[i]?=some d->DatV w P d (Y i)
section
variable {w w':World} {B:Nat} {P Q S:Nat->Prop} {lv:Value} {ds:List DT}
theorem RowD.nil (w:World) (B:Nat) (P:Nat->Prop):RowD w B P (.slice none 0 0) []:=⟨λ _=>.nilIface,World.ownsRow_nil _ _ _ _,λ i d h=>by simp at h⟩
theorem RowD.mono (h:RowD w B P lv ds) (hQ:∀ g,g<w.heap.size->P g->Q g):RowD w B Q lv ds:=by
 obtain⟨Y,a,b⟩:=h;exact⟨Y,a,λ i d e=>(b i d e).mono hQ⟩
theorem RowD.fr (h:RowD w B P lv ds) (hf:Fr w w' S) (hS:∀ g,P g->¬ S g) (hv:∀ g,lv.ownBlock=some g->¬ S g):RowD w' B P lv ds:=by
 obtain⟨Y,a,b⟩:=h;exact⟨Y,zb_ a hf hv,λ i d e=>(b i d e).fr hf hS⟩
theorem RowD.row (h:RowD w B P lv ds):∃ ys,w.ownsRow B 94 1 lv ds.length ys:=by
 obtain⟨Y,a,_⟩:=h;exact⟨_,a⟩
theorem RowD.snoc {lv' v:Value}{d:DT}{Y:Nat->Value}(hY:∀ i d,ds[i]?=some d->DatV w P d (Y i)) (hd:DatV w P d v) (hf:Fr w w' S) (hS:∀ g,P g->¬ S g)
 (ho:w'.ownsRow B 94 1 lv' (ds.length+1) (((List.range ds.length).flatMap λ i=>[Y i])++[v])):RowD w' B P lv' (ds++[d]):=by
 refine⟨λ i=>if i<ds.length then Y i else v,?_,λ i e he=>?_⟩
 ·rw[al_,ai_,bi_,a5_,z2_ ds.length _ (λ i=>[Y i]) (λ i hi=>by simp[hi])]
  simpa using ho
 ·by_cases hi:i<ds.length
  ·rw[av_ hi] at he;simp only[hi,if_true];exact(hY i e he).fr hf hS
  ·rw[aw_ (by omega)] at he
   have h0:i-ds.length=0:=by
    rcases bw_ (i-ds.length) with h|h
    ·exact h
    ·rw[bm_ (by simp;omega)] at he;cases he
   rw[h0] at he;simp only[aa_,ad_] at he;subst he;simp only[hi,if_false];exact hd.fr hf hS
theorem RowD.grow {w1 w6:World}{lv v5 v:Value}{d:DT}{Y:Nat->Value}{c:Nat}(hY:∀ i d,ds[i]?=some d->DatV w1 (λ g=>B<=g/\lv.ownBlock≠some g) d (Y i)) (hd:DatV w1 (λ g=>B<=g/\lv.ownBlock≠some g) d v) (hf:Fr w1 w6 (λ g=>lv.ownBlock=some g\/g=c)) (hc:c<B)
 (hl:v5.ownBlock=lv.ownBlock\/∃ h,v5.ownBlock=some h/\w1.heap.size<=h) (ho:w6.ownsRow B 94 1 v5 (ds.length+1) (((List.range ds.length).flatMap λ i=>[Y i])++[v])):RowD w6 B (λ g=>B<=g/\v5.ownBlock≠some g) v5 (ds++[d]):=by
 have up:∀ {d v},DatV w1 (λ g=>B<=g/\lv.ownBlock≠some g) d v->DatV w1 (λ g=>(B<=g/\lv.ownBlock≠some g)/\g<w1.heap.size) d v:=λ h=>h.mono (λ g h1 h2=>⟨h2,h1⟩);refine(RowD.snoc (λ i d e=>up (hY i d e)) (up hd) hf (λ g hg e=>?_) ho).mono (λ g _ hg=>⟨hg.1.1,λ e=>?_⟩)
 ·rcases e with e|e
  ·exact hg.1.2 e
  ·have:=hg.1.1;omega
 ·rcases hl with h|⟨q,h,hq⟩
  ·exact hg.1.2 (h▸e)
  ·rw[h] at e;have:=hg.2;simp only[ad_] at e;omega
theorem RowD.dat (h:RowD w B P lv ds) (hP:∀ g,g<w.heap.size->P g->Q g) (h2:∀ g,lv.ownBlock=some g->Q g){c:Nat}{T:TypeId}(hc:(c=91/\T=169)\/(c=114/\T=176)):DatV w Q (.mk c 0 noB [] ds) (.iface T lv):=by
 obtain⟨Y,a,b⟩:=h;exact .row Y hc (vm_ a) h2 (λ i d e=>(b i d e).mono hP)
end
def RowM (w:World) (P:Nat->Prop) (es:List (BA×DT)) (ys:List Value):Prop:=
 ∃ Y:Nat->Value,(ys=(List.range es.length).flatMap λ i=>[.string ((es.map Prod.fst).getD i noB),Y i])/\(∀ i e,es[i]?=some e->DatV w P e.2 (Y i))/\∀ e∈es,e.1.size<=4000
section
variable {w w':World} {B:Nat} {P Q S:Nat->Prop} {es:List (BA×DT)} {ys:List Value}
theorem RowM.nil (w:World) (P:Nat->Prop):RowM w P [] []:=⟨λ _=>.nilIface,rfl,λ i d h=>by simp at h,λ e h=>by simp at h⟩
theorem RowM.fr (h:RowM w P es ys) (hf:Fr w w' S) (hS:∀ g,P g->¬ S g):RowM w' P es ys:=by
 obtain⟨Y,a,b,c⟩:=h;exact⟨Y,a,λ i d e=>(b i d e).fr hf hS,c⟩
theorem RowM.grow {w1 w6:World}{lv v5 v:Value}{key:BA}{d:DT}{c:Nat}(h:RowM w1 (λ g=>B<=g/\lv.ownBlock≠some g) es ys) (hd:DatV w1 (λ g=>B<=g/\lv.ownBlock≠some g) d v) (hk:key.size<=4000) (hf:Fr w1 w6 (λ g=>lv.ownBlock=some g\/g=c)) (hc:c<B)
 (hl:v5.ownBlock=lv.ownBlock\/∃ h,v5.ownBlock=some h/\w1.heap.size<=h):RowM w6 (λ g=>B<=g/\v5.ownBlock≠some g) (es++[(key,d)]) (ys++[.string key,v]):=by
 obtain⟨Y,a,b,k⟩:=h
 have up:∀ {d v},DatV w1 (λ g=>B<=g/\lv.ownBlock≠some g) d v->DatV w6 (λ g=>B<=g/\v5.ownBlock≠some g) d v:=λ h=>by
  have h1:DatV w1 (λ g=>(B<=g/\lv.ownBlock≠some g)/\g<w1.heap.size) _ _:=h.mono (λ g h1 h2=>⟨h2,h1⟩);refine(h1.fr hf (λ g hg e=>?_)).mono (λ g _ hg=>⟨hg.1.1,λ e=>?_⟩)
  ·rcases e with e|e
   ·exact hg.1.2 e
   ·have:=hg.1.1;omega
  ·rcases hl with h|⟨q,h,hq⟩
   ·exact hg.1.2 (h▸e)
   ·rw[h] at e;have:=hg.2;simp only[ad_] at e;omega
 refine⟨λ i=>if i<es.length then Y i else v,?_,λ i e he=>?_,λ e he=>?_⟩
 ·have hc2:=z2_ es.length (λ i=>[Value.string (((es++[(key,d)]).map Prod.fst).getD i noB),if i<es.length then Y i else v]) (λ i=>[Value.string ((es.map Prod.fst).getD i noB),Y i]) (λ i hi=>by
   simp only[bq_,aq_]
   rw[av_ (by simpa using hi),if_pos hi])
  rw[a,al_,ai_,bi_,a5_,hc2]
  simp[aq_]
 ·by_cases hi:i<es.length
  ·rw[av_ hi] at he;simp only[hi,if_true];exact up (b i e he)
  ·rw[aw_ (by omega)] at he
   have h0:i-es.length=0:=by
    rcases bw_ (i-es.length) with h|h
    ·exact h
    ·rw[bm_ (by simp;omega)] at he;cases he
   rw[h0] at he;simp only[aa_,ad_] at he;subst he;simp only[hi,if_false];exact up hd
 ·rcases bj_.1 he with h|h
  ·exact k e h
  ·simp only[a6_] at h;subst h;exact hk
theorem RowM.dat {lv:Value}(h:RowM w P es ys) (ho:w.ownsRow B 173 2 lv es.length ys) (hP:∀ g,g<w.heap.size->P g->Q g) (h2:∀ g,lv.ownBlock=some g->Q g):DatV w Q (.mk 123 0 noB (es.map Prod.fst) (es.map Prod.snd)) (.iface 171 lv):=by
 obtain⟨Y,a,b,k⟩:=h;subst a;refine .map Y (by simp) (λ x hx=>?_) (by rw[List.length_map];exact vm_ ho) h2 (λ i d e=>?_)
 ·obtain⟨e,he,rfl⟩:=bk_.1 hx;exact k e he
 ·rw[a4_] at e;obtain⟨q,hq,rfl⟩:=b9_.1 e;exact(b i q hq).mono hP
end
def zey (es:List (BA×DT)):Option BA:=es.getLast?.map Prod.fst
theorem jp_ (es:List (BA×DT)) (e:BA×DT):zey (es++[e])=some e.1:=by unfold zey;simp
def zxj (o:Option BA) (n:Nat) (ys:List Value):Prop:=match o with|none=>n=0|some lk=>∃ m,n=m+1/\ys[m*2]?=some (.string lk)
end Go.Proofs.YthmjjpkjgjklmaaGreatDoor
