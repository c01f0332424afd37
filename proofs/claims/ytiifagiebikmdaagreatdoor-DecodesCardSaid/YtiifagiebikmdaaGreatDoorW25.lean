import Derived.Test.YtiifagiebikmdaaGreatDoorW06
import Derived.Test.YtiifagiebikmdaaGreatDoorW01
import Derived.Test.YtiifagiebikmdaaGreatDoorW24
import Derived.Test.YtiifagiebikmdaaGreatDoorA00
set_option maxHeartbeats 16000000
set_option maxRecDepth 100000
set_option linter.unusedSimpArgs false
open Go.Proofs.Tryz
namespace Go.Proofs.YtiifagiebikmdaaGreatDoor
open Go.RowKit
variable {c:Int}
def RdAt (w:World) (br:Nat) (sv rv:Value) (s:BA) (i:Nat) (nb:Bool):Prop:=Blk w br [sv,rv,.string s,.int .i64 (i:Int),.bool nb] 114
section
variable {w w':World} {br:Nat} {sv rv:Value} {s:BA} {i:Nat} {nb:Bool}
theorem RdAt.c0 (h:RdAt w br sv rv s i nb):w.cell? ⟨br,0,none⟩=some sv:=by rw[Blk.cell h];rfl
theorem RdAt.c1 (h:RdAt w br sv rv s i nb):w.cell? ⟨br,1,none⟩=some rv:=by rw[Blk.cell h];rfl
theorem RdAt.c2 (h:RdAt w br sv rv s i nb):w.cell? ⟨br,2,none⟩=some (.string s):=by rw[Blk.cell h];rfl
theorem RdAt.c3 (h:RdAt w br sv rv s i nb):w.cell? ⟨br,3,none⟩=some (.int .i64 (i:Int)):=by rw[Blk.cell h];rfl
theorem RdAt.c4 (h:RdAt w br sv rv s i nb):w.cell? ⟨br,4,none⟩=some (.bool nb):=by rw[Blk.cell h];rfl
theorem RdAt.thaw (h:RdAt w br sv rv s i nb) (o:Nat):w.frozen? ⟨br,o,none⟩=false:=Blk.thaw h o
theorem RdAt.still (h:RdAt w br sv rv s i nb) (a:zd_ w w'):RdAt w' br sv rv s i nb:=by obtain⟨n,rfl⟩:=a;exact h
theorem RdAt.inc (h:RdAt w br sv rv s i nb):RdAt (w.setCell ⟨br,3,none⟩ (.int .i64 ((i:Int)+1))) br sv rv s (i+1) nb:=Blk.set h 3 _
end
def zzf (w:World) (br:Nat) (sv rv:Value) (s:BA) (i:Nat) (nb:Bool) (d:Nat) (b:Bool) (w':World):Prop:=
 Fr w w' (· = br)/\((bt s i=d/\b=true/\RdAt w' br sv rv s (i+1) nb/\i<s.size)\/(bt s i≠d/\b=false/\RdAt w' br sv rv s i nb))
theorem zfs {w:World}{br:Nat}{sv rv:Value}{s:BA}{i:Nat}{nb:Bool}(d:Nat) (h:RdAt w br sv rv s i nb) (hs:s.size<=4000) (p:i<=s.size) (hd:c=(d:Int)) (n:0<d) :
 Calls prog 114 #[.pointer (some ⟨br,0,none⟩),.int .u8 c] w λ e w'=>∃ b,e=.returned (.bool b)/\zzf w br sv rv s i nb d b w':=by
 subst hd;refine hq_ λ k f=>?_;have c2:=h.c2;have c3:=h.c3;have l:=h.thaw 3
 by_cases hl:i<s.size
 ·have g:(i:Int)<(s.size:Int):=by omega
  have j:decide ((i:Int)<(s.size:Int))=true:=decide_eq_true g;obtain⟨x,a⟩:∃ x,bt s i=x:=⟨_,rfl⟩
  have m:((s[i]'hl).toNat:Int)=(x:Int):=by rw[<- a,j5_ s i hl]
  by_cases hb:x=d
  ·subst hb;replace a:=q_ a;replace h:=q_ h
   go_in
   go_wp2_with fail
   go_quiet (fail)
   go_wp2_with fail
   try go_ret
   rw[f.o];exact⟨true,rfl,((Fr.refl w _).still (zd_.drewN _ _)).setCell _ _ (λ _=>rfl),.inl ⟨a.o,rfl,(h.o.still (zd_.drewN _ _)).inc,hl⟩⟩
  ·have hn:((x:Int)==(d:Int))=false:=by simp;omega
   replace a:=q_ a;replace h:=q_ h
   go_in
   go_wp2_with fail
   go_quiet (fail)
   go_wp2_with fail
   try go_ret
   rw[f.o];exact⟨false,rfl,(Fr.refl w _).still (zd_.drewN _ _),.inr ⟨by rw[a.o];exact hb,rfl,h.o.still (zd_.drewN _ _)⟩⟩
 ·have g:¬ ((i:Int)<(s.size:Int)):=by omega
  have j:decide ((i:Int)<(s.size:Int))=false:=decide_eq_false g;have hb:H_ (bt s i≠d):=q_ (by rw[zf5 (by omega)];omega);replace h:=q_ h
  go_in
  go_wp2_with fail
  go_quiet (fail)
  go_wp2_with fail
  try go_ret
  rw[f.o];exact⟨false,rfl,(Fr.refl w _).still (zd_.drewN _ _),.inr ⟨hb.o,rfl,h.o.still (zd_.drewN _ _)⟩⟩
theorem y8_ {w:World}{br:Nat}{sv rv:Value}{s:BA}{i:Nat}{nb:Bool}(d:Nat) (h:RdAt w br sv rv s i nb) (hs:s.size<=4000) (j:i<=s.size) (hd:c=(d:Int)) (f:0<d) (hb:bt s i=d) :
 Calls prog 114 #[.pointer (some ⟨br,0,none⟩),.int .u8 c] w λ e w'=>e=.returned (.bool true)/\Fr w w' (· = br)/\RdAt w' br sv rv s (i+1) nb:=by
 refine(zfs d h hs j hd f).mono ?_;rintro e w' ⟨b,rfl,g,a⟩
 rcases a with⟨_,rfl,h1,_⟩|⟨hn,_⟩
 ·exact⟨rfl,g,h1⟩
 ·exact absurd hb hn
theorem xt_ {w:World}{br:Nat}{sv rv:Value}{s:BA}{i:Nat}{nb:Bool}(d:Nat) (h:RdAt w br sv rv s i nb) (hs:s.size<=4000) (j:i<=s.size) (hd:c=(d:Int)) (f:0<d) (hb:bt s i≠d) :
 Calls prog 114 #[.pointer (some ⟨br,0,none⟩),.int .u8 c] w λ e w'=>e=.returned (.bool false)/\Fr w w' (· = br)/\RdAt w' br sv rv s i nb:=by
 refine(zfs d h hs j hd f).mono ?_;rintro e w' ⟨b,rfl,g,a⟩
 rcases a with⟨k,_⟩|⟨_,rfl,h1⟩
 ·exact absurd k hb
 ·exact⟨rfl,g,h1⟩
theorem zkh (c:Nat) (w:World) :
 Calls prog 148 #[.int .u8 (c:Int)] w λ e w'=>e=.returned (.bool (decide (97<=c/\c<=122)))/\w'=w:=by
 have hb:decide (97<=c/\c<=122)=(decide ((97:Int)<=(c:Int))&&decide ((c:Int)<=122)):=by
  rw[Bool.decide_and,show decide ((97:Int)<=(c:Int))=decide (97<=c) by congr 1;exact propext (by omega),show decide ((c:Int)<=122)=decide (c<=122) by congr 1;exact propext (by omega)]
 rw[hb]
 by_cases h1:(97:Int)<=(c:Int)
 ·go_in
  go_wp2
  go_ret
  exact⟨by simp[h1],rfl⟩
 ·go_in
  go_wp2
  go_ret
  exact⟨by simp;omega,rfl⟩
theorem zbd {w:World}{br:Nat}{sv rv:Value}{s:BA}{i:Nat}{nb:Bool}(h:RdAt w br sv rv s i nb) (hs:s.size<=4000) (A:i<=s.size) :
 Calls prog 147 #[.pointer (some ⟨br,0,none⟩),.func (.func 148) #[] #[]] w λ e w'=>e=.returned (.string (s.extract i (z0_ 97 122 s i)))/\Fr w w' (· = br)/\RdAt w' br sv rv s (z0_ 97 122 s i) nb:=by
 refine hq_ λ x y=>?_;have c3:=h.c3;have u:H_ (∃ k,i<=k/\k<=s.size/\s.size+1-k<=s.size+1/\Fr w w (· = br)/\RdAt w br sv rv s k nb/\z0_ 97 122 s i=z0_ 97 122 s k):=q_ ⟨i,l_,A,by omega,Fr.refl _ _,h,rfl⟩;replace h:=q_ h
 go_in
 go_wp2_with fail
 clear c3
 go_loopg [] (s.size+1) (λ m W=>∃ k,i<=k/\k<=s.size/\s.size+1-k<=m/\Fr w W (· = br)/\RdAt W br sv rv s k nb/\z0_ 97 122 s i=z0_ 97 122 s k)
 case atStart=>exact u.o
 case round=>
  clear u;obtain⟨k,F,H,J,g,f,he⟩:=hrel;have c2:=f.c2;have c3:=f.c3;have D:=f.thaw 3
  have G:(i:Int)<=(k:Int):=by omega
  have I:(k:Int)<=(s.size:Int):=by omega
  replace g:=q_ g;replace f:=q_ f
  have l:H_ (z0_ 97 122 s k=k->∀ W,zd_ wr W->x (.returned (.string (s.extract i k))) W):=q_ (λ hk W r=>by
   rw[y.o,he,hk]
   exact⟨rfl,g.o.still r,f.o.still r⟩)
  by_cases hk:k<s.size
  ·have p:(k:Int)<(s.size:Int):=by omega
   have z:decide ((k:Int)<(s.size:Int))=true:=decide_eq_true p;obtain⟨c,hc⟩:∃ c,bt s k=c:=⟨_,rfl⟩
   have E:((s[k]'hk).toNat:Int)=(c:Int):=by rw[<- hc,j5_ s k hk]
   have t:H_ (∀ (q:Nat) (b:Bool),decide (97<=c/\c<=122)=b->Calls prog 148 #[.int .u8 (c:Int)] (wr.drewN q) λ e w'=>e=.returned (.bool b)/\w'=wr.drewN q):=q_ (λ q b hb=>by rw[<- hb];exact zkh c _)
   have a:z0_ 97 122 s k=if 97<=c/\c<=122 then z0_ 97 122 s (k+1) else k:=by
    rw[z0_,dif_pos hk,hc]
   by_cases j:97<=c/\c<=122
   ·rw[if_pos j] at a;have n:=q_ (decide_eq_true j);have C:=q_ (he.trans a);clear a he l;replace hc:=q_ hc
    go_wp2_with fail
    go_quiet (first|(go_at_call 148;exact Calls.quiet_of_same (t.o _ _ n.o)))
    go_wp2_with fail
    go_roundg (s.size+1-(k+1))
    case measure=>omega
    case rel=>exact⟨k+1,by omega,hk,l_,(g.o.still (zd_.drewN _ _)).setCell _ _ (λ _=>rfl),(f.o.still (zd_.drewN _ _)).inc,C.o⟩
   ·rw[if_neg j] at a;have n:=q_ (decide_eq_false j);replace a:=q_ a;replace hc:=q_ hc;clear he
    go_wp2_with fail
    go_quiet (first|(go_at_call 148;exact Calls.quiet_of_same (t.o _ _ n.o)))
    go_wp2_with fail
    go_quiet (fail)
    go_wp2_with fail
    try go_ret
    exact l.o a.o _ ((zd_.drewN _ _).trans (zd_.drewN _ _))
  ·have p:¬ ((k:Int)<(s.size:Int)):=by omega
   have z:decide ((k:Int)<(s.size:Int))=false:=decide_eq_false p;have a:=q_ (show z0_ 97 122 s k=k by rw[z0_,dif_neg hk]);clear he
   go_wp2_with fail
   go_quiet (fail)
   go_wp2_with fail
   go_quiet (fail)
   go_wp2_with fail
   try go_ret
   exact l.o a.o _ ((zd_.drewN _ _).trans (zd_.drewN _ _))
theorem zmf (c:Nat) (w:World) :
 Calls prog 163 #[.int .u8 (c:Int)] w λ e w'=>e=.returned (.bool (decide (48<=c/\c<=57)))/\w'=w:=by
 have hb:decide (48<=c/\c<=57)=(decide ((48:Int)<=(c:Int))&&decide ((c:Int)<=57)):=by
  rw[Bool.decide_and,show decide ((48:Int)<=(c:Int))=decide (48<=c) by congr 1;exact propext (by omega),show decide ((c:Int)<=57)=decide (c<=57) by congr 1;exact propext (by omega)]
 rw[hb]
 by_cases h1:(48:Int)<=(c:Int)
 ·go_in
  go_wp2
  go_ret
  exact⟨by simp[h1],rfl⟩
 ·go_in
  go_wp2
  go_ret
  exact⟨by simp;omega,rfl⟩
theorem zl8 {w:World}{br:Nat}{sv rv:Value}{s:BA}{i:Nat}{nb:Bool}(h:RdAt w br sv rv s i nb) (hs:s.size<=4000) (A:i<=s.size) :
 Calls prog 147 #[.pointer (some ⟨br,0,none⟩),.func (.func 163) #[] #[]] w λ e w'=>e=.returned (.string (s.extract i (z0_ 48 57 s i)))/\Fr w w' (· = br)/\RdAt w' br sv rv s (z0_ 48 57 s i) nb:=by
 refine hq_ λ x y=>?_;have c3:=h.c3;have u:H_ (∃ k,i<=k/\k<=s.size/\s.size+1-k<=s.size+1/\Fr w w (· = br)/\RdAt w br sv rv s k nb/\z0_ 48 57 s i=z0_ 48 57 s k):=q_ ⟨i,l_,A,by omega,Fr.refl _ _,h,rfl⟩;replace h:=q_ h
 go_in
 go_wp2_with fail
 clear c3
 go_loopg [] (s.size+1) (λ m W=>∃ k,i<=k/\k<=s.size/\s.size+1-k<=m/\Fr w W (· = br)/\RdAt W br sv rv s k nb/\z0_ 48 57 s i=z0_ 48 57 s k)
 case atStart=>exact u.o
 case round=>
  clear u;obtain⟨k,F,H,J,g,f,he⟩:=hrel;have c2:=f.c2;have c3:=f.c3;have D:=f.thaw 3
  have G:(i:Int)<=(k:Int):=by omega
  have I:(k:Int)<=(s.size:Int):=by omega
  replace g:=q_ g;replace f:=q_ f
  have l:H_ (z0_ 48 57 s k=k->∀ W,zd_ wr W->x (.returned (.string (s.extract i k))) W):=q_ (λ hk W r=>by
   rw[y.o,he,hk]
   exact⟨rfl,g.o.still r,f.o.still r⟩)
  by_cases hk:k<s.size
  ·have p:(k:Int)<(s.size:Int):=by omega
   have z:decide ((k:Int)<(s.size:Int))=true:=decide_eq_true p;obtain⟨c,hc⟩:∃ c,bt s k=c:=⟨_,rfl⟩
   have E:((s[k]'hk).toNat:Int)=(c:Int):=by rw[<- hc,j5_ s k hk]
   have t:H_ (∀ (q:Nat) (b:Bool),decide (48<=c/\c<=57)=b->Calls prog 163 #[.int .u8 (c:Int)] (wr.drewN q) λ e w'=>e=.returned (.bool b)/\w'=wr.drewN q):=q_ (λ q b hb=>by rw[<- hb];exact zmf c _)
   have a:z0_ 48 57 s k=if 48<=c/\c<=57 then z0_ 48 57 s (k+1) else k:=by
    rw[z0_,dif_pos hk,hc]
   by_cases j:48<=c/\c<=57
   ·rw[if_pos j] at a;have n:=q_ (decide_eq_true j);have C:=q_ (he.trans a);clear a he l;replace hc:=q_ hc
    go_wp2_with fail
    go_quiet (first|(go_at_call 163;exact Calls.quiet_of_same (t.o _ _ n.o)))
    go_wp2_with fail
    go_roundg (s.size+1-(k+1))
    case measure=>omega
    case rel=>exact⟨k+1,by omega,hk,l_,(g.o.still (zd_.drewN _ _)).setCell _ _ (λ _=>rfl),(f.o.still (zd_.drewN _ _)).inc,C.o⟩
   ·rw[if_neg j] at a;have n:=q_ (decide_eq_false j);replace a:=q_ a;replace hc:=q_ hc;clear he
    go_wp2_with fail
    go_quiet (first|(go_at_call 163;exact Calls.quiet_of_same (t.o _ _ n.o)))
    go_wp2_with fail
    go_quiet (fail)
    go_wp2_with fail
    try go_ret
    exact l.o a.o _ ((zd_.drewN _ _).trans (zd_.drewN _ _))
  ·have p:¬ ((k:Int)<(s.size:Int)):=by omega
   have z:decide ((k:Int)<(s.size:Int))=false:=decide_eq_false p;have a:=q_ (show z0_ 48 57 s k=k by rw[z0_,dif_neg hk]);clear he
   go_wp2_with fail
   go_quiet (fail)
   go_wp2_with fail
   go_quiet (fail)
   go_wp2_with fail
   try go_ret
   exact l.o a.o _ ((zd_.drewN _ _).trans (zd_.drewN _ _))
open Go.RowKit
inductive ziz:DT->Value->Prop
 | nothing:ziz (.mk 110 0 noB [] []) (.iface 188 (.agg #[]))
 | truth (b:Bool):ziz (.mk 116 (if b=true then 1 else 0) noB [] []) (.iface 164 (.bool b))
 | num (c:Nat) (n:Int) (hc:c=105\/c=108) (h0 : -9223372036854775808<=n) (h1:n<=9223372036854775807):ziz (.mk c n noB [] []) (.iface 166 (.int .i64 n))
 | text (tx:BA) (h:tx.size<=4000):ziz (.mk 115 0 tx [] []) (.iface 168 (.string tx))
 | bytes (tx:BA) (h:tx.size<=4000):ziz (.mk 102 0 tx [] []) (.iface 174 (.string tx))
 | sym (n l:Nat) (h:n<=4000):ziz (.mk 101 (n:Int) noB [] []) (.iface 173 (.agg #[.int .u8 (l:Int),.int .i64 (n:Int)]))
inductive DatV (w:World) (P:Nat->Prop):DT->Value->Prop
 | flat {d:DT} {v:Value} (h:ziz d v):DatV w P d v
 | branch (n:Nat) (h:n<=4000) {d:DT} {v:Value} (hd:DatV w P d v):DatV w P (.mk 40 (n:Int) noB [] [d]) (.iface 162 (.agg #[.int .i64 (n:Int),v]))
 | row {c:Nat} {T:TypeId} {ds:List DT} {lv:Value} (Y:Nat->Value) (hc:(c=91/\T=156)\/(c=114/\T=163)) (ho:w.ownsRow 0 89 1 lv ds.length ((List.range ds.length).flatMap λ i=>[Y i])) (hP:∀ g,lv.ownBlock=some g->P g)
  (hd:∀ i d,ds[i]?=some d->DatV w P d (Y i)):DatV w P (.mk c 0 noB [] ds) (.iface T lv)
 | map {ks:List BA} {ds:List DT} {lv:Value} (Y:Nat->Value) (hl:ks.length=ds.length) (hk:∀ k∈ks,k.size<=4000) (ho:w.ownsRow 0 160 2 lv ds.length ((List.range ds.length).flatMap λ i=>[.string (ks.getD i noB),Y i])) (hP:∀ g,lv.ownBlock=some g->P g)
  (hd:∀ i d,ds[i]?=some d->DatV w P d (Y i)):DatV w P (.mk 123 0 noB ks ds) (.iface 158 lv)
section
variable {w w':World} {P Q S:Nat->Prop} {d:DT} {v:Value}
theorem DatV.mono (h:DatV w P d v) (a:∀ g,g<w.heap.size->P g->Q g):DatV w Q d v:=by
 induction h with
 | flat h=>exact .flat h
 | branch n h hd ih=>exact .branch n h ih
 | row Y hc ho hP hd ih=>exact .row Y hc ho (λ g e=>a g (ho.lt g e).2 (hP g e)) ih
 | map Y hl hk ho hP hd ih=>exact .map Y hl hk ho (λ g e=>a g (ho.lt g e).2 (hP g e)) ih
theorem DatV.fr (h:DatV w P d v) (b:Fr w w' S) (a:∀ g,P g->¬ S g):DatV w' P d v:=by
 induction h with
 | flat h=>exact .flat h
 | branch n h hd ih=>exact .branch n h ih
 | row Y hc ho hP hd ih=>exact .row Y hc (za_ ho b (λ g e=>a g (hP g e))) hP ih
 | map Y hl hk ho hP hd ih=>exact .map Y hl hk (za_ ho b (λ g e=>a g (hP g e))) hP ih
theorem DatV.iface (h:DatV w P d v):∃ T x,v=.iface T x:=by
 cases h with
 | flat h=>cases h<;>exact⟨_,_,rfl⟩
 | branch n h hd=>exact⟨_,_,rfl⟩
 | row Y hc ho hP hd=>exact⟨_,_,rfl⟩
 | map Y hl hk ho hP hd=>exact⟨_,_,rfl⟩
end
def RowD (w:World) (B:Nat) (P:Nat->Prop) (lv:Value) (ds:List DT):Prop:=
 ∃ Y:Nat->Value,w.ownsRow B 89 1 lv ds.length ((List.range ds.length).flatMap λ i=>[Y i])/\∀ i d,ds[i]?=some d->DatV w P d (Y i)
section
variable {w w':World} {B:Nat} {P Q S:Nat->Prop} {lv:Value} {ds:List DT}
theorem RowD.nil (w:World) (B:Nat) (P:Nat->Prop):RowD w B P (.slice none 0 0) []:=⟨λ _=>.nilIface,World.ownsRow_nil _ _ _ _,λ i d h=>by simp at h⟩
theorem RowD.mono (h:RowD w B P lv ds) (f:∀ g,g<w.heap.size->P g->Q g):RowD w B Q lv ds:=by
 obtain⟨Y,a,b⟩:=h;exact⟨Y,a,λ i d e=>(b i d e).mono f⟩
theorem RowD.fr (h:RowD w B P lv ds) (f:Fr w w' S) (j:∀ g,P g->¬ S g) (k:∀ g,lv.ownBlock=some g->¬ S g):RowD w' B P lv ds:=by
 obtain⟨Y,a,b⟩:=h;exact⟨Y,za_ a f k,λ i d e=>(b i d e).fr f j⟩
theorem RowD.row (h:RowD w B P lv ds):∃ ys,w.ownsRow B 89 1 lv ds.length ys:=by
 obtain⟨Y,a,_⟩:=h;exact⟨_,a⟩
theorem RowD.snoc {j v:Value}{d:DT}{Y:Nat->Value}(k:∀ i d,ds[i]?=some d->DatV w P d (Y i)) (hd:DatV w P d v) (f:Fr w w' S) (b:∀ g,P g->¬ S g)
 (ho:w'.ownsRow B 89 1 j (ds.length+1) (((List.range ds.length).flatMap λ i=>[Y i])++[v])):RowD w' B P j (ds++[d]):=by
 refine⟨λ i=>if i<ds.length then Y i else v,?_,λ i e he=>?_⟩
 ·rw[ah_,am_,bh_,a8_,yi_ ds.length _ (λ i=>[Y i]) (λ i a=>by simp[a])]
  simpa using ho
 ·by_cases a:i<ds.length
  ·rw[au_ a] at he;simp only[a,if_true];exact(k i e he).fr f b
  ·rw[ar_ (by omega)] at he
   have h0:i-ds.length=0:=by
    rcases bx_ (i-ds.length) with h|h
    ·exact h
    ·rw[bn_ (by simp;omega)] at he;cases he
   rw[h0] at he;simp only[aa_,ag_] at he;subst he;simp only[a,if_false];exact hd.fr f b
theorem RowD.grow {w1 b:World}{lv a v:Value}{d:DT}{Y:Nat->Value}{c:Nat}(j:∀ i d,ds[i]?=some d->DatV w1 (λ g=>B<=g/\lv.ownBlock≠some g) d (Y i)) (hd:DatV w1 (λ g=>B<=g/\lv.ownBlock≠some g) d v) (k:Fr w1 b (λ g=>lv.ownBlock=some g\/g=c)) (hc:c<B)
 (hl:a.ownBlock=lv.ownBlock\/∃ h,a.ownBlock=some h/\w1.heap.size<=h) (ho:b.ownsRow B 89 1 a (ds.length+1) (((List.range ds.length).flatMap λ i=>[Y i])++[v])):RowD b B (λ g=>B<=g/\a.ownBlock≠some g) a (ds++[d]):=by
 have up:∀ {d v},DatV w1 (λ g=>B<=g/\lv.ownBlock≠some g) d v->DatV w1 (λ g=>(B<=g/\lv.ownBlock≠some g)/\g<w1.heap.size) d v:=λ h=>h.mono (λ g h1 f=>⟨f,h1⟩);refine(RowD.snoc (λ i d e=>up (j i d e)) (up hd) k (λ g hg e=>?_) ho).mono (λ g _ hg=>⟨hg.1.1,λ e=>?_⟩)
 ·rcases e with e|e
  ·exact hg.1.2 e
  ·have:=hg.1.1;omega
 ·rcases hl with h|⟨q,h,l⟩
  ·exact hg.1.2 (h▸e)
  ·rw[h] at e;have:=hg.2;simp only[ag_] at e;omega
theorem RowD.dat (h:RowD w B P lv ds) (hP:∀ g,g<w.heap.size->P g->Q g) (f:∀ g,lv.ownBlock=some g->Q g){c:Nat}{T:TypeId}(hc:(c=91/\T=156)\/(c=114/\T=163)):DatV w Q (.mk c 0 noB [] ds) (.iface T lv):=by
 obtain⟨Y,a,b⟩:=h;exact .row Y hc (yq_ a) f (λ i d e=>(b i d e).mono hP)
end
def RowM (w:World) (P:Nat->Prop) (es:List (BA×DT)) (ys:List Value):Prop:=
 ∃ Y:Nat->Value,(ys=(List.range es.length).flatMap λ i=>[.string ((es.map Prod.fst).getD i noB),Y i])/\(∀ i e,es[i]?=some e->DatV w P e.2 (Y i))/\∀ e∈es,e.1.size<=4000
section
variable {w w':World} {B:Nat} {P Q S:Nat->Prop} {es:List (BA×DT)} {ys:List Value}
theorem RowM.nil (w:World) (P:Nat->Prop):RowM w P [] []:=⟨λ _=>.nilIface,rfl,λ i d h=>by simp at h,λ e h=>by simp at h⟩
theorem RowM.fr (h:RowM w P es ys) (j:Fr w w' S) (f:∀ g,P g->¬ S g):RowM w' P es ys:=by
 obtain⟨Y,a,b,c⟩:=h;exact⟨Y,a,λ i d e=>(b i d e).fr j f,c⟩
theorem RowM.grow {w1 l:World}{lv j v:Value}{key:BA}{d:DT}{c:Nat}(h:RowM w1 (λ g=>B<=g/\lv.ownBlock≠some g) es ys) (hd:DatV w1 (λ g=>B<=g/\lv.ownBlock≠some g) d v) (hk:key.size<=4000) (o:Fr w1 l (λ g=>lv.ownBlock=some g\/g=c)) (hc:c<B)
 (hl:j.ownBlock=lv.ownBlock\/∃ h,j.ownBlock=some h/\w1.heap.size<=h):RowM l (λ g=>B<=g/\j.ownBlock≠some g) (es++[(key,d)]) (ys++[.string key,v]):=by
 obtain⟨Y,a,b,k⟩:=h
 have up:∀ {d v},DatV w1 (λ g=>B<=g/\lv.ownBlock≠some g) d v->DatV l (λ g=>B<=g/\j.ownBlock≠some g) d v:=λ h=>by
  have h1:DatV w1 (λ g=>(B<=g/\lv.ownBlock≠some g)/\g<w1.heap.size) _ _:=h.mono (λ g h1 m=>⟨m,h1⟩);refine(h1.fr o (λ g hg e=>?_)).mono (λ g _ hg=>⟨hg.1.1,λ e=>?_⟩)
  ·rcases e with e|e
   ·exact hg.1.2 e
   ·have:=hg.1.1;omega
  ·rcases hl with h|⟨q,h,p⟩
   ·exact hg.1.2 (h▸e)
   ·rw[h] at e;have:=hg.2;simp only[ag_] at e;omega
 refine⟨λ i=>if i<es.length then Y i else v,?_,λ i e he=>?_,λ e he=>?_⟩
 ·have n:=yi_ es.length (λ i=>[Value.string (((es++[(key,d)]).map Prod.fst).getD i noB),if i<es.length then Y i else v]) (λ i=>[Value.string ((es.map Prod.fst).getD i noB),Y i]) (λ i f=>by
   simp only[be_,bd_]
   rw[au_ (by simpa using f),if_pos f])
  rw[a,ah_,am_,bh_,a8_,n]
  simp[bd_]
 ·by_cases f:i<es.length
  ·rw[au_ f] at he;simp only[f,if_true];exact up (b i e he)
  ·rw[ar_ (by omega)] at he
   have h0:i-es.length=0:=by
    rcases bx_ (i-es.length) with h|h
    ·exact h
    ·rw[bn_ (by simp;omega)] at he;cases he
   rw[h0] at he;simp only[aa_,ag_] at he;subst he;simp only[f,if_false];exact up hd
 ·rcases bg_.1 he with h|h
  ·exact k e h
  ·simp only[bj_] at h;subst h;exact hk
theorem RowM.dat {lv:Value}(h:RowM w P es ys) (ho:w.ownsRow B 160 2 lv es.length ys) (hP:∀ g,g<w.heap.size->P g->Q g) (f:∀ g,lv.ownBlock=some g->Q g):DatV w Q (.mk 123 0 noB (es.map Prod.fst) (es.map Prod.snd)) (.iface 158 lv):=by
 obtain⟨Y,a,b,k⟩:=h;subst a;refine .map Y (by simp) (λ x l=>?_) (by rw[bf_];exact yq_ ho) f (λ i d e=>?_)
 ·obtain⟨e,he,rfl⟩:=bs_.1 l;exact k e he
 ·rw[bk_] at e;obtain⟨q,j,rfl⟩:=b4_.1 e;exact(b i q j).mono hP
end
def zen (es:List (BA×DT)):Option BA:=es.getLast?.map Prod.fst
theorem jg_ (es:List (BA×DT)) (e:BA×DT):zen (es++[e])=some e.1:=by unfold zen;simp
def zvu (o:Option BA) (n:Nat) (ys:List Value):Prop:=match o with|none=>n=0|some lk=>∃ m,n=m+1/\ys[m*2]?=some (.string lk)
end Go.Proofs.YtiifagiebikmdaaGreatDoor
