import Derived.Test.YtiifagiebikmdaaGreatDoorW31
import Derived.LaidEql
import Derived.Stop.Asserts
import Derived.Test.YtiifagiebikmdaaGreatDoorA00
set_option maxHeartbeats 16000000
set_option maxRecDepth 100000
set_option linter.unusedSimpArgs false
open Go.Proofs.Tryz
namespace Go.Proofs.YtiifagiebikmdaaGreatDoor
open Go.RowKit Go.Extern.Stop Go.Stop Go.Extern
variable {W:World}{a:Addr}
theorem zui (v:Value) (w:World):(Extern.ReflectliteType.typeOf #[.iface 309 v]).run prog w=.ok (.iface 176 (.agg #[.pointer (some ⟨22,309,none⟩)])) w:=by kernel_rfl
theorem zki:∃ M:Array Value->Sem Value,(∀ (b:Array Value) (w:World),(callFunc 234 b).run prog w=((M b).run prog w).andThen λ v w'=>.ok (.value v) w')/\∀ w,(M #[.agg #[.pointer (some ⟨22,309,none⟩)]]).run prog w=.ok (.bool true) w:=
 ⟨Extern.ReflectliteType.method λ t=>do Go.Extern.Rtype.noPackHeld "Comparable" t;pure (.bool (<- typeInfo t).comparable),@run_callFunc_extern prog 234 _ (Extern.ReflectliteType.method λ t=>do Go.Extern.Rtype.noPackHeld "Comparable" t;pure (.bool (<- typeInfo t).comparable)) func234 (by kernel_rfl) (by kernel_rfl) (by kernel_rfl) (by kernel_rfl),λ w=>by kernel_rfl⟩
theorem zc1 (v:Value) (w:World):(Go.method 453 176 v "Comparable").run prog w=.ok (234,v) w:=by kernel_rfl
theorem zyu:(Tryz.prog.info? 309).map (·.comparable)=some true:=by kernel_rfl
theorem zyt:(Tryz.prog.info? 311).map (·.size)=some 1:=by kernel_rfl
theorem zz1 (v:Value) (b:TypeId) (w:World):(Instr.typeAssert (.iface 309 v) b 178 true).run prog w=.ok (.tuple #[.nilIface,.bool false]) w:=run_typeAssert_lacksB underlying178 (by kernel_rfl) (by kernel_rfl) v b w
theorem zrd (v:Value) (b:TypeId) (w:World):(Instr.typeAssert (.iface 309 v) b 180 true).run prog w=.ok (.tuple #[.nilIface,.bool false]) w:=run_typeAssert_lacksB underlying180 (by kernel_rfl) (by kernel_rfl) v b w
theorem zoz (v:Value) (b:TypeId) (w:World):(Instr.typeAssert (.iface 309 v) b 181 true).run prog w=.ok (.tuple #[.nilIface,.bool false]) w:=run_typeAssert_lacksB underlying181 (by kernel_rfl) (by kernel_rfl) v b w
theorem zz0 (v:Value) (b:TypeId) (w:World):(Instr.typeAssert (.iface 139 v) b 178 true).run prog w=.ok (.tuple #[.nilIface,.bool false]) w:=run_typeAssert_lacksB underlying178 (by kernel_rfl) (by kernel_rfl) v b w
theorem zpe (v:Value) (b:TypeId) (w:World):(Instr.typeAssert (.iface 139 v) b 180 true).run prog w=.ok (.tuple #[.iface 139 v,.bool true]) w:=run_typeAssert_hasB underlying180 (by kernel_rfl) v b w
theorem zh8 (v:Value) (w:World):(Go.method 453 139 v "Unwrap").run prog w=.ok (221,v) w:=by kernel_rfl
theorem zzz (v:Value) (b:TypeId) (w:World):(Instr.typeAssert (.iface 269 v) b 178 true).run prog w=.ok (.tuple #[.nilIface,.bool false]) w:=run_typeAssert_lacksB underlying178 (by kernel_rfl) (by kernel_rfl) v b w
theorem zpd (v:Value) (b:TypeId) (w:World):(Instr.typeAssert (.iface 269 v) b 180 true).run prog w=.ok (.tuple #[.iface 269 v,.bool true]) w:=run_typeAssert_hasB underlying180 (by kernel_rfl) v b w
theorem zh7 (v:Value) (w:World):(Go.method 453 269 v "Unwrap").run prog w=.ok (257,v) w:=by kernel_rfl
inductive v6_ (W:World) (a:Addr):Nat->Value->Prop
 | leaf:v6_ W a 0 (.iface 309 (.pointer (some a)))
 | fault (g:Nat) (p:Int) (v:Value) (n:Nat) (hb:Blk W g [.int .i64 p,v] 141) (h:v6_ W a n v):v6_ W a (n+1) (.iface 139 (.pointer (some ⟨g,0,none⟩)))
 | within (g:Nat) (tx:BA) (v:Value) (n:Nat) (hb:Blk W g [.string tx,v] 271) (h:v6_ W a n v):v6_ W a (n+1) (.iface 269 (.pointer (some ⟨g,0,none⟩)))
theorem v6_.iface {n:Nat}{v:Value}(h:v6_ W a n v):∃ T x,v=.iface T x:=by
 cases h<;>exact⟨_,_,rfl⟩
open Go.RowKit Go.Extern.Stop Go.Stop Go.Extern
theorem zw2 {b:Addr}{t u:Array Value}{D F:TypeId}(y:W.heap[a.block]?=some (.cells t D (0,0))) (hb:W.heap[b.block]?=some (.cells u F (0,0))){n:Nat}{E:Value}(f:v6_ W a n E) :
 Calls prog 58 #[E,.iface 309 (.pointer (some b)),.bool true] W λ e w'=>e=.returned (.bool (decide (a=b)))/\w'=W:=by
 refine hq_ λ I d=>?_;obtain⟨i,l,h⟩:=b4_.1 zyu;obtain⟨j,q,B⟩:=b4_.1 zyt;have L:=zz1;have O:=zrd;have S:=zoz;have M:=zz0;have Q:=zpe;have J:=zh8;have N:=zzz;have R:=zpd;have K:=zh7;have r:H_ (∃ k,k<n+1/\v6_ W a k E):=q_ ⟨n,by omega,f⟩;clear f
 go_in
 go_wp2_with fail
 go_loopg [0] (n+1) (λ m v G=>∃ k,k<m/\v6_ W a k v/\G=W)
 case atStart=>(obtain⟨k,h1,x⟩:=r.o;exact⟨k,h1,x,rfl⟩)
 case round=>
  clear r;obtain⟨k,hk,hc,rfl⟩:=hrel
  cases hc with
  | leaf=>
   by_cases c:a=b
   ·subst c;have z:=run_eql_iface_ptr_same (P:=prog) wr a underlying53 underlying309 l h q
    go_wp2
    rw[d.o];exact⟨by simp,rfl⟩
   ·have z:=run_eql_iface_ptr_other (P:=prog) wr underlying53 underlying309 l h q (by rw[B];decide) c y hb
    go_wp2
    rw[d.o];exact⟨by simp[c],rfl⟩
  | fault g p v k' hB h1=>
   have C:=run_eql_iface_types (P:=prog) 139 309 (.pointer (some ⟨g,0,none⟩)) (.pointer (some b)) underlying53 (by decide) wr;obtain⟨s,H,rfl⟩:=h1.iface;have c1:=hB.c1;replace h1:=q_ h1;clear hB
   go_wp2
   go_roundg (k'+1)
   case measure=>omega
   case rel=>exact⟨k',by omega,h1.o,rfl⟩
  | within g tx v k' hB h1=>
   have C:=run_eql_iface_types (P:=prog) 269 309 (.pointer (some ⟨g,0,none⟩)) (.pointer (some b)) underlying53 (by decide) wr;obtain⟨s,H,rfl⟩:=h1.iface;have c1:=hB.c1;replace h1:=q_ h1;clear hB
   go_wp2
   go_roundg (k'+1)
   case measure=>omega
   case rel=>exact⟨k',by omega,h1.o,rfl⟩
theorem zw5 {b:Addr}{f g:Array Value}{i j:TypeId}(d:W.heap[a.block]?=some (.cells f i (0,0))) (hb:W.heap[b.block]?=some (.cells g j (0,0))){n:Nat}{E:Value}(c:v6_ W a n E) :
 Calls prog 33 #[E,.iface 309 (.pointer (some b))] W λ e w'=>e=.returned (.bool (decide (a=b)))/\w'=W:=by
 have h:=q_ (zw2 d hb c);obtain⟨l,t,rfl⟩:=c.iface;clear d hb c;have q:=@run_callFunc_extern prog 57 _ Extern.ReflectliteType.typeOf func57 (by kernel_rfl) (by kernel_rfl) (by kernel_rfl) (by kernel_rfl);have s:=zui;obtain⟨k,p,m⟩:=zki;have r:=zc1
 go_in
 go_wp2_with (go_at_call 58;refine h.o.mono ?_;rintro e w' ⟨rfl,rfl⟩)
 go_ret
 exact⟨rfl,rfl⟩
theorem zr3 (b:Addr) (w:World) :
 Calls prog 33 #[.nilIface,.iface 309 (.pointer (some b))] w λ e w'=>e=.returned (.bool false)/\w'=w:=by
 have hn:=run_eql_iface_nil_left (P:=prog) w 309 (.pointer (some b)) underlying53
 go_in
 go_wp2
 go_ret
 exact⟨rfl,rfl⟩
open Go.RowKit
def zhq:List Nat:=[7,0,1,2,3,4,5,6,8,9]
structure vm_ (A:Nat->Addr) (w:World):Prop where
 var:∀ g∈zhq,ErrV g w 309 (.pointer (some (A g)))
 row:∀ g∈zhq,∃ c t,w.heap[(A g).block]?=some (.cells c t (0,0))
 ne:∀ g∈zhq,∀ g'∈zhq,g≠g'->A g≠A g'
theorem vm_.fr {A:Nat->Addr}{w w':World}(h:vm_ A w) (d:Fr w w' (λ _=>False)):vm_ A w':=by
 refine⟨λ g hg=>(h.var g hg).fr d id,λ g hg=>?_,h.ne⟩;obtain⟨c,t,b⟩:=h.row g hg
 have hl:(A g).block<w.heap.size:=by
  by_cases e:(A g).block<w.heap.size
  ·exact e
  ·rw[Array.getElem?_eq_none (by omega)] at b;cases b
 exact⟨c,t,(d.block _ hl id).trans b⟩
theorem zun {A:Nat->Addr}{w:World}(S:vm_ A w){g b n:Nat}{E:Value}(d:b∈zhq) (hg:g∈zhq) (h:v6_ w (A b) n E) :
 Calls prog 33 #[E,.iface 309 (.pointer (some (A g)))] w λ e w'=>e=.returned (.bool (decide (b=g)))/\w'=w:=by
 obtain⟨c,t,f⟩:=S.row b d;obtain⟨i,j,hb⟩:=S.row g hg;refine(zw5 f hb h).mono ?_;rintro e w' ⟨rfl,rfl⟩;refine⟨?_,rfl⟩
 by_cases e:b=g
 ·subst e;simp
 ·simp[e,S.ne b d g hg e]
def zyg:List (Nat×Int):=[(7,1),(0,2),(1,3),(2,4),(3,5),(4,6),(5,7),(6,8),(8,1),(9,1)]
theorem vg_ {A:Nat->Addr}{w:World}(S:vm_ A w){b n:Nat}{k:Int}{E:Value}(d:(b,k)∈zyg) (c:b∈zhq) (h:v6_ w (A b) n E) :
 Calls prog 18 #[E] w λ e w'=>e=.returned (.int .i64 k)/\w'=w:=by
 have f:=q_ (λ g (hg:g∈zhq)=>zun S c hg h);have V:=q_ S.var;clear c;have i:=V.o 7 (by decide);have j:=V.o 0 (by decide);have l:=V.o 1 (by decide);have m:=V.o 2 (by decide);have p:=V.o 3 (by decide);have q:=V.o 4 (by decide);have r:=V.o 5 (by decide);have s:=V.o 6 (by decide);have t:=V.o 8 (by decide);have u:=V.o 9 (by decide);unfold ErrV at i j l m p q r s t u;obtain⟨v,x,rfl⟩:=h.iface;clear h S V;simp only[zyg,ap_,ad_,a9_,or_false] at d
 rcases d with⟨rfl,rfl⟩|⟨rfl,rfl⟩|⟨rfl,rfl⟩|⟨rfl,rfl⟩|⟨rfl,rfl⟩|⟨rfl,rfl⟩|⟨rfl,rfl⟩|⟨rfl,rfl⟩|⟨rfl,rfl⟩|⟨rfl,rfl⟩
 all_goals
  go_in
  go_wp2_with (first
   |(go_at_call 33;refine(f.o _ (by decide)).mono ?_;rintro e w' ⟨rfl,rfl⟩)
   | go_in)
  go_ret
  exact⟨rfl,rfl⟩
section
variable {A:Nat->Addr} {w:World} {n:Nat} {E:Value}
theorem zbc (S:vm_ A w) (h:v6_ w (A 7) n E):Calls prog 18 #[E] w λ e w'=>e=.returned (.int .i64 1)/\w'=w:=vg_ S (by decide) (by decide) h
theorem zac (S:vm_ A w) (h:v6_ w (A 0) n E):Calls prog 18 #[E] w λ e w'=>e=.returned (.int .i64 2)/\w'=w:=vg_ S (by decide) (by decide) h
theorem zbb (S:vm_ A w) (h:v6_ w (A 1) n E):Calls prog 18 #[E] w λ e w'=>e=.returned (.int .i64 3)/\w'=w:=vg_ S (by decide) (by decide) h
theorem za2 (S:vm_ A w) (h:v6_ w (A 2) n E):Calls prog 18 #[E] w λ e w'=>e=.returned (.int .i64 4)/\w'=w:=vg_ S (by decide) (by decide) h
theorem vi_ (S:vm_ A w) (h:v6_ w (A 3) n E):Calls prog 18 #[E] w λ e w'=>e=.returned (.int .i64 5)/\w'=w:=vg_ S (by decide) (by decide) h
theorem zcx (S:vm_ A w) (h:v6_ w (A 4) n E):Calls prog 18 #[E] w λ e w'=>e=.returned (.int .i64 6)/\w'=w:=vg_ S (by decide) (by decide) h
theorem zdk (S:vm_ A w) (h:v6_ w (A 5) n E):Calls prog 18 #[E] w λ e w'=>e=.returned (.int .i64 7)/\w'=w:=vg_ S (by decide) (by decide) h
theorem zcw (S:vm_ A w) (h:v6_ w (A 9) n E):Calls prog 18 #[E] w λ e w'=>e=.returned (.int .i64 1)/\w'=w:=vg_ S (by decide) (by decide) h
end
end Go.Proofs.YtiifagiebikmdaaGreatDoor
