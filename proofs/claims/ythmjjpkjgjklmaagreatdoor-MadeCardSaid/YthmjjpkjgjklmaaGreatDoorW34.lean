import Derived.Test.YthmjjpkjgjklmaaGreatDoorW29
import Derived.LaidEql
import Derived.Stop.Asserts
import Derived.Test.YthmjjpkjgjklmaaGreatDoorA00
set_option maxHeartbeats 16000000
set_option maxRecDepth 100000
set_option linter.unusedSimpArgs false
open Go.Proofs.Tryz
namespace Go.Proofs.YthmjjpkjgjklmaaGreatDoor
open Go.RowKit Go.Extern.Stop Go.Stop Go.Extern
variable {W:World}{a:Addr}
theorem zwg (v:Value) (w:World):(Extern.ReflectliteType.typeOf #[.iface 438 v]).run prog w=.ok (.iface 192 (.agg #[.pointer (some ⟨23,438,none⟩)])) w:=by kernel_rfl
theorem zk9:∃ M:Array Value->Sem Value,(∀ (args:Array Value) (w:World),(callFunc 324 args).run prog w=((M args).run prog w).andThen λ v w'=>.ok (.value v) w')/\∀ w,(M #[.agg #[.pointer (some ⟨23,438,none⟩)]]).run prog w=.ok (.bool true) w:=
 ⟨Extern.ReflectliteType.method λ t=>do Go.Extern.Rtype.noPackHeld "Comparable" t;pure (.bool (<- typeInfo t).comparable),@run_callFunc_extern prog 324 _ (Extern.ReflectliteType.method λ t=>do Go.Extern.Rtype.noPackHeld "Comparable" t;pure (.bool (<- typeInfo t).comparable)) func324 (by kernel_rfl) (by kernel_rfl) (by kernel_rfl) (by kernel_rfl),λ w=>by kernel_rfl⟩
theorem zc6 (v:Value) (w:World):(Go.method 578 192 v "Comparable").run prog w=.ok (324,v) w:=by kernel_rfl
theorem zz2:(Tryz.prog.info? 438).map (·.comparable)=some true:=by kernel_rfl
theorem zz1:(Tryz.prog.info? 440).map (·.size)=some 1:=by kernel_rfl
theorem z06 (v:Value) (xT:TypeId) (w:World):(Instr.typeAssert (.iface 438 v) xT 194 true).run prog w=.ok (.tuple #[.nilIface,.bool false]) w:=run_typeAssert_lacksB underlying194 (by kernel_rfl) (by kernel_rfl) v xT w
theorem zsq (v:Value) (xT:TypeId) (w:World):(Instr.typeAssert (.iface 438 v) xT 196 true).run prog w=.ok (.tuple #[.nilIface,.bool false]) w:=run_typeAssert_lacksB underlying196 (by kernel_rfl) (by kernel_rfl) v xT w
theorem zp3 (v:Value) (xT:TypeId) (w:World):(Instr.typeAssert (.iface 438 v) xT 198 true).run prog w=.ok (.tuple #[.nilIface,.bool false]) w:=run_typeAssert_lacksB underlying198 (by kernel_rfl) (by kernel_rfl) v xT w
theorem z05 (v:Value) (xT:TypeId) (w:World):(Instr.typeAssert (.iface 210 v) xT 194 true).run prog w=.ok (.tuple #[.nilIface,.bool false]) w:=run_typeAssert_lacksB underlying194 (by kernel_rfl) (by kernel_rfl) v xT w
theorem zqq (v:Value) (xT:TypeId) (w:World):(Instr.typeAssert (.iface 210 v) xT 196 true).run prog w=.ok (.tuple #[.iface 210 v,.bool true]) w:=run_typeAssert_hasB underlying196 (by kernel_rfl) v xT w
theorem zir (v:Value) (w:World):(Go.method 578 210 v "Unwrap").run prog w=.ok (334,v) w:=by kernel_rfl
theorem z04 (v:Value) (xT:TypeId) (w:World):(Instr.typeAssert (.iface 374 v) xT 194 true).run prog w=.ok (.tuple #[.nilIface,.bool false]) w:=run_typeAssert_lacksB underlying194 (by kernel_rfl) (by kernel_rfl) v xT w
theorem zqp (v:Value) (xT:TypeId) (w:World):(Instr.typeAssert (.iface 374 v) xT 196 true).run prog w=.ok (.tuple #[.iface 374 v,.bool true]) w:=run_typeAssert_hasB underlying196 (by kernel_rfl) v xT w
theorem ziq (v:Value) (w:World):(Go.method 578 374 v "Unwrap").run prog w=.ok (356,v) w:=by kernel_rfl
inductive v3_ (W:World) (a:Addr):Nat->Value->Prop
 | leaf:v3_ W a 0 (.iface 438 (.pointer (some a)))
 | fault (g:Nat) (p:Int) (v:Value) (n:Nat) (hb:Blk W g [.int .i64 p,v] 212) (h:v3_ W a n v):v3_ W a (n+1) (.iface 210 (.pointer (some ⟨g,0,none⟩)))
 | within (g:Nat) (tx:BA) (v:Value) (n:Nat) (hb:Blk W g [.string tx,v] 376) (h:v3_ W a n v):v3_ W a (n+1) (.iface 374 (.pointer (some ⟨g,0,none⟩)))
theorem v3_.iface {n:Nat}{v:Value}(h:v3_ W a n v):∃ T x,v=.iface T x:=by
 cases h<;>exact⟨_,_,rfl⟩
open Go.RowKit Go.Extern.Stop Go.Stop Go.Extern
theorem zyj {b:Addr}{ca cb:Array Value}{ta tb:TypeId}(ha:W.heap[a.block]?=some (.cells ca ta (0,0))) (hb:W.heap[b.block]?=some (.cells cb tb (0,0))){n:Nat}{E:Value}(hch:v3_ W a n E) :
 Calls prog 67 #[E,.iface 438 (.pointer (some b)),.bool true] W λ e w'=>e=.returned (.bool (decide (a=b)))/\w'=W:=by
 refine hq_ λ POST Q_=>?_;obtain⟨i,hi,hcmp⟩:=b9_.1 zz2;obtain⟨j,hj,hjs⟩:=b9_.1 zz1;have nE:=z06;have uE:=zsq;have vE:=zp3;have nF:=z05;have uF:=zqq;have mF:=zir;have nW:=z04;have uW:=zqp;have mW:=ziq;have start:H_ (∃ k,k<n+1/\v3_ W a k E):=q_ ⟨n,by omega,hch⟩;clear hch
 go_in
 go_wp2_with fail
 go_loopg [0] (n+1) (λ m v wl=>∃ k,k<m/\v3_ W a k v/\wl=W)
 case atStart=>(obtain⟨k,h1,h2⟩:=start.o;exact⟨k,h1,h2,rfl⟩)
 case round=>
  clear start;obtain⟨k,hk,hc,rfl⟩:=hrel
  cases hc with
  | leaf=>
   by_cases hab:a=b
   ·subst hab;have heq:=run_eql_iface_ptr_same (P:=prog) wr a underlying56 underlying438 hi hcmp hj
    go_wp2
    rw[Q_.o];exact⟨by simp,rfl⟩
   ·have heq:=run_eql_iface_ptr_other (P:=prog) wr underlying56 underlying438 hi hcmp hj (by rw[hjs];decide) hab ha hb
    go_wp2
    rw[Q_.o];exact⟨by simp[hab],rfl⟩
  | fault g p v k' hB h1=>
   have hty:=run_eql_iface_types (P:=prog) 210 438 (.pointer (some ⟨g,0,none⟩)) (.pointer (some b)) underlying56 (by decide) wr;obtain⟨T1,x1,rfl⟩:=h1.iface;have c1:=hB.c1;replace h1:=q_ h1;clear hB
   go_wp2
   go_roundg (k'+1)
   case measure=>omega
   case rel=>exact⟨k',by omega,h1.o,rfl⟩
  | within g tx v k' hB h1=>
   have hty:=run_eql_iface_types (P:=prog) 374 438 (.pointer (some ⟨g,0,none⟩)) (.pointer (some b)) underlying56 (by decide) wr;obtain⟨T1,x1,rfl⟩:=h1.iface;have c1:=hB.c1;replace h1:=q_ h1;clear hB
   go_wp2
   go_roundg (k'+1)
   case measure=>omega
   case rel=>exact⟨k',by omega,h1.o,rfl⟩
theorem zyk {b:Addr}{ca cb:Array Value}{ta tb:TypeId}(ha:W.heap[a.block]?=some (.cells ca ta (0,0))) (hb:W.heap[b.block]?=some (.cells cb tb (0,0))){n:Nat}{E:Value}(hch:v3_ W a n E) :
 Calls prog 42 #[E,.iface 438 (.pointer (some b))] W λ e w'=>e=.returned (.bool (decide (a=b)))/\w'=W:=by
 have hC:=q_ (zyj ha hb hch);obtain⟨T1,x1,rfl⟩:=hch.iface;clear ha hb hch;have h8:=@run_callFunc_extern prog 66 _ Extern.ReflectliteType.typeOf func66 (by kernel_rfl) (by kernel_rfl) (by kernel_rfl) (by kernel_rfl);have tT:=zwg;obtain⟨CM,h32,cT⟩:=zk9;have mR:=zc6
 go_in
 go_wp2_with (go_at_call 67;refine hC.o.mono ?_;rintro e w' ⟨rfl,rfl⟩)
 go_ret
 exact⟨rfl,rfl⟩
theorem ztv (b:Addr) (w:World) :
 Calls prog 42 #[.nilIface,.iface 438 (.pointer (some b))] w λ e w'=>e=.returned (.bool false)/\w'=w:=by
 have hn:=run_eql_iface_nil_left (P:=prog) w 438 (.pointer (some b)) underlying56
 go_in
 go_wp2
 go_ret
 exact⟨rfl,rfl⟩
open Go.RowKit
def zh8:List Nat:=[8,0,1,2,3,4,5,6,9,7]
structure xg_ (A:Nat->Addr) (w:World):Prop where
 var:∀ g∈zh8,ErrV g w 438 (.pointer (some (A g)))
 row:∀ g∈zh8,∃ c t,w.heap[(A g).block]?=some (.cells c t (0,0))
 ne:∀ g∈zh8,∀ g'∈zh8,g≠g'->A g≠A g'
theorem xg_.fr {A:Nat->Addr}{w w':World}(h:xg_ A w) (hf:Fr w w' (λ _=>False)):xg_ A w':=by
 refine⟨λ g hg=>(h.var g hg).fr hf id,λ g hg=>?_,h.ne⟩;obtain⟨c,t,hr⟩:=h.row g hg
 have hl:(A g).block<w.heap.size:=by
  by_cases hh:(A g).block<w.heap.size
  ·exact hh
  ·rw[Array.getElem?_eq_none (by omega)] at hr;cases hr
 exact⟨c,t,(hf.block _ hl id).trans hr⟩
theorem zwm {A:Nat->Addr}{w:World}(S:xg_ A w){g g0 n:Nat}{E:Value}(hg0:g0∈zh8) (hg:g∈zh8) (h:v3_ w (A g0) n E) :
 Calls prog 42 #[E,.iface 438 (.pointer (some (A g)))] w λ e w'=>e=.returned (.bool (decide (g0=g)))/\w'=w:=by
 obtain⟨c,t,ha⟩:=S.row g0 hg0;obtain⟨c',t',hb⟩:=S.row g hg;refine(zyk ha hb h).mono ?_;rintro e w' ⟨rfl,rfl⟩;refine⟨?_,rfl⟩
 by_cases e:g0=g
 ·subst e;simp
 ·simp[e,S.ne g0 hg0 g hg e]
def zzj:List (Nat×Int):=[(8,1),(0,2),(1,3),(2,4),(3,5),(4,6),(5,7),(6,8),(9,1),(7,1)]
theorem xt_ {A:Nat->Addr}{w:World}(S:xg_ A w){g0 n:Nat}{k:Int}{E:Value}(hp:(g0,k)∈zzj) (hg0:g0∈zh8) (h:v3_ w (A g0) n E) :
 Calls prog 22 #[E] w λ e w'=>e=.returned (.int .i64 k)/\w'=w:=by
 have H:=q_ (λ g (hg:g∈zh8)=>zwm S hg0 hg h);have V:=q_ S.var;clear hg0;have v0:=V.o 8 (by decide);have v1:=V.o 0 (by decide);have v2:=V.o 1 (by decide);have v3:=V.o 2 (by decide);have v4:=V.o 3 (by decide);have v5:=V.o 4 (by decide);have v6:=V.o 5 (by decide);have v7:=V.o 6 (by decide);have v8:=V.o 9 (by decide);have v9:=V.o 7 (by decide);unfold ErrV at v0 v1 v2 v3 v4 v5 v6 v7 v8 v9;obtain⟨T1,x1,rfl⟩:=h.iface;clear h S V;simp only[zzj,an_,ab_,bf_,or_false] at hp
 rcases hp with⟨rfl,rfl⟩|⟨rfl,rfl⟩|⟨rfl,rfl⟩|⟨rfl,rfl⟩|⟨rfl,rfl⟩|⟨rfl,rfl⟩|⟨rfl,rfl⟩|⟨rfl,rfl⟩|⟨rfl,rfl⟩|⟨rfl,rfl⟩
 all_goals
  go_in
  go_wp2_with (first
   |(go_at_call 42;refine(H.o _ (by decide)).mono ?_;rintro e w' ⟨rfl,rfl⟩)
   | go_in)
  go_ret
  exact⟨rfl,rfl⟩
section
variable {A:Nat->Addr} {w:World} {n:Nat} {E:Value}
theorem zba (S:xg_ A w) (h:v3_ w (A 8) n E):Calls prog 22 #[E] w λ e w'=>e=.returned (.int .i64 1)/\w'=w:=xt_ S (by decide) (by decide) h
theorem zad (S:xg_ A w) (h:v3_ w (A 0) n E):Calls prog 22 #[E] w λ e w'=>e=.returned (.int .i64 2)/\w'=w:=xt_ S (by decide) (by decide) h
theorem za9 (S:xg_ A w) (h:v3_ w (A 1) n E):Calls prog 22 #[E] w λ e w'=>e=.returned (.int .i64 3)/\w'=w:=xt_ S (by decide) (by decide) h
theorem za1 (S:xg_ A w) (h:v3_ w (A 2) n E):Calls prog 22 #[E] w λ e w'=>e=.returned (.int .i64 4)/\w'=w:=xt_ S (by decide) (by decide) h
theorem vn_ (S:xg_ A w) (h:v3_ w (A 3) n E):Calls prog 22 #[E] w λ e w'=>e=.returned (.int .i64 5)/\w'=w:=xt_ S (by decide) (by decide) h
theorem zcx (S:xg_ A w) (h:v3_ w (A 4) n E):Calls prog 22 #[E] w λ e w'=>e=.returned (.int .i64 6)/\w'=w:=xt_ S (by decide) (by decide) h
theorem vz_ (S:xg_ A w) (h:v3_ w (A 5) n E):Calls prog 22 #[E] w λ e w'=>e=.returned (.int .i64 7)/\w'=w:=xt_ S (by decide) (by decide) h
theorem zae (S:xg_ A w) (h:v3_ w (A 6) n E):Calls prog 22 #[E] w λ e w'=>e=.returned (.int .i64 8)/\w'=w:=xt_ S (by decide) (by decide) h
theorem za2 (S:xg_ A w) (h:v3_ w (A 9) n E):Calls prog 22 #[E] w λ e w'=>e=.returned (.int .i64 1)/\w'=w:=xt_ S (by decide) (by decide) h
theorem j3_ (S:xg_ A w) (h:v3_ w (A 7) n E):Calls prog 22 #[E] w λ e w'=>e=.returned (.int .i64 1)/\w'=w:=xt_ S (by decide) (by decide) h
end
end Go.Proofs.YthmjjpkjgjklmaaGreatDoor
