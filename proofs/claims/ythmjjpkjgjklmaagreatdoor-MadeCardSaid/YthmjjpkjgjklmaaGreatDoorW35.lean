import Derived.Test.YthmjjpkjgjklmaaGreatDoorW34
import Derived.Test.YthmjjpkjgjklmaaGreatDoorW22
import Derived.Test.YthmjjpkjgjklmaaGreatDoorW28
import Derived.Test.YthmjjpkjgjklmaaGreatDoorW27
import Derived.Test.YthmjjpkjgjklmaaGreatDoorW29
import Derived.Test.YthmjjpkjgjklmaaGreatDoorA00
set_option maxHeartbeats 16000000
set_option maxRecDepth 100000
set_option linter.unusedSimpArgs false
open Go.Proofs.Tryz
namespace Go.Proofs.YthmjjpkjgjklmaaGreatDoor
open Go.RowKit
variable {w:World}{A:Nat->Addr}{lo:Nat}{ev:Value}{a:Int×Int}{s:BA}
theorem v4_ {P:Nat->Prop}{d:DT}{v:Value}{bt:TypeId}{bx:Value}(hv:DatV w P d v) (hn:ndT d<=1000000000) (hE:ErrV 5 w bt bx) :
 Calls prog 39 #[v] w λ e w'=>e=.returned (if ndT d > 300 then .iface bt bx else .nilIface)/\Fr w w' (λ _=>False):=by
 refine hq_ λ POST Q_=>?_;have hC:=q_ (zp2 (ndT d) d l_ hn w P v hv);obtain⟨T,x,rfl⟩:=hv.iface;clear hv
 by_cases h3:ndT d > 300
 ·have h3':(ndT d:Int) > 300:=by omega
  rw[if_pos h3] at Q_
  go_in
  go_wp2_with (go_at_call 64;refine hC.o.mono ?_;rintro e w2 ⟨rfl,hf2⟩;have hE2:=hE.fr hf2 id;unfold ErrV at hE2;replace hf2:=q_ hf2)
  try go_ret
  rw[Q_.o];exact⟨rfl,hf2.o⟩
 ·have h3':¬ (ndT d:Int) > 300:=by omega
  rw[if_neg h3] at Q_
  go_in
  go_wp2_with (go_at_call 64;refine hC.o.mono ?_;rintro e w2 ⟨rfl,hf2⟩;replace hf2:=q_ hf2)
  try go_ret
  rw[Q_.o];exact⟨rfl,hf2.o⟩
theorem zqn (S:xg_ A w) :
 Calls prog 41 #[.nilIface] w λ e w'=>e=.returned (.bool false)/\w'=w:=by
 have v1:=S.var 8 (by decide);have v2:=S.var 9 (by decide);have v3:=S.var 7 (by decide);unfold ErrV at v1 v2 v3;have hI:=ztv;clear S
 go_in
 go_wp2_with (go_at_call 42;refine(hI _ _).mono ?_;rintro e w' ⟨rfl,rfl⟩)
 try go_ret
 exact⟨rfl,rfl⟩
theorem zpz (S:xg_ A w) :
 Calls prog 22 #[.nilIface] w λ e w'=>e=.returned (.int .i64 0)/\w'=w:=by
 have v1:=S.var 0 (by decide);have v2:=S.var 1 (by decide);have v3:=S.var 2 (by decide);have v4:=S.var 3 (by decide);have v5:=S.var 4 (by decide);have v6:=S.var 5 (by decide);have v7:=S.var 6 (by decide);unfold ErrV at v1 v2 v3 v4 v5 v6 v7;have hI:=ztv;have hL:=q_ (zqn S);clear S
 go_in
 go_wp2_with (first
  |(go_at_call 41;refine hL.o.mono ?_;rintro e w' ⟨rfl,rfl⟩)
  |(go_at_call 42;refine(hI _ _).mono ?_;rintro e w' ⟨rfl,rfl⟩))
 try go_ret
 exact⟨rfl,rfl⟩
open Go.RowKit
theorem zp7 {sa:Option Addr}{sn sc:Nat}{rT:TypeId}{rx:Value}{lt:TypeId}{lx:Value}(hE:ErrV 9 w lt lx) (hs:4000<s.size) :
 Calls prog 50 #[.agg #[.slice sa sn sc,.iface rT rx],.string s] w λ e w'=>e=.returned (.tuple #[.nilIface,.iface lt lx])/\Fr w w' (λ _=>False):=by
 refine hq_ λ POST Q_=>?_
 have hs':(s.size:Int) > 4000:=by omega
 have A:Fr w (w.alloc (.cells #[.slice sa sn sc,.iface rT rx] 90)) (λ _=>False):=(Fr.refl w _).alloc _;have hE2:=hE.fr A id;unfold ErrV at hE2;replace A:=q_ A;clear hE
 go_in
 go_wp2_with fail
 go_quiet (fail)
 go_wp2_with fail
 try go_ret
 rw[Q_.o];exact⟨rfl,A.o.still (ze_.drewN _ _)⟩
theorem zsu {w0:World}{P:Nat->Prop}{ss:BA}{ds:List PD}{sv:Value}{rT:TypeId}{rx:Value}{xs:List Value}{nt:TypeId}{nx:Value}{t:PT}(D:DRow w P ss ds sv xs) (hT:TyV w P t (.iface rT rx)) (hG:y1_ w0 w) (hk:w0.heap.size<=w.heap.size) (hPw:∀ g,P g->g<w.heap.size) (hE:ErrV 3 w0 nt nx) (hs:s.size<=4000) (hok:okT (za_ ds) t) (hen:v0_ ds) (hbe:brE false ds) (hbt:brT false t) (hI:yi_ w0) (hQ:yd_ w0) (hN:zh2 w0) (hPar:xh_ w0) :
 Calls prog 50 #[.agg #[sv,.iface rT rx],.string s] w (zgs (za_ ds) t w (λ _=>False) nt nx (xn_ (za_ ds) false t s)):=by
 refine hq_ λ POST Q_=>?_;obtain⟨sa,sc,rfl⟩:=zf_ D.row
 have hs':¬ (s.size:Int) > 4000:=by omega
 have A:Fr w ((w.alloc (.cells #[.slice sa ds.length sc,.iface rT rx] 90)).alloc (.cells #[.slice sa ds.length sc,.iface rT rx,.string s,.int .i64 0,.bool true] 144)) (λ _=>False):=((Fr.refl w _).alloc _).alloc _
 have z1:(w.alloc (.cells #[.slice sa ds.length sc,.iface rT rx] 90)).heap.size=w.heap.size+1:=by simp
 have hR0:=Blk.new (w.alloc (.cells #[.slice sa ds.length sc,.iface rT rx] 90)) #[.slice sa ds.length sc,.iface rT rx,.string s,.int .i64 0,.bool true] 144;rw[z1] at hR0
 have M0:NC w0 P ss ds (.slice sa ds.length sc) (.iface rT rx) xs s nt nx false (w.heap.size+1) 0 ((w.alloc (.cells #[.slice sa ds.length sc,.iface rT rx] 90)).alloc (.cells #[.slice sa ds.length sc,.iface rT rx,.string s,.int .i64 0,.bool true] 144)):=
  ⟨hR0,D.fr A u_,hG.fr A hk (λ g f=>f.elim),hE,λ g hg=>by have:=hPw g hg;omega,by omega,by omega,aj_ _⟩
 have hC:=q_ (zhi M0 (hT.fr A u_) (zt8 hen hbe hI hQ (hN _ _ _ _ _ _ _ _ _ _ _) (zxp hI hPar) _ t 0 hok hbt o_ (by split<;>omega)));replace A:=q_ A;clear M0 hR0 z1 D hT hG
 go_in
 go_wp2_with (go_at_call 80;refine hC.o.mono ?_;rintro e w1 ⟨v1,ev1,rfl,hf1,hm⟩;replace hf1:=q_ hf1;replace hm:=q_ hm)
 try go_ret
 rw[Q_.o];have hsz:=A.o.size;refine⟨v1,ev1,rfl,A.o.trans hf1.o (λ g hg e=>by omega),?_⟩;have hm':=hm.o
 cases hq:xn_ (za_ ds) false t s with
 | none=>rw[hq] at hm';exact⟨hm'.1,hm'.2.less hsz⟩
 | some d=>rw[hq] at hm';exact⟨hm'.1,hm'.2.mono (λ g _ h=>by omega)⟩
open Go.RowKit
def zb3 (A:Nat->Addr):Errs:=
 ⟨438,.pointer (some (A 8)),438,.pointer (some (A 0)),438,.pointer (some (A 1)),438,.pointer (some (A 2)),438,.pointer (some (A 3))⟩
theorem xg_.errs (S:xg_ A w):(zb3 A).At w:=
 ⟨S.var _ (by decide),S.var _ (by decide),S.var _ (by decide),S.var _ (by decide),S.var _ (by decide)⟩
theorem ErrD.chain {v:Value}(h:ErrD w lo (zb3 A).nt (zb3 A).nx v):∃ n,v3_ w (A 3) n v:=by
 induction h with
 | base=>exact⟨0,.leaf⟩
 | within g hg tx hb h ih=>
  obtain⟨n,ih⟩:=ih;exact⟨n+1,.within g tx _ n hb ih⟩
theorem jy_.fr {E:Errs}{w':World}(h:jy_ E w lo ev a) (hf:Fr w w' (λ _=>False)):jy_ E w' lo ev a:=by
 rcases h with h|h|⟨h1,h2⟩|⟨h1,h2⟩|⟨h1,h2⟩|⟨h1,cv,h2,h3⟩
 ·exact .inl h
 ·exact .inr (.inl h)
 ·exact .inr (.inr (.inl ⟨h1,h2.fr hf u_⟩))
 ·exact .inr (.inr (.inr (.inl ⟨h1,h2.fr hf u_⟩)))
 ·exact .inr (.inr (.inr (.inr (.inl ⟨h1,h2.fr hf u_⟩))))
 ·exact .inr (.inr (.inr (.inr (.inr ⟨h1,cv,h2.fr hf u_,h3.fr hf u_⟩))))
theorem jy_.zero {E:Errs}(h:jy_ E w lo ev a) (h0:a.1=0):a.2=0/\ev=.nilIface:=by
 rcases h with⟨_,h2,h3⟩|⟨h1,_⟩|⟨h1,_⟩|⟨h1,_⟩|⟨h1,_⟩|⟨h1,_⟩
 ·exact⟨h2,h3⟩
 all_goals (rw[h1] at h0;exact absurd h0 (by decide))
theorem jy_.num (S:xg_ A w) (h:jy_ (zb3 A) w lo ev a) (h0:a.1≠0) :
 ∃ T x,ev=.iface T x/\Calls prog 22 #[ev] w λ e w'=>e=.returned (.int .i64 a.1)/\w'=w:=by
 have key:∀ (v:Value) (p:Int) (cv:Value),z9_ w lo v p cv->∃ T x,v=.iface T x:=λ v p cv ⟨g,_,h,_⟩=>⟨_,_,h⟩;have ch:∀ (v:Value) (p:Int) (cv:Value) (b:Addr) (n:Nat),z9_ w lo v p cv->v3_ w b n cv->v3_ w b (n+1) v:=λ v p cv b n ⟨g,_,h,hb⟩ hc=>h▸.fault g p cv n hb hc
 rcases h with⟨h1,_⟩|⟨h1,h2,h3⟩|⟨h1,h2⟩|⟨h1,h2⟩|⟨h1,h2⟩|⟨h1,cv,h2,h3⟩
 ·exact absurd h1 h0
 ·refine⟨_,_,h3,?_⟩;rw[h1,h3];exact zba S .leaf
 ·obtain⟨T,x,hv⟩:=key _ _ _ h2;refine⟨T,x,hv,?_⟩;rw[h1];exact zad S (ch _ _ _ _ _ h2 .leaf)
 ·obtain⟨T,x,hv⟩:=key _ _ _ h2;refine⟨T,x,hv,?_⟩;rw[h1];exact za9 S (ch _ _ _ _ _ h2 .leaf)
 ·obtain⟨T,x,hv⟩:=key _ _ _ h2;refine⟨T,x,hv,?_⟩;rw[h1];exact za1 S (ch _ _ _ _ _ h2 .leaf)
 ·obtain⟨T,x,hv⟩:=key _ _ _ h2;obtain⟨n,hc⟩:=h3.chain;refine⟨T,x,hv,?_⟩;rw[h1];exact vn_ S (ch _ _ _ _ _ h2 hc)
open Go.RowKit
mutual
theorem zi5:∀ t:PT,fewB t->brT false t
 | .leaf _ _,_=>by unfold brT;trivial
 | .wrap _ _ t,h=>by unfold brT;unfold fewB at h;exact zi5 t h
 | .alts _ l,h=>by unfold brT;unfold fewB at h;exact⟨.inr h.1,zoy l h.2⟩
theorem zoy:∀ l:List PT,(∀ t∈l,fewB t)->brTs false l
 | [],_=>by unfold brTs;trivial
 | t::r,h=>by unfold brTs;exact⟨zi5 t (h t (ay_ ..)),zoy r (λ u hu=>h u (bv_ _ hu))⟩
end
theorem vx_ (hs:s.size<=300){ds:List PD}{t:PT}(h:zq_ s=.ok (ds,t)) (hn:v9_ ds t=[]) (hu:v5_ ds t=[]):v0_ ds/\brE false ds/\brT false t/\okT (za_ ds) t/\zes (za_ ds):=by
 obtain⟨a1,a2,_,_,_⟩:=zal h;rw[hn] at a1;rw[hu] at a2
 have hw:wrU (za_ ds) (accU ds++ya_ t) (accW [] ds (-1))<0:=by rw[a1];decide
 have hm:mix t (accM ds (-1))<0:=by rw[a2];decide
 obtain⟨g1,g2,_,_⟩:=zjv hs h hw hm;have hg:=(zfp hs h hn hu).1;refine⟨hg,λ c fs e f hf=>zi5 _ ((hg c _ e).1.2.2 f hf),zi5 t (vc_ hs h).2.1,g2,g1⟩
def ze1 (w:World) (ev:Value) (n:Int):Prop:=∀ W,Fr w W (λ _=>False)->Calls prog 22 #[ev] W λ e w'=>e=.returned (.int .i64 n)/\w'=W
theorem ze1.fr {W:World}{n:Int}(h:ze1 w ev n) (hf:Fr w W (λ _=>False)):ze1 W ev n:=λ V hV=>h V (hf.trans hV u_)
theorem jy_.numIs (S:xg_ A w) (h:jy_ (zb3 A) w lo ev a) (h0:a.1≠0):ze1 w ev a.1:=λ W hW=>by
 obtain⟨_,_,_,h⟩:=(h.fr hW).num (S.fr hW) h0;exact h
theorem ErrD.numIs (S:xg_ A w) (h:ErrD w lo (zb3 A).nt (zb3 A).nx ev):ze1 w ev 5:=λ W hW=>by
 obtain⟨n,hc⟩:=(h.fr hW u_).chain;exact vn_ (S.fr hW) hc
theorem zf1 (S:xg_ A w):ze1 w .nilIface 0:=λ _ hW=>zpz (S.fr hW)
end Go.Proofs.YthmjjpkjgjklmaaGreatDoor
