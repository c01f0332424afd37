import Derived.Test.YthmjjpkjgjklmaaGreatDoorW35
import Derived.Test.YthmjjpkjgjklmaaGreatDoorW23
import Derived.Test.YthmjjpkjgjklmaaGreatDoorW11
import Derived.Test.YthmjjpkjgjklmaaGreatDoorA00
set_option maxHeartbeats 16000000
set_option maxRecDepth 100000
set_option linter.unusedSimpArgs false
open Go.Proofs.Tryz
namespace Go.Proofs.YthmjjpkjgjklmaaGreatDoor
open Go.RowKit
variable {A:Nat->Addr}{w:World}{s dm:BA}
def x0_ (s dm:BA):BA×Int:=
 if (zj_ s).1=0 then
  if 4000<dm.size then (noB,1)
  else match zq_ s with
   | .error _=>(noB,0)
   | .ok (ds,t)=>match xn_ (za_ ds) false t dm with
    | none=>(noB,5)
    | some d=>if ndT d > 300 then (noB,7) else (byT d,0)
 else (noB,(zj_ s).1)
def zza (s dm:BA):Prop:=(zj_ s).1=0->dm.size<=4000->∀ ds t d,zq_ s=.ok (ds,t)->xn_ (za_ ds) false t dm=some d->ndT d<=300->okD d
def zbj (w:World) (s dm:BA) (e:Ending) (w':World):Prop:=∃ ev,e=.returned (.tuple #[.string (x0_ s dm).1,ev])/\Fr w w' (λ _=>False)/\ze1 w' ev (x0_ s dm).2/\zza s dm
theorem zwk {w1:World}{sv rv:Value}{ds:List PD}{t:PT}(S:xg_ A w) (hI:yi_ w) (hQ:yd_ w) (hPar:xh_ w) (hp:zq_ s=.ok (ds,t)) (hM:SchM w.heap.size w1 s sv rv) (hf:Fr w w1 (λ _=>False)) (hd:dm.size<=4000) :
 ∃ sa sn sc rT rx,sv=.slice sa sn sc/\rv=.iface rT rx/\∀ o,Calls prog 50 #[.agg #[sv,rv],.string dm] (w1.alloc o) (zgs (za_ ds) t (w1.alloc o) (λ _=>False) (zb3 A).nt (zb3 A).nx (xn_ (za_ ds) false t dm)):=by
 obtain⟨ds',t',xs,hs,hp',hn,hu,D,hT⟩:=hM;rw[hp] at hp';cases hp';obtain⟨f1,f2,f3,f4,_⟩:=vx_ hs hp hn hu;obtain⟨sa,sc,rfl⟩:=zf_ D.row;obtain⟨rT,rx,rfl⟩:=hT.iface;refine⟨sa,_,sc,rT,rx,rfl,rfl,λ o=>?_⟩;have hA:Fr w1 (w1.alloc o) (λ _=>False):=(Fr.refl w1 _).alloc o;have hz:=hA.size;exact zsu (w0:=w) (D.fr hA u_) (hT.fr hA u_) ((y1_.refl w).fr (hf.trans hA u_) l_ (λ _ f=>f.elim)) (by have:=hf.size;omega) (λ g hg=>by omega) S.errs.n hd f4 f1 f2 f3 hI hQ (zij hPar) hPar
theorem zqt (S:xg_ A w) (hI:yi_ w) (hQ:yd_ w) (hPar:xh_ w) :
 Calls prog 28 #[.string s,.string dm] w (zbj w s dm):=by
 refine hq_ λ POST Q_=>?_;have hR:=q_ (zj8 (s:=s) S.errs hI hQ (zij hPar))
 by_cases h0:(zj_ s).1=0
 ·cases hp:zq_ s with
  | error k=>
   exfalso
   unfold zj_ at h0;rw[hp] at h0;split at h0<;>simp at h0
  | ok r=>
   obtain⟨ds,t⟩:=r
   by_cases hd:4000<dm.size
   ·have hans:=q_ (show x0_ s dm=(noB,1) by unfold x0_;rw[if_pos h0,if_pos hd]);have hlong:=q_ (λ (W:World) (sa sn sc rT rx) (hW:Fr w W (λ _=>False))=>zp7 (w:=W) (sa:=sa) (sn:=sn) (sc:=sc) (rT:=rT) (rx:=rx) (s:=dm) ((S.fr hW).var 9 (by decide)) hd);replace h0:=q_ h0;replace S:=q_ S;replace hp:=q_ hp;replace hd:=q_ hd;clear hI hQ hPar
    go_in
    go_wp2_with (first
     |(go_at_call 49;refine hR.o.mono ?_;rintro e w1 ⟨sv,rv,ev,rfl,-,-,hf1,hEr,hM⟩;obtain⟨_,rfl⟩:=hEr.zero h0.o;obtain⟨ds',t',xs,hs',hp',hn',hu',D,hT⟩:=hM h0.o;obtain⟨sa,sc,rfl⟩:=zf_ D.row;obtain⟨rT,rx,rfl⟩:=hT.iface;replace hf1:=q_ hf1;clear hEr hM hs' hp' hn' hu' D hT)
     |(go_at_call 50;refine(hlong.o _ _ _ _ _ _ (hf1.o.alloc _)).mono ?_;rintro e w2 ⟨rfl,hf2⟩;replace hf2:=q_ hf2))
    try go_ret
    rw[Q_.o];unfold zbj;rw[hans.o];have hf:=(hf1.o.alloc _).trans hf2.o u_;exact⟨_,rfl,hf,λ W hW=>za2 ((S.o.fr hf).fr hW) .leaf,λ _ h=>absurd hd.o (by omega)⟩
   ·have hd':dm.size<=4000:=by omega
    have hread:=q_ (λ w1 sv rv=>zwk (w1:=w1) (dm:=dm) (sv:=sv) (rv:=rv) S hI hQ hPar hp)
    have hans:x0_ s dm=match xn_ (za_ ds) false t dm with|none=>(noB,5)|some d=>if ndT d > 300 then (noB,7) else (byT d,0):=by unfold x0_;rw[if_pos h0,if_neg hd,hp]
    have hnodes:=λ d=>zmj (env:=za_ ds) (t:=t) (s:=dm) (d:=d);replace h0:=q_ h0;replace S:=q_ S;clear hI hQ hPar;replace hp:=q_ hp
    cases hq:xn_ (za_ ds) false t dm with
    | none=>
     rw[hq] at hans;replace hans:=q_ hans;replace hq:=q_ hq;clear hnodes
     go_in
     go_wp2_with (first
      |(go_at_call 49;refine hR.o.mono ?_;rintro e w1 ⟨sv,rv,ev,rfl,-,-,hf1,hEr,hM⟩;obtain⟨_,rfl⟩:=hEr.zero h0.o;obtain⟨sa,sn,sc,rT,rx,rfl,rfl,hC⟩:=hread.o w1 sv rv (hM h0.o) hf1 hd';replace hf1:=q_ hf1;replace hC:=q_ hC;clear hEr hM)
      |(go_at_call 50;refine(hC.o _).mono ?_;rintro e w2 ⟨v2,ev2,rfl,hf2,hm⟩;rw[hq.o] at hm;obtain⟨rfl,hm⟩:=hm;obtain⟨T2,x2,rfl⟩:=hm.iface;replace hm:=q_ hm;replace hf2:=q_ hf2))
     try go_ret
     rw[Q_.o];unfold zbj;rw[hans.o];have hf:=(hf1.o.alloc _).trans hf2.o u_;exact⟨_,rfl,hf,hm.o.numIs (S.o.fr hf),λ _ _ ds' t' d' h1 h2 _=>by rw[hp.o] at h1;cases h1;rw[hq.o] at h2;cases h2⟩
    | some d=>
     have hn:=hnodes d hq;rw[hq] at hans;replace hq:=q_ hq;clear hnodes
     by_cases h3:ndT d > 300
     ·replace hans:=q_ (show x0_ s dm=(noB,7) by rw[hans];exact if_pos h3);replace h3:=q_ h3
      go_in
      go_wp2_with (first
       |(go_at_call 49;refine hR.o.mono ?_;rintro e w1 ⟨sv,rv,ev,rfl,-,-,hf1,hEr,hM⟩;obtain⟨_,rfl⟩:=hEr.zero h0.o;obtain⟨sa,sn,sc,rT,rx,rfl,rfl,hC⟩:=hread.o w1 sv rv (hM h0.o) hf1 hd';replace hf1:=q_ hf1;replace hC:=q_ hC;clear hEr hM)
       |(go_at_call 50;refine(hC.o _).mono ?_;rintro e w2 ⟨v2,ev2,rfl,hf2,hm⟩;rw[hq.o] at hm;obtain⟨rfl,hm⟩:=hm;replace hm:=hm.dat;have hf:=q_ ((hf1.o.alloc _).trans hf2 u_);have hC2:=v4_ hm (by omega) ((S.o.fr hf.o).var 5 (by decide));rw[if_pos h3.o] at hC2;replace hC2:=q_ hC2;obtain⟨T2,x2,rfl⟩:=hm.iface;clear hm hf2)
       |(go_at_call 39;refine hC2.o.mono ?_;rintro e w3 ⟨rfl,hf3⟩;replace hf3:=q_ hf3))
      try go_ret
      rw[Q_.o];unfold zbj;rw[hans.o];have hf4:=hf.o.trans hf3.o u_;exact⟨_,rfl,hf4,λ W hW=>vz_ ((S.o.fr hf4).fr hW) .leaf,λ _ _ ds' t' d' h1 h2 h4=>by rw[hp.o] at h1;cases h1;rw[hq.o] at h2;cases h2;exact absurd h3.o (by omega)⟩
     ·replace hans:=q_ (show x0_ s dm=(byT d,0) by rw[hans];exact if_neg h3)
      have h3':8022*ndT d<=90000000:=by omega
      replace h3:=q_ h3
      go_in
      go_wp2_with (first
       |(go_at_call 49;refine hR.o.mono ?_;rintro e w1 ⟨sv,rv,ev,rfl,-,-,hf1,hEr,hM⟩;obtain⟨_,rfl⟩:=hEr.zero h0.o;obtain⟨sa,sn,sc,rT,rx,rfl,rfl,hC⟩:=hread.o w1 sv rv (hM h0.o) hf1 hd';replace hf1:=q_ hf1;replace hC:=q_ hC;clear hEr hM)
       |(go_at_call 50;refine(hC.o _).mono ?_;rintro e w2 ⟨v2,ev2,rfl,hf2,hm⟩;rw[hq.o] at hm;obtain⟨rfl,hm⟩:=hm;replace hm:=hm.dat;have hf:=q_ ((hf1.o.alloc _).trans hf2 u_);have hC2:=v4_ hm (by omega) ((S.o.fr hf.o).var 5 (by decide));rw[if_neg h3.o] at hC2;replace hC2:=q_ hC2;have hOk:=q_ hm.ok;have hW:=q_ (λ w3 hf3=>zrf (w:=w3) (hm.fr hf3 (λ _ _ (f:False)=>f)) h3');obtain⟨T2,x2,rfl⟩:=hm.iface;clear hm hf2)
       |(go_at_call 39;refine hC2.o.mono ?_;rintro e w3 ⟨rfl,hf3⟩;replace hf3:=q_ hf3)
       |(go_at_call 51;refine(hW.o _ hf3.o).mono ?_;rintro e w4 ⟨rfl,hf4⟩;replace hf4:=q_ hf4))
      try go_ret
      rw[Q_.o];unfold zbj;rw[hans.o];have hf5:=(hf.o.trans hf3.o u_).trans hf4.o u_;exact⟨_,rfl,hf5,zf1 (S.o.fr hf5),λ _ _ ds' t' d' h1 h2 _=>by rw[hp.o] at h1;cases h1;rw[hq.o] at h2;cases h2;exact hOk.o⟩
 ·have hans:=q_ (show x0_ s dm=(noB,(zj_ s).1) by unfold x0_;rw[if_neg h0]);replace h0:=q_ h0;replace S:=q_ S;clear hI hQ hPar
  go_in
  go_wp2_with (go_at_call 49;refine hR.o.mono ?_;rintro e w1 ⟨sv,rv,ev,rfl,⟨sa,sn,sc,rfl⟩,hIr,hf1,hEr,-⟩;have hk:=q_ (hEr.numIs (S.o.fr hf1) h0.o);obtain⟨T,x,rfl,_⟩:=hEr.num (S.o.fr hf1) h0.o;replace hf1:=q_ hf1;clear hEr;rcases hIr with rfl|⟨rT,rx,rfl⟩)
  all_goals
   try go_ret
   rw[Q_.o];unfold zbj;rw[hans.o];exact⟨_,rfl,hf1.o.alloc _,hk.o.fr ((Fr.refl _ _).alloc _),λ h=>absurd h h0.o⟩
open Go.RowKit
theorem znb (S:xg_ A w) (hI:yi_ w) (hQ:yd_ w) (hPar:xh_ w) :
 Calls prog 17 #[.string s,.string dm] w λ e w'=>e=.returned (.tuple #[.string (x0_ s dm).1,.int .i64 (x0_ s dm).2])/\Fr w w' (λ _=>False)/\zza s dm:=by
 refine hq_ λ POST Q_=>?_;have hC:=zqt (s:=s) (dm:=dm) S hI hQ hPar;unfold zbj at hC;obtain⟨b,hb⟩:∃ b,(x0_ s dm).1=b:=⟨_,rfl⟩;obtain⟨n,hn⟩:∃ n,(x0_ s dm).2=n:=⟨_,rfl⟩;rw[hb,hn] at Q_;rw[hb,hn] at hC;replace hC:=q_ hC;clear S hI hQ hPar hb hn
 go_in
 go_wp2_with (first
  |(go_at_call 28;refine hC.o.mono ?_;rintro e w1 ⟨ev,rfl,hf1,hN,hO⟩;replace hf1:=q_ hf1;replace hO:=q_ hO;have hk:=q_ (hN w1 (Fr.refl _ _));clear hN)
  |(go_at_call 22;refine hk.o.mono ?_;rintro e w2 ⟨rfl,rfl⟩))
 try go_ret
 rw[Q_.o];exact⟨rfl,hf1.o,hO.o⟩
end Go.Proofs.YthmjjpkjgjklmaaGreatDoor
