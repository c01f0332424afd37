import Derived.Test.YthmjjpkjgjklmaaGreatDoorW33
import Derived.Test.YthmjjpkjgjklmaaGreatDoorW31
import Derived.Test.YthmjjpkjgjklmaaGreatDoorW13
import Derived.Test.YthmjjpkjgjklmaaGreatDoorW35
import Derived.Test.YthmjjpkjgjklmaaGreatDoorW28
import Derived.Test.YthmjjpkjgjklmaaGreatDoorA00
set_option maxHeartbeats 16000000
set_option maxRecDepth 100000
set_option linter.unusedSimpArgs false
open Go.Proofs.Tryz
namespace Go.Proofs.YthmjjpkjgjklmaaGreatDoor
open Go.RowKit
variable {w:World}{s bs:BA}{A:Nat->Addr}
def ys_ (s bs:BA):BA×Nat×Int:=
 if (zj_ s).1=0 then
  if 4000<bs.size then (noB,0,1)
  else match zq_ s with
   | .error _=>(noB,0,0)
   | .ok (ds,t)=>match rdB bs (za_ ds) 301 t 0 0 with
    | .error e0=>(noB,0,(e0:Int))
    | .ok (d,j,_)=>(txT (za_ ds) d t,j,0)
 else (noB,0,(zj_ s).1)
def zy9 (R:Nat->Nat->Except Nat (DT×Nat×Nat)):Prop:=∀ i n e,R i n=.error e->e=6\/e=7
theorem zhu {R:Nat->Nat->Except Nat (DT×Nat×Nat)}(hR:zy9 R){keyed:Bool}:∀ (c:Nat) (last:Option BA) (i n e:Nat),xd_ R s keyed c last i n=.error e->e=6\/e=7
 | 0,last,i,n,e,h=>by simp[xd_] at h
 | c+1,last,i,n,e,h=>by
  unfold xd_ at h;split at h
  ·cases h;exact .inl rfl
  ·split at h
   ·rename_i he;cases h;exact hR _ _ _ he
   ·split at h
    ·rename_i he;cases h;exact zhu hR c _ _ _ _ he
    ·cases h
theorem zgo {R:PT->Nat->Nat->Except Nat (DT×Nat×Nat)}(hR:∀ t,zy9 (R t)):∀ (ts:List PT) (i n e:Nat),yq_ R ts i n=.error e->e=6\/e=7
 | [],i,n,e,h=>by simp[yq_] at h
 | t::r,i,n,e,h=>by
  unfold yq_ at h;split at h
  ·rename_i he;cases h;exact hR _ _ _ _ he
  ·split at h
   ·rename_i he;cases h;exact zgo hR r _ _ _ he
   ·cases h
theorem zid (s:BA) (env:Nat->Option PB):∀ (f:Nat) (t:PT),zy9 (rdB s env f t):=by
 intro f
 induction f with
 | zero=>intro t i n e h;simp only[rdB] at h;cases h;exact .inr rfl
 | succ f ih=>
  intro t i n e h;unfold rdB at h;split at h
  ·cases h;exact .inr rfl
  ·split at h
   ·unfold zag at h;split at h
    ·cases h
    ·split at h
     ·split at h
      ·cases h
      ·cases h;exact .inl rfl
     ·split at h
      ·split at h
       ·cases h;exact .inl rfl
       ·cases h
      ·split at h
       ·split at h
        ·cases h;exact .inl rfl
        ·cases h
       ·split at h
        ·split at h
         ·cases h;exact .inl rfl
         ·cases h
        ·split at h
         ·cases h;exact .inl rfl
         ·unfold vv_ at h;split at h
          ·split at h
           ·rename_i he;cases h;exact zgo ih _ _ _ _ he
           ·cases h
          ·split at h
           ·cases h;exact .inl rfl
           ·cases h
          ·split at h
           ·cases h;exact .inl rfl
           ·cases h
   ·unfold zdf at h;split at h
    ·cases h;exact .inl rfl
    ·split at h
     ·rename_i he;cases h;exact zhu (ih _) _ _ _ _ _ he
     ·cases h
   ·unfold j8_ at h;split at h
    ·cases h;exact .inl rfl
    ·split at h
     ·cases h;exact .inl rfl
     ·split at h
      ·rename_i he;cases h;exact ih _ _ _ _ he
      ·cases h
def zn6 (A:Nat->Addr):WErr:=⟨438,.pointer (some (A 4)),438,.pointer (some (A 5))⟩
theorem ErrD.chainOf {lo:Nat}{a:Addr}{v:Value}(h:ErrD w lo 438 (.pointer (some a)) v):∃ n,v3_ w a n v:=by
 induction h with
 | base=>exact⟨0,.leaf⟩
 | within g hg tx hb h ih=>
  obtain⟨n,ih⟩:=ih;exact⟨n+1,.within g tx _ n hb ih⟩
theorem zhb {lo e0:Nat}{ev:Value}(S:xg_ A w) (he:e0=6\/e0=7) (h:ErrD w lo ((zn6 A).t e0) ((zn6 A).x e0) ev):ze1 w ev (e0:Int):=λ W hW=>by
 have h2:=h.fr hW u_
 rcases he with rfl|rfl
 ·obtain⟨n,hc⟩:=ErrD.chainOf h2;exact zcx (S.fr hW) hc
 ·obtain⟨n,hc⟩:=ErrD.chainOf h2;exact vz_ (S.fr hW) hc
mutual
theorem zaq:∀ t:PT,fewB t->fewT t
 | .leaf _ _,_=>by unfold fewT;trivial
 | .wrap _ _ t,h=>by unfold fewT;unfold fewB at h;exact zaq t h
 | .alts _ l,h=>by unfold fewT;unfold fewB at h;exact⟨h.1,zlc l h.2⟩
theorem zlc:∀ l:List PT,(∀ t∈l,fewB t)->znj l
 | [],_=>by unfold znj;trivial
 | t::r,h=>by unfold znj;exact⟨zaq t (h t (ay_ ..)),zlc r (λ u hu=>h u (bv_ _ hu))⟩
end
theorem zgd {ds:List PD}(hg:v0_ ds):fewE (za_ ds):=λ c _ e=>⟨(hg c _ e).1.1,λ g hgm=>zaq _ ((hg c _ e).1.2.2 g hgm)⟩
def zzb (s bs:BA):Prop:=(zj_ s).1=0->bs.size<=4000->∀ ds t d j m,zq_ s=.ok (ds,t)->rdB bs (za_ ds) 301 t 0 0=.ok (d,j,m)->okD d
def zaw (w:World) (s bs:BA) (e:Ending) (w':World):Prop:=∃ ev,e=.returned (.tuple #[.string (ys_ s bs).1,.int .i64 ((ys_ s bs).2.1:Int),ev])/\Fr w w' (λ _=>False)/\ze1 w' ev (ys_ s bs).2.2/\zzb s bs
theorem zwr {w1:World}{sv rv:Value}{ds:List PD}{t:PT}(S:xg_ A w) (hI:yi_ w) (hQ:yd_ w) (hp:zq_ s=.ok (ds,t)) (hM:SchM w.heap.size w1 s sv rv) (hf:Fr w w1 (λ _=>False)) (hd:bs.size<=4000) :
 ∃ sa sn sc rT rx,sv=.slice sa sn sc/\rv=.iface rT rx/\∀ o,Calls prog 37 #[.agg #[sv,rv],.string bs] (w1.alloc o) (zo3 (za_ ds) t (w1.alloc o) (zn6 A) (rdB bs (za_ ds) 301 t 0 0)):=by
 obtain⟨ds',t',xs,hs,hp',hn,hu,D,hT⟩:=hM;rw[hp] at hp';cases hp';obtain⟨f1,f2,f3,f4,_⟩:=vx_ hs hp hn hu;obtain⟨sa,sc,rfl⟩:=zf_ D.row;obtain⟨rT,rx,rfl⟩:=hT.iface;refine⟨sa,_,sc,rT,rx,rfl,rfl,λ o=>?_⟩;have hA:Fr w1 (w1.alloc o) (λ _=>False):=(Fr.refl w1 _).alloc o;have hz:=hA.size;exact zji (w0:=w) (D.fr hA u_) (hT.fr hA u_) ((y1_.refl w).fr (hf.trans hA u_) l_ (λ _ f=>f.elim)) (by have:=hf.size;omega) (λ g hg=>by omega) (S.var 4 (by decide)) (S.var 5 (by decide)) hd f4 (zaq t (vc_ hs hp).2.1) f1 (zgd f1) hI hQ
open Go.RowKit
theorem zqv (S:xg_ A w) (hI:yi_ w) (hQ:yd_ w) (hPar:xh_ w) (hA:vq_ w) :
 Calls prog 27 #[.string s,.string bs] w (zaw w s bs):=by
 refine hq_ λ POST Q_=>?_;have hR:=q_ (zj8 (s:=s) S.errs hI hQ (zij hPar))
 by_cases h0:(zj_ s).1=0
 ·cases hp:zq_ s with
  | error k=>
   exfalso
   unfold zj_ at h0;rw[hp] at h0;split at h0<;>simp at h0
  | ok r=>
   obtain⟨ds,t⟩:=r
   by_cases hd:4000<bs.size
   ·have hans:=q_ (show ys_ s bs=(noB,0,1) by unfold ys_;rw[if_pos h0,if_pos hd]);have hlong:=q_ (λ (W:World) (sa sn sc rT rx) (hW:Fr w W (λ _=>False))=>zha (w:=W) (sa:=sa) (sn:=sn) (sc:=sc) (rT:=rT) (rx:=rx) (s:=bs) ((S.fr hW).var 7 (by decide)) hd);replace h0:=q_ h0;replace S:=q_ S;replace hp:=q_ hp;replace hd:=q_ hd;clear hI hQ hPar hA
    go_in
    go_wp2_with (first
     |(go_at_call 49;refine hR.o.mono ?_;rintro e w1 ⟨sv,rv,ev,rfl,-,-,hf1,hEr,hM⟩;obtain⟨_,rfl⟩:=hEr.zero h0.o;obtain⟨ds',t',xs,hs',hp',hn',hu',D,hT⟩:=hM h0.o;obtain⟨sa,sc,rfl⟩:=zf_ D.row;obtain⟨rT,rx,rfl⟩:=hT.iface;replace hf1:=q_ hf1;clear hEr hM hs' hp' hn' hu' D hT)
     |(go_at_call 37;refine(hlong.o _ _ _ _ _ _ (hf1.o.alloc _)).mono ?_;rintro e w2 ⟨rfl,hf2⟩;replace hf2:=q_ hf2))
    refine bodyPost_ret (v:=.tuple #[.string noB,.int .i64 0,.iface 438 (.pointer (some (A 7)))]) (by simp[results,results27,go_sem];rfl) rfl ?_;rw[Q_.o];unfold zaw;rw[hans.o];have hf:=(hf1.o.alloc _).trans hf2.o u_;exact⟨_,rfl,hf,λ W hW=>j3_ ((S.o.fr hf).fr hW) .leaf,λ _ h=>absurd hd.o (by omega)⟩
   ·have hd':bs.size<=4000:=by omega
    have hread:=q_ (λ w1 sv rv=>zwr (w1:=w1) (bs:=bs) (sv:=sv) (rv:=rv) S hI hQ hp)
    have hans:ys_ s bs=match rdB bs (za_ ds) 301 t 0 0 with | .error e0=>(noB,0,(e0:Int)) | .ok (d,j,_)=>(txT (za_ ds) d t,j,0):=by unfold ys_;rw[if_pos h0,if_neg hd,hp]<;>rfl
    replace h0:=q_ h0;replace S:=q_ S;clear hI hQ hPar;replace hp:=q_ hp
    cases hq:rdB bs (za_ ds) 301 t 0 0 with
    | error e0=>
     rw[hq] at hans;have he:=q_ (zid bs (za_ ds) 301 t 0 0 e0 hq);replace hans:=q_ hans;replace hq:=q_ hq;clear hA
     go_in
     go_wp2_with (first
      |(go_at_call 49;refine hR.o.mono ?_;rintro e w1 ⟨sv,rv,ev,rfl,-,-,hf1,hEr,hM⟩;obtain⟨_,rfl⟩:=hEr.zero h0.o;obtain⟨sa,sn,sc,rT,rx,rfl,rfl,hC⟩:=hread.o w1 sv rv (hM h0.o) hf1 hd';replace hf1:=q_ hf1;replace hC:=q_ hC;clear hEr hM)
      |(go_at_call 37;refine(hC.o _).mono ?_;rintro e w2 ⟨v2,k2,ev2,rfl,hf2,hm⟩;rw[hq.o] at hm;obtain⟨rfl,rfl,hm⟩:=hm;obtain⟨T2,x2,rfl⟩:=hm.iface;replace hm:=q_ hm;replace hf2:=q_ hf2))
     refine bodyPost_ret (v:=.tuple #[.string noB,.int .i64 0,.iface T2 x2]) (by simp[results,results27,go_sem];rfl) rfl ?_;rw[Q_.o];unfold zaw;rw[hans.o];have hf:=(hf1.o.alloc _).trans hf2.o u_;exact⟨_,rfl,hf,zhb (S.o.fr hf) he.o hm.o,λ _ _ ds' t' d' j' m' h1 h2=>by rw[hp.o] at h1;cases h1;rw[hq.o] at h2;cases h2⟩
    | ok q=>
     obtain⟨d,j,mm⟩:=q;have hn:=(zoh bs (za_ ds) 301 t 0 0 d j mm hq).2;have hg:=zbm bs (za_ ds) 301 t 0 0 d j mm o_ (by omega) hq
     have h3':8022*ndT d<=90000000:=by omega
     rw[hq] at hans;replace hans:=q_ hans;replace hq:=q_ hq;replace hn:=q_ hn;replace hg:=q_ hg
     go_in
     go_wp2_with (first
      |(go_at_call 49;refine hR.o.mono ?_;rintro e w1 ⟨sv,rv,ev,rfl,-,-,hf1,hEr,hM⟩;obtain⟨_,rfl⟩:=hEr.zero h0.o;obtain⟨sa,sn,sc,rT,rx,rfl,rfl,hC⟩:=hread.o w1 sv rv (hM h0.o) hf1 hd';replace hf1:=q_ hf1;replace hC:=q_ hC;clear hEr hM)
      |(go_at_call 37;refine(hC.o _).mono ?_;rintro e w2 ⟨v2,k2,ev2,rfl,hf2,hm⟩;rw[hq.o] at hm;obtain⟨rfl,rfl,hm⟩:=hm;have hf:=(hf1.o.alloc _).trans hf2 u_;have hOk:=q_ hm.dat.ok;have hW:=q_ (zhh (w0:=w) hA hm hf.size ((y1_.refl w).fr hf l_ (λ _ f=>f.elim)) h3');obtain⟨T2,x2,rfl⟩:=hm.iface;replace hf:=q_ hf;clear hm hf2)
      |(go_at_call 40;refine hW.o.mono ?_;rintro e w4 ⟨rfl,hf4⟩;replace hf4:=q_ hf4))
     refine bodyPost_ret (v:=.tuple #[.string (txT (za_ ds) d t),.int .i64 (k2:Int),.nilIface]) (by simp[results,results27,go_sem]) rfl ?_;rw[Q_.o];unfold zaw;rw[hans.o];have hf5:=hf.o.trans hf4.o u_;exact⟨_,rfl,hf5,zf1 (S.o.fr hf5),λ _ _ ds' t' d' j' m' h1 h2=>by rw[hp.o] at h1;cases h1;rw[hq.o] at h2;cases h2;exact hOk.o⟩
 ·have hans:=q_ (show ys_ s bs=(noB,0,(zj_ s).1) by unfold ys_;rw[if_neg h0]);replace h0:=q_ h0;replace S:=q_ S;clear hI hQ hPar hA
  go_in
  go_wp2_with (go_at_call 49;refine hR.o.mono ?_;rintro e w1 ⟨sv,rv,ev,rfl,⟨sa,sn,sc,rfl⟩,hIr,hf1,hEr,-⟩;have hk:=q_ (hEr.numIs (S.o.fr hf1) h0.o);obtain⟨T,x,rfl,_⟩:=hEr.num (S.o.fr hf1) h0.o;replace hf1:=q_ hf1;clear hEr;rcases hIr with rfl|⟨rT,rx,rfl⟩)
  all_goals
   refine bodyPost_ret (v:=.tuple #[.string noB,.int .i64 0,.iface T x]) (by simp[results,results27,go_sem];rfl) rfl ?_;rw[Q_.o];unfold zaw;rw[hans.o];exact⟨_,rfl,hf1.o.alloc _,hk.o.fr ((Fr.refl _ _).alloc _),λ h=>absurd h h0.o⟩
theorem znc (S:xg_ A w) (hI:yi_ w) (hQ:yd_ w) (hPar:xh_ w) (hA:vq_ w) :
 Calls prog 15 #[.string s,.string bs] w λ e w'=>e=.returned (.tuple #[.string (ys_ s bs).1,.int .i64 ((ys_ s bs).2.1:Int),.int .i64 (ys_ s bs).2.2])/\Fr w w' (λ _=>False)/\zzb s bs:=by
 refine hq_ λ POST Q_=>?_;have hC:=zqv (s:=s) (bs:=bs) S hI hQ hPar hA;unfold zaw at hC;obtain⟨b,hb⟩:∃ b,(ys_ s bs).1=b:=⟨_,rfl⟩;obtain⟨j,hj⟩:∃ j,(ys_ s bs).2.1=j:=⟨_,rfl⟩;obtain⟨n,hn⟩:∃ n,(ys_ s bs).2.2=n:=⟨_,rfl⟩;rw[hb,hj,hn] at Q_;rw[hb,hj,hn] at hC;replace hC:=q_ hC;clear S hI hQ hPar hA hb hj hn
 go_in
 go_wp2_with (first
  |(go_at_call 27;refine hC.o.mono ?_;rintro e w1 ⟨ev,rfl,hf1,hN,hO⟩;replace hf1:=q_ hf1;replace hO:=q_ hO;have hk:=q_ (hN w1 (Fr.refl _ _));clear hN)
  |(go_at_call 22;refine hk.o.mono ?_;rintro e w2 ⟨rfl,rfl⟩))
 refine bodyPost_ret (v:=.tuple #[.string b,.int .i64 (j:Int),.int .i64 n]) (by simp[results,results15,go_sem]) rfl ?_;rw[Q_.o];exact⟨rfl,hf1.o,hO.o⟩
end Go.Proofs.YthmjjpkjgjklmaaGreatDoor
