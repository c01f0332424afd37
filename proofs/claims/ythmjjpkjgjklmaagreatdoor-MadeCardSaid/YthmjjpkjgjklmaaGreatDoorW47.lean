import Derived.Test.YthmjjpkjgjklmaaGreatDoorW44
import Derived.Test.YthmjjpkjgjklmaaGreatDoorW46
import Derived.Test.YthmjjpkjgjklmaaGreatDoorA00
set_option maxHeartbeats 16000000
set_option maxRecDepth 100000
set_option linter.unusedSimpArgs false
open Go.Proofs.Tryz
namespace Go.Proofs.YthmjjpkjgjklmaaGreatDoor
open Go.RowKit
variable {A:Nat->Addr}{w:World}{bs sw sr:BA}
def zav (w:World) (sw sr bs:BA) (e:Ending) (w':World):Prop:=∃ ev,e=.returned (.tuple #[.string (yk_ sw sr bs).1,.int .i64 ((yk_ sw sr bs).2.1:Int),ev])/\Fr w w' (λ _=>False)/\ze1 w' ev (yk_ sw sr bs).2.2
theorem zvf {w1:World}{s:BA}{sv rv:Value}{ds:List PD}{t:PT}(S:xg_ A w) (hI:yi_ w) (hQ:yd_ w) (hp:zq_ s=.ok (ds,t)) (hM:SchX w.heap.size w1 s sv rv) (hf:Fr w w1 (λ _=>False)) (hd:bs.size<=4000) :
 ∀ V,Fr w1 V (λ _=>False)->Calls prog 37 #[.agg #[sv,rv],.string bs] V (zo3 (za_ ds) t V (zn6 A) (rdB bs (za_ ds) 301 t 0 0)):=by
 intro V hV;obtain⟨ds',t',xs,hs,hp',hn,hu,D,hT,_⟩:=hM;rw[hp] at hp';cases hp';obtain⟨f1,f2,f3,f4,_⟩:=vx_ hs hp hn hu;obtain⟨rT,rx,rfl⟩:=hT.iface;have hz:=hV.size;exact zji (w0:=w) (D.fr hV u_) (hT.fr hV u_) ((y1_.refl w).fr (hf.trans hV u_) l_ (λ _ f=>f.elim)) (by have:=hf.size;omega) (λ g hg=>by omega) (S.var 4 (by decide)) (S.var 5 (by decide)) hd f4 (zaq t (vc_ hs hp).2.1) f1 (zgd f1) hI hQ
theorem zvh {w1:World}{sv rv sv' rv':Value}{ds ds':List PD}{t t':PT}(S:xg_ A w) (hI:yi_ w) (hQ:yd_ w) (hp:zq_ sw=.ok (ds,t)) (hp':zq_ sr=.ok (ds',t')) (hM:SchX w.heap.size w1 sw sv rv) (hM':SchX w.heap.size w1 sr sv' rv') (hf:Fr w w1 (λ _=>False)) :
 ∀ V d v (L:Nat->Prop),Fr w1 V (λ _=>False)->Dat (za_ ds) d t->ndT d<=300->DaV (za_ ds) V L d t v->Calls prog 38 #[.agg #[sv,rv],.agg #[sv',rv'],v] V (y2_ (za_ ds') t' V.heap.size V 438 (.pointer (some (A 6))) (mkP (za_ ds) (za_ ds') (dfOf (za_ ds') sr) 300 t t' d)):=by
 intro V d v L hV hd hn3 hv;obtain⟨ds0,t0,xs,hs,hp0,hn,hu,D,hT,_⟩:=hM;rw[hp] at hp0;cases hp0;obtain⟨ds1,t1,xs',hs',hp1,hn',hu',D',hT',F'⟩:=hM';rw[hp'] at hp1;cases hp1;obtain⟨f1,f2,f3,f4,_⟩:=vx_ hs hp hn hu;obtain⟨k1,k2,k3,k4,_⟩:=vx_ hs' hp' hn' hu';have hz:=hV.size;have hz1:=hf.size
 have M:MC w _ _ sw sr ds ds' sv sv' xs xs' V.heap.size 438 (.pointer (some (A 6))) V:=
  ⟨D.fr hV u_,D'.fr hV u_,(F'.fr D' hV u_ u_).dfm,(y1_.refl w).fr (hf.trans hV u_) l_ (λ _ f=>f.elim),S.var 6 (by decide),by omega,l_⟩
 exact zv9 ⟨hI,hQ,f1,k1,zgd f1,zgd k1⟩ M (hT.fr hV u_) (hT'.fr hV u_) f4 k4 (zaq t' (vc_ hs' hp').2.1) hd (hv.mono (λ g hg _=>hg)) hn3
theorem zik {lo:Nat}{ev:Value}(S:xg_ A w) (h:ErrD w lo 438 (.pointer (some (A 6))) ev):ze1 w ev 8:=λ W hW=>by
 obtain⟨n,hc⟩:=ErrD.chainOf (h.fr hW u_);exact zae (S.fr hW) hc
theorem zmi (S:xg_ A w) (hI:yi_ w) (hQ:yd_ w) (hPar:xh_ w) (hA:vq_ w) :
 Calls prog 21 #[.string sw,.string sr,.string bs] w (zav w sw sr bs):=by
 refine hq_ λ POST Q_=>?_;have hB:=q_ (zjx (sw:=sw) (sr:=sr) S hI hQ hPar)
 by_cases h01:(zj_ sw).1=0/\(zj_ sr).1=0
 ·obtain⟨h0,h1⟩:=h01;obtain⟨_,ds,t,hp⟩:=jt_ h0;obtain⟨_,ds',t',hp'⟩:=jt_ h1
  have hBo:H_ (Calls prog 36 #[.string sw,.string sr] w λ e w1=>∃ sa sn sc rT rx sa' sn' sc' rT' rx',e=.returned (.tuple #[.agg #[.slice sa sn sc,.iface rT rx],.agg #[.slice sa' sn' sc',.iface rT' rx'],.nilIface])/\Fr w w1 (λ _=>False)/\SchX w.heap.size w1 sw (.slice sa sn sc) (.iface rT rx)/\SchX w.heap.size w1 sr (.slice sa' sn' sc') (.iface rT' rx')):=q_ (hB.o.mono (by
   rintro e w1 ⟨sv,rv,sv',rv',ev,he,hf,hm⟩
   rcases hm with⟨_,_,rfl,hx,hx'⟩|⟨hn,_⟩
   ·obtain⟨sa,sn,sc,rT,rx,rfl,rfl⟩:=hx.forms
    obtain⟨sa',sn',sc',rT',rx',rfl,rfl⟩:=hx'.forms
    exact⟨_,_,_,_,_,_,_,_,_,_,he,hf,hx,hx'⟩
   ·exact absurd ⟨h0,h1⟩ hn))
  clear hB
  by_cases hd:4000<bs.size
  ·have hans:=q_ (show yk_ sw sr bs=(noB,0,1) by unfold yk_;rw[if_pos h0,if_pos h1,if_pos hd]);have hlong:=q_ (λ (W:World) (sa sn sc rT rx) (hW:Fr w W (λ _=>False))=>zha (w:=W) (sa:=sa) (sn:=sn) (sc:=sc) (rT:=rT) (rx:=rx) (s:=bs) ((S.fr hW).var 7 (by decide)) hd);replace S:=q_ S;replace hd:=q_ hd;clear hI hQ hPar hA h0 h1 hp hp'
   go_in
   go_wp2_with (first
    |(go_at_call 36;refine hBo.o.mono ?_;rintro e w1 ⟨sa,sn,sc,rT,rx,sa',sn',sc',rT',rx',rfl,hf1,-,-⟩;replace hf1:=q_ hf1)
    |(go_at_call 37;refine(hlong.o _ _ _ _ _ _ ((hf1.o.alloc _).alloc _)).mono ?_;rintro e w2 ⟨rfl,hf2⟩;replace hf2:=q_ (((hf1.o.alloc _).alloc _).trans hf2 u_)))
   refine bodyPost_ret (v:=.tuple #[.string noB,.int .i64 0,.iface 438 (.pointer (some (A 7)))]) (by simp[results,results21,go_sem];rfl) rfl ?_;rw[Q_.o];unfold zav;rw[hans.o];exact⟨_,rfl,hf2.o,λ W hW=>j3_ ((S.o.fr hf2.o).fr hW) .leaf⟩
  ·have hd':bs.size<=4000:=by omega
   have hread:=q_ (λ w1 sv rv (hM:SchX w.heap.size w1 sw sv rv) (hf:Fr w w1 (λ _=>False))=>zvf S hI hQ hp hM hf hd');have hmake:=q_ (λ w1 sv rv sv' rv' (hM:SchX w.heap.size w1 sw sv rv) (hM':SchX w.heap.size w1 sr sv' rv') (hf:Fr w w1 (λ _=>False))=>zvh S hI hQ hp hp' hM hM' hf)
   have hans:yk_ sw sr bs=match rdB bs (za_ ds) 301 t 0 0 with
    | .error e0=>(noB,0,(e0:Int))
    | .ok (d,j,_)=>match mkP (za_ ds) (za_ ds') (dfOf (za_ ds') sr) 300 t t' d with
     | none=>(noB,0,8)
     | some x=>if ndT x > 300 then (noB,0,7) else (txT (za_ ds') x t',j,0):=by
    unfold yk_;rw[if_pos h0,if_pos h1,if_neg hd,hp,hp']<;>rfl
   have hsm:=(zt2 h1 hp').2;obtain⟨g1,g2,g3,g4,g5⟩:=zhe h0 hp;have hat:=zw8 g5 bs 301 t g4 0 0;replace S:=q_ S;clear hI hQ hPar h0 h1 hp hp' hd
   cases hq:rdB bs (za_ ds) 301 t 0 0 with
   | error e0=>
    rw[hq] at hans;have he:=q_ (zid bs (za_ ds) 301 t 0 0 e0 hq);replace hans:=q_ hans;replace hq:=q_ hq;clear hA hmake hsm hat g1 g2 g3 g4 g5
    go_in
    go_wp2_with (first
     |(go_at_call 36;refine hBo.o.mono ?_;rintro e w1 ⟨sa,sn,sc,rT,rx,sa',sn',sc',rT',rx',rfl,hf1,hx,hx'⟩;have hC:=q_ (hread.o _ _ _ hx hf1);replace hf1:=q_ hf1;clear hx hx')
     |(go_at_call 37;refine(hC.o _ (((Fr.refl w1 _).alloc _).alloc _)).mono ?_;rintro e w2 ⟨v2,k2,ev2,rfl,hf2,hm⟩;rw[hq.o] at hm;obtain⟨rfl,rfl,hm⟩:=hm;obtain⟨T2,x2,rfl⟩:=hm.iface;replace hm:=q_ hm;replace hf2:=q_ (((hf1.o.alloc _).alloc _).trans hf2 u_)))
    refine bodyPost_ret (v:=.tuple #[.string noB,.int .i64 0,.iface T2 x2]) (by simp[results,results21,go_sem];rfl) rfl ?_;rw[Q_.o];unfold zav;rw[hans.o];exact⟨_,rfl,hf2.o,zhb (S.o.fr hf2.o) he.o hm.o⟩
   | ok q=>
    obtain⟨d,j,mm⟩:=q;rw[hq] at hans;simp only at hans;have hnd:=(zoh bs (za_ ds) 301 t 0 0 d j mm hq).2;have hgo:=zbm bs (za_ ds) 301 t 0 0 d j mm o_ (by omega) hq
    have hn3:ndT d<=300:=by omega
    obtain⟨a1,a2,a3⟩:=hat d j mm (by omega) hq;replace hq:=q_ hq;clear hat hnd hgo a2 a3 g1 g2 g3 g4 g5;have hmk:=q_ (λ w1 sv rv sv' rv' hM hM' hf V v L hV hv=>hmake.o w1 sv rv sv' rv' hM hM' hf V d v L hV a1 hn3 hv);clear hmake
    cases hk:mkP (za_ ds) (za_ ds') (dfOf (za_ ds') sr) 300 t t' d with
    | none=>
     rw[hk] at hans hmk;replace hans:=q_ hans;clear hA hsm hk a1 hn3
     go_in
     go_wp2_with (first
      |(go_at_call 36;refine hBo.o.mono ?_;rintro e w1 ⟨sa,sn,sc,rT,rx,sa',sn',sc',rT',rx',rfl,hf1,hx,hx'⟩;have hC:=q_ (hread.o _ _ _ hx hf1);have hD:=q_ (hmk.o _ _ _ _ _ hx hx' hf1);have b0:=q_ (((Blk.new w1 #[.slice sa sn sc,.iface rT rx] 90).alloc (.cells #[.slice sa' sn' sc',.iface rT' rx'] 90)));have b1:=q_ (show Blk ((w1.alloc (.cells #[.slice sa sn sc,.iface rT rx] 90)).alloc (.cells #[.slice sa' sn' sc',.iface rT' rx'] 90)) (w1.heap.size+1) [.slice sa' sn' sc',.iface rT' rx'] 90 from(by have h:=Blk.new (w1.alloc (.cells #[.slice sa sn sc,.iface rT rx] 90)) #[.slice sa' sn' sc',.iface rT' rx'] 90;rw[z1_] at h;exact h));replace hf1:=q_ hf1;clear hx hx')
      |(go_at_call 37;refine(hC.o _ (((Fr.refl w1 _).alloc _).alloc _)).mono ?_;rintro e w2 ⟨v2,k2,ev2,rfl,hf2,hm⟩;rw[hq.o] at hm;obtain⟨rfl,rfl,hm⟩:=hm;have hE:=q_ (hD.o w2 _ _ ((((Fr.refl w1 _).alloc _).alloc _).trans hf2 u_) hm);obtain⟨T2,x2,rfl⟩:=hm.iface;have c0:=(hf2.blk b0.o id).c0;have c1:=(hf2.blk b0.o id).c1;have c2:=(hf2.blk b1.o id).c0;have c3:=(hf2.blk b1.o id).c1;replace hf2:=q_ (((hf1.o.alloc _).alloc _).trans hf2 u_);clear hm hC hD b0 b1)
      |(go_at_call 38;refine hE.o.mono ?_;rintro e w3 ⟨v3,ev3,rfl,hf3,hv3,hE3⟩;subst hv3;obtain⟨T3,x3,rfl⟩:=hE3.iface;replace hE3:=q_ hE3;replace hf3:=q_ (hf2.o.trans hf3 u_)))
     refine bodyPost_ret (v:=.tuple #[.string noB,.int .i64 0,.iface T3 x3]) (by simp[results,results21,go_sem];rfl) rfl ?_;rw[Q_.o];unfold zav;rw[hans.o];exact⟨_,rfl,hf3.o,zik (S.o.fr hf3.o) hE3.o⟩
    | some x=>
     rw[hk] at hans hmk;simp only at hans;have hxn:=zsw hsm 300 t t' d x hk
     have hxb:ndT x<=1000000000:=by omega
     have hbig:=q_ (λ (W:World) (hW:Fr w W (λ _=>False))=>show ErrV 5 W _ _ from(S.o.fr hW).var 5 (by decide));clear hsm hk a1 hn3 hxn
     by_cases hx3:ndT x > 300
     ·rw[if_pos hx3] at hans;replace hans:=q_ hans;replace hx3:=q_ hx3;clear hA
      go_in
      go_wp2_with (first
       |(go_at_call 36;refine hBo.o.mono ?_;rintro e w1 ⟨sa,sn,sc,rT,rx,sa',sn',sc',rT',rx',rfl,hf1,hx,hx'⟩;have hC:=q_ (hread.o _ _ _ hx hf1);have hD:=q_ (hmk.o _ _ _ _ _ hx hx' hf1);have b0:=q_ (((Blk.new w1 #[.slice sa sn sc,.iface rT rx] 90).alloc (.cells #[.slice sa' sn' sc',.iface rT' rx'] 90)));have b1:=q_ (show Blk ((w1.alloc (.cells #[.slice sa sn sc,.iface rT rx] 90)).alloc (.cells #[.slice sa' sn' sc',.iface rT' rx'] 90)) (w1.heap.size+1) [.slice sa' sn' sc',.iface rT' rx'] 90 from(by have h:=Blk.new (w1.alloc (.cells #[.slice sa sn sc,.iface rT rx] 90)) #[.slice sa' sn' sc',.iface rT' rx'] 90;rw[z1_] at h;exact h));replace hf1:=q_ hf1;clear hx hx')
       |(go_at_call 37;refine(hC.o _ (((Fr.refl w1 _).alloc _).alloc _)).mono ?_;rintro e w2 ⟨v2,k2,ev2,rfl,hf2,hm⟩;rw[hq.o] at hm;obtain⟨rfl,rfl,hm⟩:=hm;have hE:=q_ (hD.o w2 _ _ ((((Fr.refl w1 _).alloc _).alloc _).trans hf2 u_) hm);obtain⟨T2,x2,rfl⟩:=hm.iface;have c0:=(hf2.blk b0.o id).c0;have c1:=(hf2.blk b0.o id).c1;have c2:=(hf2.blk b1.o id).c0;have c3:=(hf2.blk b1.o id).c1;replace hf2:=q_ (((hf1.o.alloc _).alloc _).trans hf2 u_);clear hm hC hD b0 b1)
       |(go_at_call 38;refine hE.o.mono ?_;rintro e w3 ⟨v3,ev3,rfl,hf3,hv3,hD3⟩;subst hv3;have hG3:=q_ (hf2.o.trans hf3 u_);have hN:=v4_ hD3.dat hxb (hbig.o _ hG3.o);rw[if_pos hx3.o] at hN;replace hN:=q_ hN;obtain⟨T3,x3,rfl⟩:=hD3.iface;clear hf3 hD3)
       |(go_at_call 39;refine hN.o.mono ?_;rintro e w4 ⟨rfl,hf4⟩;replace hf4:=q_ (hG3.o.trans hf4 u_)))
      refine bodyPost_ret (v:=.tuple #[.string noB,.int .i64 0,.iface 438 (.pointer (some (A 5)))]) (by simp[results,results21,go_sem];rfl) rfl ?_;rw[Q_.o];unfold zav;rw[hans.o];exact⟨_,rfl,hf4.o,λ W hW=>vz_ ((S.o.fr hf4.o).fr hW) .leaf⟩
     ·rw[if_neg hx3] at hans
      have h8:8022*ndT x<=90000000:=by omega
      replace hans:=q_ hans;replace hx3:=q_ hx3
      go_in
      go_wp2_with (first
       |(go_at_call 36;refine hBo.o.mono ?_;rintro e w1 ⟨sa,sn,sc,rT,rx,sa',sn',sc',rT',rx',rfl,hf1,hx,hx'⟩;have hC:=q_ (hread.o _ _ _ hx hf1);have hD:=q_ (hmk.o _ _ _ _ _ hx hx' hf1);have b0:=q_ (((Blk.new w1 #[.slice sa sn sc,.iface rT rx] 90).alloc (.cells #[.slice sa' sn' sc',.iface rT' rx'] 90)));have b1:=q_ (show Blk ((w1.alloc (.cells #[.slice sa sn sc,.iface rT rx] 90)).alloc (.cells #[.slice sa' sn' sc',.iface rT' rx'] 90)) (w1.heap.size+1) [.slice sa' sn' sc',.iface rT' rx'] 90 from(by have h:=Blk.new (w1.alloc (.cells #[.slice sa sn sc,.iface rT rx] 90)) #[.slice sa' sn' sc',.iface rT' rx'] 90;rw[z1_] at h;exact h));replace hf1:=q_ hf1;clear hx hx')
       |(go_at_call 37;refine(hC.o _ (((Fr.refl w1 _).alloc _).alloc _)).mono ?_;rintro e w2 ⟨v2,k2,ev2,rfl,hf2,hm⟩;rw[hq.o] at hm;obtain⟨rfl,rfl,hm⟩:=hm;have hE:=q_ (hD.o w2 _ _ ((((Fr.refl w1 _).alloc _).alloc _).trans hf2 u_) hm);obtain⟨T2,x2,rfl⟩:=hm.iface;have c0:=(hf2.blk b0.o id).c0;have c1:=(hf2.blk b0.o id).c1;have c2:=(hf2.blk b1.o id).c0;have c3:=(hf2.blk b1.o id).c1;replace hf2:=q_ (((hf1.o.alloc _).alloc _).trans hf2 u_);clear hm hC hD b0 b1)
       |(go_at_call 38;refine hE.o.mono ?_;rintro e w3 ⟨v3,ev3,rfl,hf3,hv3,hD3⟩;subst hv3;have hG3:=q_ (hf2.o.trans hf3 u_);have hN:=v4_ hD3.dat hxb (hbig.o _ hG3.o);rw[if_neg hx3.o] at hN;replace hN:=q_ hN;have hW3:=q_ (λ V (hV:Fr w3 V (λ _=>False))=>zhh (w0:=w) hA (hD3.fr hV u_) (hG3.o.trans hV u_).size ((y1_.refl w).fr (hG3.o.trans hV u_) l_ (λ _ f=>f.elim)) h8);obtain⟨T3,x3,rfl⟩:=hD3.iface;clear hf3 hD3)
       |(go_at_call 39;refine hN.o.mono ?_;rintro e w4 ⟨rfl,hf4⟩;have hW4:=q_ (hW3.o w4 hf4);replace hf4:=q_ (hG3.o.trans hf4 u_))
       |(go_at_call 40;refine hW4.o.mono ?_;rintro e w5 ⟨rfl,hf5⟩;replace hf5:=q_ (hf4.o.trans hf5 u_)))
      refine bodyPost_ret (v:=.tuple #[.string (txT (za_ ds') x t'),.int .i64 (k2:Int),.nilIface]) (by simp[results,results21,go_sem]) rfl ?_;rw[Q_.o];unfold zav;rw[hans.o];exact⟨_,rfl,hf5.o,zf1 (S.o.fr hf5.o)⟩
 ·have hans:=q_ (show yk_ sw sr bs=(noB,0,if (zj_ sw).1=0 then (zj_ sr).1 else (zj_ sw).1) by
   unfold yk_
   by_cases h0:(zj_ sw).1=0
   ·rw[if_pos h0,if_neg (λ h1=>h01 ⟨h0,h1⟩),if_pos h0]
   ·rw[if_neg h0,if_neg h0])
  replace h01:=q_ h01;clear hI hQ hPar hA
  go_in
  go_wp2_with (go_at_call 36;refine hB.o.mono ?_;rintro e w1 ⟨sv,rv,sv',rv',ev,rfl,hf1,hm⟩;(rcases hm with⟨h0,h1,_⟩|⟨_,rfl,rfl,rfl,rfl,⟨T,x,rfl⟩,hk⟩;(exact absurd ⟨h0,h1⟩ h01.o));replace hk:=q_ hk;replace hf1:=q_ hf1)
  refine bodyPost_ret (v:=.tuple #[.string noB,.int .i64 0,.iface T x]) (by simp[results,results21,go_sem];rfl) rfl ?_;rw[Q_.o];unfold zav;rw[hans.o];exact⟨_,rfl,(hf1.o.alloc _).alloc _,hk.o.fr (((Fr.refl _ _).alloc _).alloc _)⟩
theorem zk3 (S:xg_ A w) (hI:yi_ w) (hQ:yd_ w) (hPar:xh_ w) (hA:vq_ w) :
 Calls prog 9 #[.string sw,.string sr,.string bs] w λ e w'=>e=.returned (.tuple #[.string (yk_ sw sr bs).1,.int .i64 ((yk_ sw sr bs).2.1:Int),.int .i64 (yk_ sw sr bs).2.2])/\Fr w w' (λ _=>False):=by
 refine hq_ λ POST Q_=>?_;have hC:=zmi (sw:=sw) (sr:=sr) (bs:=bs) S hI hQ hPar hA;unfold zav at hC;generalize (yk_ sw sr bs).1=b at hC Q_;generalize (yk_ sw sr bs).2.1=j at hC Q_;generalize (yk_ sw sr bs).2.2=n at hC Q_;replace hC:=q_ hC;clear S hI hQ hPar hA
 go_in
 go_wp2_with (first
  |(go_at_call 21;refine hC.o.mono ?_;rintro e w1 ⟨ev,rfl,hf1,hN⟩;replace hf1:=q_ hf1;have hk:=q_ (hN w1 (Fr.refl _ _));clear hN)
  |(go_at_call 22;refine hk.o.mono ?_;rintro e w2 ⟨rfl,rfl⟩))
 refine bodyPost_ret (v:=.tuple #[.string b,.int .i64 (j:Int),.int .i64 n]) (by simp[results,results9,go_sem]) rfl ?_;rw[Q_.o];exact⟨rfl,hf1.o⟩
theorem Kit.res (h:Kit A w) (sw sr bs:BA):Calls prog 9 #[.string sw,.string sr,.string bs] w λ e w'=>e=.returned (.tuple #[.string (yk_ sw sr bs).1,.int .i64 ((yk_ sw sr bs).2.1:Int),.int .i64 (yk_ sw sr bs).2.2])/\Fr w w' (λ _=>False):=by
 obtain⟨S,hI,hQ,hP,hA⟩:=h;exact zk3 S hI hQ hP hA
open Go.RowKit
theorem zwb (K:Kit A w) :
 Calls prog 4 #[.string sw,.string sr,.string bs] w λ e w'=>e=.returned (.bool true)/\Fr w w' (λ _=>False):=by
 refine hq_ λ POST Q_=>?_;have hL:=q_ (zun K);have hR:=λ W (hW:Fr w W (λ _=>False))=>(K.fr hW).res sw sr bs;have hD:=λ W (hW:Fr w W (λ _=>False))=>(K.fr hW).dec sw bs
 by_cases h0:(yk_ sw sr bs).2.2=0
 ·obtain⟨hd,hj,he⟩:=zwc h0;rw[h0] at hR;rw[hd,hj] at hD;have hE:=λ W (hW:Fr w W (λ _=>False)) (hz:(yk_ sw sr bs).1.size<=4000)=>(show _ from(he hz)▸(K.fr hW).enc sr (yk_ sw sr bs).1);generalize (yk_ sw sr bs).1=b at hR hE he;generalize (yk_ sw sr bs).2.1=j at hR hD hj;generalize (ys_ sw bs).1=b' at hD;generalize (x0_ sr b).1=c at hE;clear he hd hj;replace hR:=q_ hR;replace hD:=q_ hD
  have hjj:((j:Int)==(j:Int))=true:=by rw[beq_iff_eq]
  by_cases hz:4000<b.size
  ·have hzi:(4000:Int)<(b.size:Int):=by omega
   clear K hE h0
   go_in
   go_wp2_with (first
    |(go_at_call 14;refine hL.o.mono ?_;rintro e w1 ⟨rfl,hf1⟩;replace hf1:=q_ hf1)
    |(go_at_call 9;refine(hR.o _ hf1.o).mono ?_;rintro e w2 ⟨rfl,hf2⟩;replace hf2:=q_ (hf1.o.trans hf2 u_))
    |(go_at_call 15;refine(hD.o _ hf2.o).mono ?_;rintro e w3 ⟨rfl,hf3⟩;replace hf3:=q_ (hf2.o.trans hf3 u_))
    | go_in)
   rw[Q_.o];exact⟨rfl,hf3.o⟩
  ·have hzi:¬ ((4000:Int)<(b.size:Int)):=by omega
   replace hE:=q_ (λ W hW=>hE W hW (by omega));clear K h0
   go_in
   go_wp2_with (first
    |(go_at_call 14;refine hL.o.mono ?_;rintro e w1 ⟨rfl,hf1⟩;replace hf1:=q_ hf1)
    |(go_at_call 9;refine(hR.o _ hf1.o).mono ?_;rintro e w2 ⟨rfl,hf2⟩;replace hf2:=q_ (hf1.o.trans hf2 u_))
    |(go_at_call 15;refine(hD.o _ hf2.o).mono ?_;rintro e w3 ⟨rfl,hf3⟩;replace hf3:=q_ (hf2.o.trans hf3 u_))
    |(go_at_call 17;refine(hE.o _ hf3.o).mono ?_;rintro e w4 ⟨rfl,hf4⟩;replace hf4:=q_ (hf3.o.trans hf4 u_))
    | go_in)
   rw[Q_.o];exact⟨rfl,hf4.o⟩
 ·obtain⟨hb,hn⟩:=zpg h0;rw[hb,hn,zv0] at hR;have h6:=λ h=>zvg (sr:=sr) (sw:=sw) (bs:=bs) h;generalize (yk_ sw sr bs).2.2=n at hR h0 h6
  have hne:(n==0)=false:=by simp;exact h0
  replace hR:=q_ hR;generalize (ys_ sw bs).1=b' at hD;generalize (ys_ sw bs).2.1=j at hD
  by_cases hd:(ys_ sw bs).2.2=0
  ·have hn6:(n != 6)=true:=by rw[bne_iff_ne];exact h6 hd
   rw[hd] at hD;replace hD:=q_ hD;clear K h6 hd hb hn
   go_in
   go_wp2_with (first
    |(go_at_call 14;refine hL.o.mono ?_;rintro e w1 ⟨rfl,hf1⟩;replace hf1:=q_ hf1)
    |(go_at_call 9;refine(hR.o _ hf1.o).mono ?_;rintro e w2 ⟨rfl,hf2⟩;replace hf2:=q_ (hf1.o.trans hf2 u_))
    |(go_at_call 15;refine(hD.o _ hf2.o).mono ?_;rintro e w3 ⟨rfl,hf3⟩;replace hf3:=q_ (hf2.o.trans hf3 u_))
    | go_in)
   rw[Q_.o];exact⟨rfl,hf3.o⟩
  ·generalize (ys_ sw bs).2.2=k at hD hd
   have hke:(k==0)=false:=by simp;exact hd
   replace hD:=q_ hD;clear K h6 hb hn
   go_in
   go_wp2_with (first
    |(go_at_call 14;refine hL.o.mono ?_;rintro e w1 ⟨rfl,hf1⟩;replace hf1:=q_ hf1)
    |(go_at_call 9;refine(hR.o _ hf1.o).mono ?_;rintro e w2 ⟨rfl,hf2⟩;replace hf2:=q_ (hf1.o.trans hf2 u_))
    |(go_at_call 15;refine(hD.o _ hf2.o).mono ?_;rintro e w3 ⟨rfl,hf3⟩;replace hf3:=q_ (hf2.o.trans hf3 u_))
    | go_in)
   rw[Q_.o];exact⟨rfl,hf3.o⟩
end Go.Proofs.YthmjjpkjgjklmaaGreatDoor
