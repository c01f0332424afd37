import Derived.Test.YthmjjpkjgjklmaaGreatDoorW43
import Derived.Test.YthmjjpkjgjklmaaGreatDoorW39
import Derived.Test.YthmjjpkjgjklmaaGreatDoorA00
set_option maxHeartbeats 16000000
set_option maxRecDepth 100000
set_option linter.unusedSimpArgs false
open Go.Proofs.Tryz
namespace Go.Proofs.YthmjjpkjgjklmaaGreatDoor
open Go.RowKit
variable {lo:Nat}{s:BA}{sv rv:Value}
theorem jy_.frS {E:Errs}{w w':World}{ev:Value}{a:Int×Int}{S:Nat->Prop}(h:jy_ E w lo ev a) (hf:Fr w w' S) (hS:∀ g,lo<=g->¬ S g):jy_ E w' lo ev a:=by
 rcases h with h|h|⟨h1,h2⟩|⟨h1,h2⟩|⟨h1,h2⟩|⟨h1,cv,h2,h3⟩
 ·exact .inl h
 ·exact .inr (.inl h)
 ·exact .inr (.inr (.inl ⟨h1,h2.fr hf hS⟩))
 ·exact .inr (.inr (.inr (.inl ⟨h1,h2.fr hf hS⟩)))
 ·exact .inr (.inr (.inr (.inr (.inl ⟨h1,h2.fr hf hS⟩))))
 ·exact .inr (.inr (.inr (.inr (.inr ⟨h1,cv,h2.fr hf hS,h3.fr hf hS⟩))))
theorem SchX.frS {w w':World}{S:Nat->Prop}(h:SchX lo w s sv rv) (hf:Fr w w' S) (hS:∀ g,lo<=g->¬ S g):SchX lo w' s sv rv:=by
 obtain⟨ds,t,xs,hs,hp,hn,hu,D,T,F⟩:=h;have hz:=hf.size;exact⟨ds,t,xs,hs,hp,hn,hu,(D.fr hf (λ g hg=>hS g hg.1)).mono (λ g _ hg=>⟨hg.1,by omega⟩),(T.fr hf (λ g hg=>hS g hg.1)).mono (λ g _ hg=>⟨hg.1,by omega⟩),(F.fr D hf (λ g hg=>hS g hg.1) hS).mono l_ (λ g hg=>⟨hg.1,by omega⟩)⟩
theorem SchX.less {lo':Nat}{w:World}(h:SchX lo w s sv rv) (hl:lo'<=lo):SchX lo' w s sv rv:=by
 obtain⟨ds,t,xs,hs,hp,hn,hu,D,T,F⟩:=h;exact⟨ds,t,xs,hs,hp,hn,hu,D.mono (λ g _ hg=>⟨by omega,hg.2⟩),T.mono (λ g _ hg=>⟨by omega,hg.2⟩),F.mono hl (λ g hg=>⟨by omega,hg.2⟩)⟩
theorem SchX.forms {w:World}(h:SchX lo w s sv rv):∃ sa sn sc rT rx,sv=.slice sa sn sc/\rv=.iface rT rx:=by
 obtain⟨ds,t,xs,hs,hp,hn,hu,D,T,F⟩:=h;obtain⟨sa,sc,rfl⟩:=zf_ D.row;obtain⟨rT,rx,rfl⟩:=T.iface;exact⟨_,_,_,_,_,rfl,rfl⟩
def zgx (w:World) (sw sr:BA) (e:Ending) (w':World):Prop:=
 ∃ sv rv sv' rv' ev,e=.returned (.tuple #[.agg #[sv,rv],.agg #[sv',rv'],ev])/\Fr w w' (λ _=>False)/\
  (((zj_ sw).1=0/\(zj_ sr).1=0/\ev=.nilIface/\SchX w.heap.size w' sw sv rv/\SchX w.heap.size w' sr sv' rv')\/
   (¬ ((zj_ sw).1=0/\(zj_ sr).1=0)/\sv=.slice none 0 0/\rv=.nilIface/\sv'=.slice none 0 0/\rv'=.nilIface/\(∃ T x,ev=.iface T x)/\ze1 w' ev (if (zj_ sw).1=0 then (zj_ sr).1 else (zj_ sw).1)))
theorem st2 {w:World}{n m:Nat}{u0 u1 x0 x1 a b:Value}{T T':TypeId}(B:Blk w n [u0,u1] T) (B':Blk w m [x0,x1] T') (hne:m≠n) :
 Blk ((w.setCell ⟨n,0,none⟩ a).setCell ⟨n,1,none⟩ b) n [a,b] T/\Blk ((w.setCell ⟨n,0,none⟩ a).setCell ⟨n,1,none⟩ b) m [x0,x1] T'/\Fr w ((w.setCell ⟨n,0,none⟩ a).setCell ⟨n,1,none⟩ b) (λ g=>g=n):=
 ⟨Blk.pair B a b,(Fr.pair w n a b).blk B' (λ e=>hne e),Fr.pair w n a b⟩
section
variable {A:Nat->Addr} {w:World} {sw sr:BA}
theorem zaf (S:xg_ A w) (hI:yi_ w) (hQ:yd_ w) (hPar:xh_ w) (s:BA):∀ W,Fr w W (λ _=>False)->Calls prog 49 #[.string s] W (zo6 W s (zb3 A)):=λ W hW=>by
 have hz:=hW.size;have tr:∀ V,y1_ W V->y1_ w V:=λ V hG g hg=>(hG g (by omega)).trans (hW.block g hg id);exact zsc (S.fr hW).errs (λ V hG=>hI V (tr V hG)) (λ V hG=>hQ V (tr V hG)) (zij (λ V hG=>hPar V (tr V hG)))
theorem zd2 (w:World):∃ wz,wz=(w.alloc (.cells #[.slice none 0 0,.nilIface] 90)).alloc (.cells #[.slice none 0 0,.nilIface] 90)/\Fr w wz (λ _=>False)/\wz.heap.size=w.heap.size+2/\Blk wz w.heap.size [.slice none 0 0,.nilIface] 90/\Blk wz (w.heap.size+1) [.slice none 0 0,.nilIface] 90:=by
 refine⟨_,rfl,((Fr.refl w (λ _=>False)).alloc _).alloc _,by rw[z1_,z1_],(Blk.new w #[.slice none 0 0,.nilIface] 90).alloc _,?_⟩;have h:=Blk.new (w.alloc (.cells #[.slice none 0 0,.nilIface] 90)) #[.slice none 0 0,.nilIface] 90;rw[z1_] at h;exact h
theorem zpj (S:xg_ A w) (hI:yi_ w) (hQ:yd_ w) (hPar:xh_ w) (h0:(zj_ sw).1≠0) :
 Calls prog 36 #[.string sw,.string sr] w (zgx w sw sr):=by
 refine hq_ λ POST Q_=>?_;obtain⟨wz,hwz,Fz,hz2,B0,B1⟩:=zd2 w;have hR:=q_ (zaf S hI hQ hPar sw wz Fz);replace h0:=q_ h0;replace S:=q_ S;replace B0:=q_ B0;replace B1:=q_ B1;replace Fz:=q_ Fz;replace hwz:=q_ hwz;replace hz2:=q_ hz2;clear hI hQ hPar
 go_in
 go_wp2_with (go_at_call 49;rw[<- hwz.o];refine hR.o.mono ?_;rintro e w1 ⟨sv,rv,ev,rfl,⟨sa,sn,sc,rfl⟩,hIr,hf1,hEr,-⟩;obtain⟨T,x,rfl,_⟩:=hEr.num (S.o.fr (Fz.o.trans hf1 u_)) h0.o;have hb0:=hf1.blk B0.o id;have hb1:=hf1.blk B1.o id;have hl0:w.heap.size<w1.heap.size:=hb0.lt;have hl1:w.heap.size+1<w1.heap.size:=hb1.lt;have r0:=hb0.c0;have r1:=hb0.c1;have g0:=hb0.thaw 0;have g1:=hb0.thaw 1;have r2:=hb1.c0;have r3:=hb1.c1;have g2:=hb1.thaw 0;have g3:=hb1.thaw 1;have hbb:=q_ (And.intro hb0 hb1);replace hf1:=q_ hf1;replace hEr:=q_ hEr;clear hb0 hb1 hR;rcases hIr with rfl|⟨rT,rx,rfl⟩)
 ·have s1:=st2 (a:=.slice sa sn sc) (b:=.nilIface) hbb.o.1 hbb.o.2 (by omega);have s2:=st2 (a:=.slice none 0 0) (b:=.nilIface) s1.1 s1.2.1 (by omega);have s3:=st2 (a:=.slice none 0 0) (b:=.nilIface) s2.2.1 s2.1 (by omega);have q0:=s3.2.1.c0;have q1:=s3.2.1.c1;have q2:=s3.1.c0;have q3:=s3.1.c1;refine bodyPost_ret (v:=.tuple #[.agg #[.slice none 0 0,.nilIface],.agg #[.slice none 0 0,.nilIface],.iface T x]) (by simp[results,results36,go_sem,q0,q1,q2,q3]) rfl ?_;rw[Q_.o];have F3:Fr w1 _ (λ g=>g=w.heap.size\/g=w.heap.size+1):=((s1.2.2.mono (λ _ _ e=>.inl e)).trans s2.2.2 (λ _ _ e=>.inl e)).trans s3.2.2 (λ _ _ e=>.inr e);have F4:=(Fz.o.trans hf1.o u_).trans F3 (λ x hx e=>by omega);refine⟨_,_,_,_,_,rfl,F4,.inr ⟨λ h=>h0.o h.1,rfl,rfl,rfl,rfl,⟨_,_,rfl⟩,?_⟩⟩;rw[if_neg h0.o];exact(hEr.o.frS F3 (λ g hg e=>by have:=hz2.o;omega)).numIs (S.o.fr F4) h0.o
 ·have s1:=st2 (a:=.slice sa sn sc) (b:=.iface rT rx) hbb.o.1 hbb.o.2 (by omega);have s2:=st2 (a:=.slice none 0 0) (b:=.nilIface) s1.1 s1.2.1 (by omega);have s3:=st2 (a:=.slice none 0 0) (b:=.nilIface) s2.2.1 s2.1 (by omega);have q0:=s3.2.1.c0;have q1:=s3.2.1.c1;have q2:=s3.1.c0;have q3:=s3.1.c1;refine bodyPost_ret (v:=.tuple #[.agg #[.slice none 0 0,.nilIface],.agg #[.slice none 0 0,.nilIface],.iface T x]) (by simp[results,results36,go_sem,q0,q1,q2,q3]) rfl ?_;rw[Q_.o];have F3:Fr w1 _ (λ g=>g=w.heap.size\/g=w.heap.size+1):=((s1.2.2.mono (λ _ _ e=>.inl e)).trans s2.2.2 (λ _ _ e=>.inl e)).trans s3.2.2 (λ _ _ e=>.inr e);have F4:=(Fz.o.trans hf1.o u_).trans F3 (λ x hx e=>by omega);refine⟨_,_,_,_,_,rfl,F4,.inr ⟨λ h=>h0.o h.1,rfl,rfl,rfl,rfl,⟨_,_,rfl⟩,?_⟩⟩;rw[if_neg h0.o];exact(hEr.o.frS F3 (λ g hg e=>by have:=hz2.o;omega)).numIs (S.o.fr F4) h0.o
theorem zpi (S:xg_ A w) (hI:yi_ w) (hQ:yd_ w) (hPar:xh_ w) (h0:(zj_ sw).1=0) (h1:(zj_ sr).1≠0) :
 Calls prog 36 #[.string sw,.string sr] w (zgx w sw sr):=by
 refine hq_ λ POST Q_=>?_;obtain⟨wz,hwz,Fz,hz2,B0,B1⟩:=zd2 w;have hR:=q_ (zaf S hI hQ hPar sw wz Fz);have hR':=q_ (zaf S hI hQ hPar sr);replace h0:=q_ h0;replace h1:=q_ h1;replace S:=q_ S;replace B0:=q_ B0;replace B1:=q_ B1;replace Fz:=q_ Fz;replace hwz:=q_ hwz;replace hz2:=q_ hz2;clear hI hQ hPar
 go_in
 go_wp2_with (first
  |(go_at_call 49;rw[<- hwz.o];refine hR.o.mono ?_;rintro e w1 ⟨sv,rv,ev,rfl,-,-,hf1,hEr,hM⟩;obtain⟨_,rfl⟩:=hEr.zero h0.o;obtain⟨sa,sn,sc,rT,rx,rfl,rfl⟩:=(hM h0.o).forms;have hb0:=hf1.blk B0.o id;have hb1:=hf1.blk B1.o id;have hl0:w.heap.size<w1.heap.size:=hb0.lt;have hl1:w.heap.size+1<w1.heap.size:=hb1.lt;have r0:=hb0.c0;have r1:=hb0.c1;have g0:=hb0.thaw 0;have g1:=hb0.thaw 1;have r2:=hb1.c0;have r3:=hb1.c1;have g2:=hb1.thaw 0;have g3:=hb1.thaw 1;have s1:=q_ (st2 (a:=.slice sa sn sc) (b:=.iface rT rx) hb0 hb1 (by omega));have F1:=q_ (Fz.o.trans hf1 u_);clear hb0 hb1 hR hf1 hEr hM)
  |(go_at_call 49;refine(hR'.o _ (F1.o.trans s1.o.2.2 (λ x hx e=>by omega))).mono ?_;rintro e w2 ⟨sv',rv',ev,rfl,⟨sa',sn',sc',rfl⟩,hIr,hf2,hEr,-⟩;have hlo:=q_ s1.o.2.2.size;have F2:=q_ ((F1.o.trans s1.o.2.2 (λ x hx e=>by omega)).trans hf2 u_);obtain⟨T,x,rfl,_⟩:=hEr.num (S.o.fr F2.o) h1.o;have hb0:=hf2.blk s1.o.1 id;have hb1:=hf2.blk s1.o.2.1 id;have hm0:w.heap.size<w2.heap.size:=hb0.lt;have hm1:w.heap.size+1<w2.heap.size:=hb1.lt;have r0:=hb0.c0;have r1:=hb0.c1;have g0:=hb0.thaw 0;have g1:=hb0.thaw 1;have r2:=hb1.c0;have r3:=hb1.c1;have g2:=hb1.thaw 0;have g3:=hb1.thaw 1;have hbb:=q_ (And.intro hb0 hb1);replace hEr:=q_ hEr;clear hb0 hb1 hR' hf2;rcases hIr with rfl|⟨rT',rx',rfl⟩))
 ·have s2:=st2 (a:=.slice sa' sn' sc') (b:=.nilIface) hbb.o.2 hbb.o.1 (by omega);have s3:=st2 (a:=.slice none 0 0) (b:=.nilIface) s2.2.1 s2.1 (by omega);have s4:=st2 (a:=.slice none 0 0) (b:=.nilIface) s3.2.1 s3.1 (by omega);have q0:=s4.2.1.c0;have q1:=s4.2.1.c1;have q2:=s4.1.c0;have q3:=s4.1.c1;refine bodyPost_ret (v:=.tuple #[.agg #[.slice none 0 0,.nilIface],.agg #[.slice none 0 0,.nilIface],.iface T x]) (by simp[results,results36,go_sem,q0,q1,q2,q3]) rfl ?_;rw[Q_.o];have F3:Fr w2 _ (λ g=>g=w.heap.size\/g=w.heap.size+1):=((s2.2.2.mono (λ _ _ e=>.inr e)).trans s3.2.2 (λ _ _ e=>.inl e)).trans s4.2.2 (λ _ _ e=>.inr e);have F4:=F2.o.trans F3 (λ x hx e=>by omega);refine⟨_,_,_,_,_,rfl,F4,.inr ⟨λ h=>h1.o h.2,rfl,rfl,rfl,rfl,⟨_,_,rfl⟩,?_⟩⟩;rw[if_pos h0.o];exact(hEr.o.frS F3 (λ g hg e=>by have:=hlo.o;omega)).numIs (S.o.fr F4) h1.o
 ·have s2:=st2 (a:=.slice sa' sn' sc') (b:=.iface rT' rx') hbb.o.2 hbb.o.1 (by omega);have s3:=st2 (a:=.slice none 0 0) (b:=.nilIface) s2.2.1 s2.1 (by omega);have s4:=st2 (a:=.slice none 0 0) (b:=.nilIface) s3.2.1 s3.1 (by omega);have q0:=s4.2.1.c0;have q1:=s4.2.1.c1;have q2:=s4.1.c0;have q3:=s4.1.c1;refine bodyPost_ret (v:=.tuple #[.agg #[.slice none 0 0,.nilIface],.agg #[.slice none 0 0,.nilIface],.iface T x]) (by simp[results,results36,go_sem,q0,q1,q2,q3]) rfl ?_;rw[Q_.o];have F3:Fr w2 _ (λ g=>g=w.heap.size\/g=w.heap.size+1):=((s2.2.2.mono (λ _ _ e=>.inr e)).trans s3.2.2 (λ _ _ e=>.inl e)).trans s4.2.2 (λ _ _ e=>.inr e);have F4:=F2.o.trans F3 (λ x hx e=>by omega);refine⟨_,_,_,_,_,rfl,F4,.inr ⟨λ h=>h1.o h.2,rfl,rfl,rfl,rfl,⟨_,_,rfl⟩,?_⟩⟩;rw[if_pos h0.o];exact(hEr.o.frS F3 (λ g hg e=>by have:=hlo.o;omega)).numIs (S.o.fr F4) h1.o
theorem zph (S:xg_ A w) (hI:yi_ w) (hQ:yd_ w) (hPar:xh_ w) (h0:(zj_ sw).1=0) (h1:(zj_ sr).1=0) :
 Calls prog 36 #[.string sw,.string sr] w (zgx w sw sr):=by
 refine hq_ λ POST Q_=>?_;obtain⟨wz,hwz,Fz,hz2,B0,B1⟩:=zd2 w;have hR:=q_ (zaf S hI hQ hPar sw wz Fz);have hR':=q_ (zaf S hI hQ hPar sr);replace h0:=q_ h0;replace h1:=q_ h1;replace S:=q_ S;replace B0:=q_ B0;replace B1:=q_ B1;replace Fz:=q_ Fz;replace hwz:=q_ hwz;replace hz2:=q_ hz2;clear hI hQ hPar
 go_in
 go_wp2_with (first
  |(go_at_call 49;rw[<- hwz.o];refine hR.o.mono ?_;rintro e w1 ⟨sv,rv,ev,rfl,-,-,hf1,hEr,hM⟩;obtain⟨_,rfl⟩:=hEr.zero h0.o;have hX:=q_ (hM h0.o);obtain⟨sa,sn,sc,rT,rx,rfl,rfl⟩:=hX.o.forms;have hb0:=hf1.blk B0.o id;have hb1:=hf1.blk B1.o id;have hl0:w.heap.size<w1.heap.size:=hb0.lt;have hl1:w.heap.size+1<w1.heap.size:=hb1.lt;have r0:=hb0.c0;have r1:=hb0.c1;have g0:=hb0.thaw 0;have g1:=hb0.thaw 1;have r2:=hb1.c0;have r3:=hb1.c1;have g2:=hb1.thaw 0;have g3:=hb1.thaw 1;have s1:=q_ (st2 (a:=.slice sa sn sc) (b:=.iface rT rx) hb0 hb1 (by omega));have F1:=q_ (Fz.o.trans hf1 u_);clear hb0 hb1 hR hf1 hEr hM)
  |(go_at_call 49;refine(hR'.o _ (F1.o.trans s1.o.2.2 (λ x hx e=>by omega))).mono ?_;rintro e w2 ⟨sv',rv',ev,rfl,-,-,hf2,hEr,hM⟩;obtain⟨_,rfl⟩:=hEr.zero h1.o;have hX':=q_ (hM h1.o);obtain⟨sa',sn',sc',rT',rx',rfl,rfl⟩:=hX'.o.forms;have hlo:=q_ s1.o.2.2.size;have hX1:=q_ ((hX.o.frS s1.o.2.2 (λ g hg e=>by have:=hz2.o;omega)).frS hf2 u_);have hb0:=hf2.blk s1.o.1 id;have hb1:=hf2.blk s1.o.2.1 id;have hm0:w.heap.size<w2.heap.size:=hb0.lt;have hm1:w.heap.size+1<w2.heap.size:=hb1.lt;have r0:=hb0.c0;have r1:=hb0.c1;have g0:=hb0.thaw 0;have g1:=hb0.thaw 1;have r2:=hb1.c0;have r3:=hb1.c1;have g2:=hb1.thaw 0;have g3:=hb1.thaw 1;have s2:=q_ (st2 (a:=.slice sa' sn' sc') (b:=.iface rT' rx') hb1 hb0 (by omega));have F2:=q_ ((F1.o.trans s1.o.2.2 (λ x hx e=>by omega)).trans hf2 u_);clear hb0 hb1 hR' hf2 hEr hM hX))
 have s3:=s2.o;obtain⟨W3,hW3⟩:∃ W,W=(w2.setCell ⟨w.heap.size+1,0,none⟩ (.slice sa' sn' sc')).setCell ⟨w.heap.size+1,1,none⟩ (.iface rT' rx'):=⟨_,rfl⟩;rw[<- hW3] at s3⊢;obtain⟨b1,b0,f3⟩:=s3;have F3:=q_ (F2.o.trans f3 (λ x hx e=>by omega));have Y1:=q_ (hX1.o.frS f3 (λ g hg e=>by have:=hz2.o;omega));have Y2:=q_ (hX'.o.frS f3 (λ g hg e=>by have:=hlo.o;omega));have c0:=b0.c0;have c1:=b0.c1;have c2:=b1.c0;have c3:=b1.c1;have t0:=b0.thaw 0;have t1:=b0.thaw 1;have t2:=b1.thaw 0;have t3:=b1.thaw 1;have s4:=st2 (a:=.slice sa sn sc) (b:=.iface rT rx) b0 b1 (by omega);have s5:=st2 (a:=.slice sa' sn' sc') (b:=.iface rT' rx') s4.2.1 s4.1 (by omega);have q0:=s5.2.1.drew.c0;have q1:=s5.2.1.drew.c1;have q2:=s5.1.drew.c0;have q3:=s5.1.drew.c1;have F4:Fr W3 _ (λ g=>g=w.heap.size\/g=w.heap.size+1):=((s4.2.2.mono (λ _ _ e=>.inl e)).trans s5.2.2 (λ _ _ e=>.inr e)).drew;replace F4:=q_ F4;replace q0:=q_ q0;replace q1:=q_ q1;replace q2:=q_ q2;replace q3:=q_ q3;replace hlo:=q_ (show w.heap.size+2<=((w1.setCell ⟨w.heap.size,0,none⟩ (.slice sa sn sc)).setCell ⟨w.heap.size,1,none⟩ (.iface rT rx)).heap.size by have:=hlo.o;omega);clear b0 b1 f3 hW3 s2 s1 r0 r1 r2 r3 g0 g1 g2 g3 s4 s5 hX1 hX'
 go_region
 go_wp2_with fail
 refine bodyPost_ret (v:=.tuple #[.agg #[.slice sa sn sc,.iface rT rx],.agg #[.slice sa' sn' sc',.iface rT' rx'],.nilIface]) (by simp[results,results36,go_sem,q0.o,q1.o,q2.o,q3.o]) rfl ?_;rw[Q_.o];refine⟨_,_,_,_,_,rfl,F3.o.trans F4.o (λ x hx e=>by omega),.inl ⟨h0.o,h1.o,rfl,?_,?_⟩⟩
 ·exact(Y1.o.frS F4.o (λ g hg e=>by have:=hz2.o;omega)).less (by have:=hz2.o;omega)
 ·exact(Y2.o.frS F4.o (λ g hg e=>by have:=hlo.o;omega)).less (by have:=hlo.o;omega)
theorem zjx (S:xg_ A w) (hI:yi_ w) (hQ:yd_ w) (hPar:xh_ w) :
 Calls prog 36 #[.string sw,.string sr] w (zgx w sw sr):=by
 by_cases h0:(zj_ sw).1=0
 ·by_cases h1:(zj_ sr).1=0
  ·exact zph S hI hQ hPar h0 h1
  ·exact zpi S hI hQ hPar h0 h1
 ·exact zpj S hI hQ hPar h0
end
end Go.Proofs.YthmjjpkjgjklmaaGreatDoor
