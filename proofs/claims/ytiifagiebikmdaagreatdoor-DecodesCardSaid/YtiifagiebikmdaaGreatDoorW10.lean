import Derived.Test.YtiifagiebikmdaaGreatDoorW09
import Derived.Test.YtiifagiebikmdaaGreatDoorW01
import Derived.Test.YtiifagiebikmdaaGreatDoorA00
set_option maxHeartbeats 16000000
set_option maxRecDepth 100000
set_option linter.unusedSimpArgs false
open Go.Proofs.Tryz
namespace Go.Proofs.YtiifagiebikmdaaGreatDoor
open Go.RowKit
variable {i f p:Nat}{t:PT}{bad keyed:Bool}
theorem zwv {w:World}{P:Nat->Prop}{bl:Nat}{s:BA}{bz:Nat}{pl:Bool}{ts:List TR}{env:Nat->Option PB}{k H:Nat}(M:DM w P bl s bz pl i false ts env w) (hk:isT ts k t) (i4:H=93\/H=125) (hR:∀ j,i<=j->j<=s.size->j9_ s env pl ts f t j) :
 Calls prog 63 #[.pointer (some ⟨bl,0,none⟩),.int .i64 (k:Int),.int .u8 (H:Int),.bool keyed] w (z6_ w bl s bz pl (zuf keyed (zb0 (rdT s env pl f t) s H keyed i))):=by
 have V:=M.sl;have k1:=M.jl
 have f9:0<H:=by omega
 have j9:H≠44:=by omega
 obtain⟨R_,e6⟩:∃ r,r=zb0 (rdT s env pl f t) s H keyed i:=⟨_,rfl⟩;rw[<- e6];refine hq_ λ j4 Q_=>?_;obtain⟨R,d0⟩:∃ R,R=rdT s env pl f t:=⟨_,rfl⟩;rw[<- d0] at e6
 have f0:LInv R_ R H keyed i w P bl s bz pl ts env (s.size+3) ((w.alloc (.cells zg_.toArray 37)).alloc (.cells zg_.toArray 37)):=
  ⟨_,_,_,_,_,.inl ⟨[],i,zni M,Dts.nil _ _ _ _,by simp[v7_],by omega,.inl ⟨rfl,rfl,by rw[e6,zb0,zpx]⟩⟩⟩
 replace f0:=q_ f0;replace hk:=q_ hk;replace d0:=q_ d0;replace hR:=q_ hR;clear e6 M i4
 go_in
 go_wp2_with fail
 go_loopg [] (s.size+3) (λ m W=>LInv R_ R H keyed i w P bl s bz pl ts env m W)
 case atStart=>exact f0.o
 case round=>
  clear f0;obtain⟨vk,vs,ks,n,xs,hG|hB⟩:=hrel
  ·obtain⟨N,j,x,D,Y,hm,d8⟩:=hG;obtain⟨F,A,rfl⟩:=zo_ x.kr;obtain⟨B,C,rfl⟩:=zo_ x.vr;have a6:=x.M.jl;have c2:=x.M.L.c2;have t4:=x.r1.cell 4;have t3:=x.r1.cell 3;simp only[zb_,aa_,ab_] at t3 t4;obtain⟨c,hc⟩:∃ c,bt s j=c:=⟨_,rfl⟩;have b7:=q_ (show lk s j false=c by simp[lk,hc]);have a7:H_ (n=N.length):=q_ (by have:=D.1;simpa using this);replace x:=q_ x;replace D:=q_ D;replace Y:=q_ Y
   by_cases e7:c=H
   ·subst e7
    have e1:((c:Int) != (c:Int))=false:=by simp
    have i9:j<s.size:=zj_ (by omega)
    rcases d8 with⟨b5,a5,E⟩|⟨d7,f2,nn,g7,E⟩
    ·subst b5;have d2:n=0:=a7.o;clear a7;subst d2;replace E:=q_ E;replace a5:=q_ a5;replace hc:=q_ hc
     go_wp2_with (first
      |(go_at_call 60;refine(y9_ x.o.M.L V a6).mono ?_;rintro e w1 ⟨rfl,a0⟩;rw[b7.o];have z:=q_ (x.o.still a0);have I:=q_ (D.o.still a0);have b8:=z.o.r1.cell 4;have f4:=z.o.M.L.c2;simp only[zb_,aa_,ab_] at b8)
      |(go_at_call 59;refine(xo_ c z.o.M.L V a6 rfl f9).mono ?_;rintro e w2 ⟨rfl,S⟩;obtain⟨J,a4,l,F2,hJ⟩:=LEat.lm f9 z.o S;have y:=z.o.dts I.o F2;have r0:=l.r0.cell 0;have r1:=l.r0.cell 1;have r2:=l.r0.cell 2;have r3:=l.r0.cell 3;have r4:=l.r0.cell 4;obtain⟨g0,g1,g2,g3,g4⟩:=l.r0.t5;have t0:=l.r1.cell 0;have t1:=l.r1.cell 1;have t2:=l.r1.cell 2;have t3:=l.r1.cell 3;have t4:=l.r1.cell 4;simp only[zg_,zb_,aa_,ab_,af_] at r0 r1 r2 r3 r4 t0 t1 t2 t3 t4;have R0:=q_ l.r0;replace l:=q_ l;replace y:=q_ y;clear S))
     have L5:=Blk.five R0.o (.int .u8 0) (.int .i64 0) (.string noB) (.slice F ks.length A) (.slice B 0 C);obtain⟨q0,q1,q2,q3,q4⟩:=L5.d5;have hF:=Fr.five w2 (w.heap.size) (.int .u8 0) (.int .i64 0) (.string noB) (.slice F ks.length A) (.slice B 0 C);generalize (((((World.setCell w2 ⟨w.heap.size,0,none⟩ (.int .u8 0)).setCell ⟨w.heap.size,1,none⟩ (.int .i64 0)).setCell ⟨w.heap.size,2,none⟩ (.string noB)).setCell ⟨w.heap.size,3,none⟩ (.slice F ks.length A)).setCell ⟨w.heap.size,4,none⟩ (.slice B 0 C))=W5 at *;refine bodyPost_ret (v:=.agg (zb_ 0 0 noB (.slice F ks.length A) (.slice B 0 C)).toArray) (by simp[results,results63,go_sem,q0,q1,q2,q3,q4,zb_]) rfl ?_;rw[Q_.o]
     rcases hJ.o with⟨_,_,rfl,rfl⟩|⟨h1,_,_⟩
     ·refine x9_ l.o.M ((l.o.dval y.o 0).mono (λ g _ hg=>by omega)) hF ?_;rw[E.o,<- a5.o,if_pos hc.o,Y.o]
      rfl
     ·exact absurd hc.o (by simpa using h1)
    ·have i0:0<N.length:=List.length_pos_iff.2 d7
     have d2:(0:Int)<(n:Int):=by have:=a7.o;omega
     replace E:=q_ E;replace hc:=q_ hc
     go_wp2_with (first
      |(go_at_call 60;refine(y9_ x.o.M.L V a6).mono ?_;rintro e w1 ⟨rfl,a0⟩;rw[b7.o];have z:=q_ (x.o.still a0);have I:=q_ (D.o.still a0);have b8:=z.o.r1.cell 4;simp only[zb_,aa_,ab_] at b8)
      |(go_at_call 60;refine(y9_ z.o.M.L V a6).mono ?_;rintro e w2 ⟨rfl,d9⟩;rw[b7.o];have l:=z.o.still d9;have y:=I.o.still d9;have j5:=l.M.L.c1;have j7:=l.M.L.thaw 1;have u:=l.inc i9;have G:=l.dts y (Fr.one w2 ⟨bl,1,none⟩ (.int .i64 ((j:Int)+1)));have r0:=u.r0.cell 0;have r1:=u.r0.cell 1;have r2:=u.r0.cell 2;have r3:=u.r0.cell 3;have r4:=u.r0.cell 4;obtain⟨g0,g1,g2,g3,g4⟩:=u.r0.t5;have t0:=u.r1.cell 0;have t1:=u.r1.cell 1;have t2:=u.r1.cell 2;have t3:=u.r1.cell 3;have t4:=u.r1.cell 4;simp only[zg_,zb_,aa_,ab_,af_] at r0 r1 r2 r3 r4 t0 t1 t2 t3 t4;have R0:=q_ u.r0;replace l:=q_ l;replace y:=q_ y;replace u:=q_ u;replace G:=q_ G))
     have L5:=Blk.five R0.o (.int .u8 0) (.int .i64 0) (.string noB) (.slice F ks.length A) (.slice B n C);obtain⟨q0,q1,q2,q3,q4⟩:=L5.d5;have hF:=Fr.five (w2.setCell ⟨bl,1,none⟩ (.int .i64 ((j:Int)+1))) (w.heap.size) (.int .u8 0) (.int .i64 0) (.string noB) (.slice F ks.length A) (.slice B n C);generalize (((((World.setCell (w2.setCell ⟨bl,1,none⟩ (.int .i64 ((j:Int)+1))) ⟨w.heap.size,0,none⟩ (.int .u8 0)).setCell ⟨w.heap.size,1,none⟩ (.int .i64 0)).setCell ⟨w.heap.size,2,none⟩ (.string noB)).setCell ⟨w.heap.size,3,none⟩ (.slice F ks.length A)).setCell ⟨w.heap.size,4,none⟩ (.slice B n C))=W5 at *;refine bodyPost_ret (v:=.agg (zb_ 0 0 noB (.slice F ks.length A) (.slice B n C)).toArray) (by simp[results,results63,go_sem,q0,q1,q2,q3,q4,zb_]) rfl ?_;rw[Q_.o];refine x9_ u.o.M ((u.o.dval G.o 0).mono (λ g _ hg=>by omega)) hF ?_;rw[E.o,zpq,if_pos hc.o,Y.o]
     rfl
   ·have e1:((c:Int) != (H:Int))=true:=by simp;omega
    have e2:((c:Int)==(H:Int))=false:=by simp;omega
    have f8:=q_ (show bt s j≠H by rw[hc];exact e7)
    have j3:n<=4000:=by
     have h0:=a7.o
     rcases d8 with⟨rfl,_,_⟩|⟨_,f2,_⟩
     ·simp at h0;omega
     ·omega
    replace d8:=q_ d8
    go_upto_if 33 with(go_at_call 60;refine(y9_ x.o.M.L V a6).mono ?_;rintro e w1 ⟨rfl,a0⟩;rw[b7.o];have z:=x.o.still a0;have I:=D.o.still a0;have b8:=z.r1.cell 4;have f4:=z.M.L.c2;simp only[zb_,aa_,ab_] at b8;replace z:=q_ z;replace I:=q_ I)
    go_cut [] (λ W=>∃ j' Q,LM w P bl s bz pl j' Q ts env w.heap.size (w.heap.size+1) (w.heap.size+2) 0 (.slice F ks.length A) (.slice B n C) ks n xs W/\Dts W (w.heap.size+2) (.slice F ks.length A) (.slice B n C) (N.map Prod.snd) n xs/\Out1 R_ R s H keyed N i j j' Q)
    case first=>
     rcases d8.o with⟨b5,a5,E⟩|⟨d7,f2,nn,g7,E⟩
     ·have d2:n=0:=by rw[a7.o,b5];rfl
      subst d2;replace E:=q_ E;replace a5:=q_ a5;replace b5:=q_ b5
      go_wp2_with fail
      go_meet
      case rel=>
       refine⟨j,false,z.o,I.o,?_⟩;have:=b5.o;subst this;exact zos a5.o f8.o E.o
     ·have i0:0<N.length:=List.length_pos_iff.2 d7
      have d2:(0:Int)<(n:Int):=by have:=a7.o;omega
      replace E:=q_ E;replace d7:=q_ d7
      go_wp2_with (first
       |(go_at_call 60;refine(y9_ z.o.M.L V a6).mono ?_;rintro e w2 ⟨rfl,d9⟩;rw[b7.o];have l:=q_ (z.o.still d9);have y:=q_ (I.o.still d9))
       |(go_at_call 59;refine(xo_ 44 l.o.M.L V a6 rfl (by decide)).mono ?_;rintro e w3 ⟨rfl,S⟩;obtain⟨X,b4,u,F3,hJ⟩:=LEat.lm (by decide) l.o S;have G:=q_ (l.o.dts y.o F3);replace u:=q_ u;clear S))
      go_meet
      case rel=>
       refine⟨X,b4,u.o,G.o,zq5 f8.o f2 g7 E.o ?_⟩
       rcases hJ.o with⟨_,a,b,c⟩|⟨a,b,c⟩
       ·exact .inl ⟨a,b,c⟩
       ·exact .inr ⟨by simpa using a,b,c⟩
    case rest=>
     clear z I b8 f4 t3 t4 c2 a0 b7 e1 e2;obtain⟨j1,f1,z,I,o1⟩:=hcut;have b6:=z.M.jl;replace z:=q_ z;replace I:=q_ I;replace o1:=q_ o1;replace hc:=q_ hc;replace e7:=q_ e7
     go_upto_if 48 with fail
     go_cut [] (λ W=>∃ j' Q h7 h8 e0,LM w P bl s bz pl j' Q ts env w.heap.size (w.heap.size+1) (w.heap.size+2) 0 (.slice h7 e0.length h8) (.slice B n C) e0 n xs W/\Dts W (w.heap.size+2) (.slice h7 e0.length h8) (.slice B n C) (N.map Prod.snd) n xs/\e0.length<=5000/\Out3 R_ R s H keyed N e0 i j j' Q)
     case first=>
      have k4:ks.length<=4000:=by
       rw[Y.o];unfold v7_;split
       ·rw[bf_,<- a7.o];exact j3
       ·simp
      cases keyed with
      | false=>
       go_wp2_with fail
       go_meet
       case rel=>exact⟨j1,f1,F,A,ks,z.o,I.o,by omega,zor b6 o1.o ks (λ _=>Y.o)⟩
      | true=>
       obtain⟨si,g8,g9,h5,h6⟩:=info_parts zyw
       rcases List.eq_nil_or_concat ks with Z|⟨q,kl,Z⟩
       ·have e8:=q_ ((zbq Y.o).1 Z);have j2:=q_ (show ks.length=0 by rw[Z];rfl);replace Z:=q_ Z
        go_upto_if 66 with(go_at_call 62;refine(zar z.o.M.L V b6).mono ?_;intro e w2 hT;obtain⟨tx,J,rfl,l,F2,hx,hK⟩:=hT.lm z.o;have y:=z.o.dts I.o F2;have a9:=l.r1.cell 3;simp only[zb_,aa_,ab_] at a9;rw[j2.o] at a9;replace l:=q_ l;replace y:=q_ y;clear hT)
        go_cut [10] (λ v W=>∃ tx j' Q,v=.string tx/\LM w P bl s bz pl j' Q ts env w.heap.size (w.heap.size+1) (w.heap.size+2) 0 (.slice F ks.length A) (.slice B n C) ks n xs W/\Dts W (w.heap.size+2) (.slice F ks.length A) (.slice B n C) (N.map Prod.snd) n xs/\tx.size<=4000/\Out2 R_ R s H true N i j tx j' Q)
        case first=>
         go_wp2_with fail
         go_meet
         case rel=>exact⟨tx,J,f1,rfl,l.o,y.o,hx,(zl5 b6 o1.o hK.o).1 (by rw[e8.o];rfl)⟩
        case rest=>
         clear a9 l y;obtain⟨tx,J,a4,rfl,l,y,hx,K⟩:=hcut;have d1:=l.M.jl;have f6:=l.bB;replace l:=q_ l;replace y:=q_ y;replace K:=q_ K
         go_wp2_with (first
          |(go_at_call 59;refine(xo_ 58 l.o.M.L V d1 rfl (by decide)).mono ?_;rintro e w3 ⟨rfl,S⟩;obtain⟨X,b4,u,F3,hJ⟩:=LEat.lm (by decide) l.o S;have G:=l.o.dts y.o F3;have f7:=u.bB;have f3:=u.r1.cell 3;simp only[zb_,aa_,ab_] at f3;replace u:=q_ u;replace G:=q_ G;clear S)
          |(at_builtin;go_must (refine wpList_append_own_at _ rfl _ _ 34 rfl (w.heap.size+2) 9 si _ 1 16 zm1 g8 g9 h5 h6 rfl (by decide) (.slice F ks.length A) ks.length (ks.map Value.string) rfl ?hown _ 1 1 [.string tx] rfl rfl (z7_ _ #[.string tx] _ _ ?nn) ?one ?b1 ?b2 ?b3 ?_)
            case hown=>exact World.ownsRow.alloc u.o.kr _
            case nn=>simp
            case one=>simp[Value.oneCell']
            case b1=>unfold maxLen;omega
            case b2=>omega
            case b3=>simp;omega
            intro v5 w5 U T d6 a3
            have O:=u.o.key T U a3
            obtain⟨e5,f5⟩:=u.o.keyCell T
            obtain⟨g5,e3,rfl⟩:=zh_ U (by omega)
            clear T a3 d6 U
            replace O:=q_ O))
         go_meet
         case rel=>
          obtain⟨Q5,b9⟩:=O.o
          have el:(ks++[tx]).length=ks.length+1:=by simp
          refine⟨X,b4,some ⟨g5,0,none⟩,e3,ks++[tx],?_,?_,by omega,znf Y.o K.o hJ.o⟩
          ·rw[el];exact Q5
          ·rw[el];exact b9 _ G.o
       ·have e8:=q_ ((zbq Y.o).2 q kl (by simpa using Z))
        have hm:ks.length=q.length+1:=by rw[Z];simp
        have k5:q.length<=4000:=by omega
        have i2:=q_ (show(ks.map Value.string)[q.length]?=some (.string kl) by rw[Z];simp);obtain⟨gk,ck,g6⟩:=zh_ z.o.kr (by omega);simp only[Value.slice.injEq,true_and] at g6;obtain⟨rfl,rfl⟩:=g6;replace Z:=q_ Z;replace hm:=q_ hm
        go_upto_if 66 with(go_at_call 62;refine(zar z.o.M.L V b6).mono ?_;intro e w2 hT;obtain⟨tx,J,rfl,l,F2,hx,hK⟩:=hT.lm z.o;have y:=z.o.dts I.o F2;have a9:=l.r1.cell 3;simp only[zb_,aa_,ab_] at a9;rw[hm.o] at a9;have k2:=zp_ l.kr rfl i2.o;replace l:=q_ l;replace y:=q_ y;clear hT)
        go_cut [10] (λ v W=>∃ tx j' Q,v=.string tx/\LM w P bl s bz pl j' Q ts env w.heap.size (w.heap.size+1) (w.heap.size+2) 0 (.slice (some ⟨gk,0,none⟩) ks.length A) (.slice B n C) ks n xs W/\Dts W (w.heap.size+2) (.slice (some ⟨gk,0,none⟩) ks.length A) (.slice B n C) (N.map Prod.snd) n xs/\tx.size<=4000/\Out2 R_ R s H true N i j tx j' Q)
        case first=>
         have j6:=l.o.M.L.c2;have j8:=l.o.M.L.thaw 2;cases hb:Op.bytesLess kl.toList tx.toList
         ·go_wp2_with fail
          go_meet
          case rel=>exact⟨tx,J,true,rfl,l.o.spoil,l.o.dts y.o (Fr.one _ _ _),hx,(zl5 b6 o1.o hK.o).2 (by rw[e8.o];exact hb)⟩
         ·go_wp2_with fail
          go_meet
          case rel=>exact⟨tx,J,f1,rfl,l.o,y.o,hx,(zl5 b6 o1.o hK.o).1 (by rw[e8.o];exact hb)⟩
        case rest=>
         clear a9 l y;obtain⟨tx,J,a4,rfl,l,y,hx,K⟩:=hcut;have d1:=l.M.jl;have f6:=l.bB;replace l:=q_ l;replace y:=q_ y;replace K:=q_ K
         go_wp2_with (first
          |(go_at_call 59;refine(xo_ 58 l.o.M.L V d1 rfl (by decide)).mono ?_;rintro e w3 ⟨rfl,S⟩;obtain⟨X,b4,u,F3,hJ⟩:=LEat.lm (by decide) l.o S;have G:=l.o.dts y.o F3;have f7:=u.bB;have f3:=u.r1.cell 3;simp only[zb_,aa_,ab_] at f3;replace u:=q_ u;replace G:=q_ G;clear S)
          |(at_builtin;go_must (refine wpList_append_own_at _ rfl _ _ 34 rfl (w.heap.size+2) 9 si _ 1 16 zm1 g8 g9 h5 h6 rfl (by decide) (.slice (some ⟨gk,0,none⟩) ks.length A) ks.length (ks.map Value.string) rfl ?hown _ 1 1 [.string tx] rfl rfl (z7_ _ #[.string tx] _ _ ?nn) ?one ?b1 ?b2 ?b3 ?_)
            case hown=>exact World.ownsRow.alloc u.o.kr _
            case nn=>simp
            case one=>simp[Value.oneCell']
            case b1=>unfold maxLen;omega
            case b2=>omega
            case b3=>simp;omega
            intro v5 w5 U T d6 a3
            have O:=u.o.key T U a3
            obtain⟨e5,f5⟩:=u.o.keyCell T
            obtain⟨g5,e3,rfl⟩:=zh_ U (by omega)
            clear T a3 d6 U
            replace O:=q_ O))
         go_meet
         case rel=>
          obtain⟨Q5,b9⟩:=O.o
          have el:(ks++[tx]).length=ks.length+1:=by simp
          refine⟨X,b4,some ⟨g5,0,none⟩,e3,ks++[tx],?_,?_,by omega,znf Y.o K.o hJ.o⟩
          ·rw[el];exact Q5
          ·rw[el];exact b9 _ G.o
     case rest=>
      clear z I;obtain⟨J,a4,k6,k7,h9,l,y,k3,K⟩:=hcut;have d1:=l.M.jl;obtain⟨ti,i5,i6,i7,i8⟩:=info_parts zif;obtain⟨r2,a8⟩:∃ r,r=if a4=true then none else R J:=⟨_,rfl⟩
      have hC:=q_ (show Calls prog 34 #[.pointer (some ⟨bl,0,none⟩),.int .i64 (k:Int)] wc (z6_ wc bl s bz pl r2) by
       cases a4 with
       | true=>rw[a8,if_pos rfl];exact zpl t wc P bl bz k J l.M.here hk.o
       | false=>
        rw[a8,if_neg (by decide),d0.o]
        refine hR.o J ?_ d1 wc P bl bz k l.M.here hk.o
        rcases K with⟨_,_,h,_⟩|⟨h,_⟩
        ·omega
        ·cases h)
      have f6:=l.bB;replace l:=q_ l;replace y:=q_ y;replace K:=q_ K;replace a8:=q_ a8
      go_wp2_with (first
       |(go_at_call 34;refine hC.o.mono ?_;intro e w3 hP;obtain⟨dk,dm,e4,a1,m1,c1,a2,m2,c2,X,b4,rfl,u,F3,hJ⟩:=z6_.lm l.o hP;have G:=l.o.dts y.o F3;have Q4:=u.alloc (.cells (zb_ dk dm e4 (.slice a1 m1 c1) (.slice a2 m2 c2)).toArray 37);have D4:=G.alloc (.cells (zb_ dk dm e4 (.slice a1 m1 c1) (.slice a2 m2 c2)).toArray 37);have t4:=Q4.r1.cell 4;simp only[zb_,aa_,ab_] at t4;have f7:=u.bB;replace u:=q_ u;replace G:=q_ G;replace Q4:=q_ Q4;replace D4:=q_ D4;clear hP)
       |(at_builtin;go_must (refine wpList_append_own_at _ rfl _ _ 35 rfl (w.heap.size+2) 37 ti _ 5 80 zhm i5 i6 i7 i8 rfl (by decide) (.slice B n C) n xs rfl ?hown _ 1 1 (zb_ dk dm e4 (.slice a1 m1 c1) (.slice a2 m2 c2)) rfl rfl (z7_ _ (zb_ dk dm e4 (.slice a1 m1 c1) (.slice a2 m2 c2)).toArray _ _ ?nn) ?one ?b1 ?b2 ?b3 ?_)
         case hown=>exact World.ownsRow.alloc Q4.o.vr _
         case nn=>simp
         case one=>simp[zb_,Value.oneCell']
         case b1=>unfold maxLen;omega
         case b2=>omega
         case b3=>simp;omega
         intro v5 w5 U T d6 a3
         have O:=Q4.o.item T U a3
         obtain⟨e5,f5⟩:=Q4.o.itemCell T
         obtain⟨g5,e3,rfl⟩:=zh_ U (by omega)
         clear T a3 d6 U
         replace O:=q_ O))
      obtain⟨Q5,b9⟩:=O.o
      rcases hJ.o with⟨d,hr,rfl,i3⟩|⟨hr,rfl⟩
      ·have i1:a4=false:=by
        cases hb:a4 with
        | false=>rfl
        | true=>rw[a8.o,hb] at hr;cases hr
       subst i1
       have e9:R J=some (d,X):=by rw[<- hr,a8.o];rfl
       have k0:=zam s env pl f t J d X (by rw[<- d0.o];exact e9)
       rcases K.o with⟨_,h1,h2,nn,key,j0,h3,h4⟩|⟨hb,_⟩
       ·have D5:=b9 _ d D4.o (i3.fr ((Fr.refl w3 (λ _=>False)).alloc _) u_)
        go_roundg (s.size+2-X)
        case measure=>omega
        case rel=>
         refine⟨_,_,h9,n+1,_,.inl ⟨N++[(key,d)],X,Q5,by rw[be_];exact D5,j0 d,l_,.inr ⟨by simp,by rw[ah_,am_];omega,nn,by omega,?_⟩⟩⟩;rw[h4,zpa,e9]
       ·cases hb
      ·go_roundg 0
       case measure=>omega
       case rel=>
        refine⟨_,_,h9,n+1,_,.inr ⟨X,Q5,?_⟩⟩
        rcases K.o with⟨hb,_,_,nn,key,_,_,h4⟩|⟨_,h⟩
        ·have e9:R J=none:=by rw[<- hr,a8.o,hb];rfl
         rw[h4,zpa,e9]
        ·exact h
  ·obtain⟨j,x,E⟩:=hB;obtain⟨F,A,rfl⟩:=zo_ x.kr;obtain⟨B,C,rfl⟩:=zo_ x.vr;have c2:=x.M.L.c2;have r0:=x.r0.cell 0;have r1:=x.r0.cell 1;have r2:=x.r0.cell 2;have r3:=x.r0.cell 3;have r4:=x.r0.cell 4;obtain⟨g0,g1,g2,g3,g4⟩:=x.r0.t5;have t0:=x.r1.cell 0;have t1:=x.r1.cell 1;have t2:=x.r1.cell 2;have t3:=x.r1.cell 3;have t4:=x.r1.cell 4;simp only[zg_,zb_,aa_,ab_,af_] at r0 r1 r2 r3 r4 t0 t1 t2 t3 t4;have D0:=q_ x.r0;replace x:=q_ x;replace E:=q_ E
   go_wp2_with fail
   have L5:=Blk.five D0.o (.int .u8 0) (.int .i64 0) (.string noB) (.slice F ks.length A) (.slice B n C);obtain⟨q0,q1,q2,q3,q4⟩:=L5.d5;have hF:=Fr.five wr (w.heap.size) (.int .u8 0) (.int .i64 0) (.string noB) (.slice F ks.length A) (.slice B n C);generalize (((((World.setCell wr ⟨w.heap.size,0,none⟩ (.int .u8 0)).setCell ⟨w.heap.size,1,none⟩ (.int .i64 0)).setCell ⟨w.heap.size,2,none⟩ (.string noB)).setCell ⟨w.heap.size,3,none⟩ (.slice F ks.length A)).setCell ⟨w.heap.size,4,none⟩ (.slice B n C))=W5 at *;refine bodyPost_ret (v:=.agg (zb_ 0 0 noB (.slice F ks.length A) (.slice B n C)).toArray) (by simp[results,results63,go_sem,q0,q1,q2,q3,q4,zb_]) rfl ?_;rw[Q_.o];exact v4_ x.o.M ⟨_,_,_,rfl⟩ ⟨_,_,_,rfl⟩ hF (by rw[E.o];rfl)
open Go.RowKit
theorem zue {w:World}{P:Nat->Prop}{bl:Nat}{s:BA}{bz:Nat}{pl:Bool}{ts:List TR}{env:Nat->Option PB}{k h:Nat}(M:DM w P bl s bz pl i true ts env w) :
 Calls prog 63 #[.pointer (some ⟨bl,0,none⟩),.int .i64 (k:Int),.int .u8 (h:Int),.bool keyed] w (z6_ w bl s bz pl none):=by
 refine hq_ λ E g=>?_;have b:=q_ (zni M);clear M
 go_in
 go_wp2_with fail
 go_loopg [] 0 (λ _ W=>LM w P bl s bz pl i true ts env w.heap.size (w.heap.size+1) (w.heap.size+2) 0 (.slice none 0 0) (.slice none 0 0) [] 0 [] W)
 case atStart=>exact b.o
 case round=>
  clear b;have a:=hrel;have c2:=a.M.L.c2;have r0:=a.r0.cell 0;have r1:=a.r0.cell 1;have y:=a.r0.cell 2;have z:=a.r0.cell 3;have A:=a.r0.cell 4;obtain⟨F,G,H,I,J⟩:=a.r0.t5;have B:=a.r1.cell 0;have C:=a.r1.cell 1;have D:=a.r1.cell 2;have t3:=a.r1.cell 3;have t4:=a.r1.cell 4;simp only[zg_,zb_,aa_,ab_,af_] at r0 r1 y z A B C D t3 t4;have c:=q_ a.r0;replace a:=q_ a;clear hrel
  go_wp2_with fail
  have e:=Blk.five c.o (.int .u8 0) (.int .i64 0) (.string noB) (.slice none 0 0) (.slice none 0 0);obtain⟨m,q,u,q3,x⟩:=e.d5;have l:=Fr.five wr (w.heap.size) (.int .u8 0) (.int .i64 0) (.string noB) (.slice none 0 0) (.slice none 0 0);generalize (((((World.setCell wr ⟨w.heap.size,0,none⟩ (.int .u8 0)).setCell ⟨w.heap.size,1,none⟩ (.int .i64 0)).setCell ⟨w.heap.size,2,none⟩ (.string noB)).setCell ⟨w.heap.size,3,none⟩ (.slice none 0 0)).setCell ⟨w.heap.size,4,none⟩ (.slice none 0 0))=W5 at *;refine bodyPost_ret (v:=.agg (zb_ 0 0 noB (.slice none 0 0) (.slice none 0 0)).toArray) (by simp[results,results63,go_sem,m,q,u,q3,x,zb_]) rfl ?_;rw[g.o];exact v4_ a.o.M ⟨_,_,_,rfl⟩ ⟨_,_,_,rfl⟩ l rfl
theorem znj {w:World}{P:Nat->Prop}{bl:Nat}{s:BA}{bz:Nat}{pl:Bool}{ts:List TR}{env:Nat->Option PB}{k:Nat}{e:Int}(a:Nat)(M:DM w P bl s bz pl i bad ts env w) (hk:isT ts k t) (he:e=(a:Int)) (c:a=93\/a=125) (b:bad=false->∀ j,i<=j->j<=s.size->j9_ s env pl ts f t j) :
 Calls prog 63 #[.pointer (some ⟨bl,0,none⟩),.int .i64 (k:Int),.int .u8 e,.bool keyed] w (z6_ w bl s bz pl (if bad=true then none else zuf keyed (zb0 (rdT s env pl f t) s a keyed i))):=by
 subst he
 cases bad with
 | true=>rw[if_pos rfl];exact zue M
 | false=>rw[if_neg (by decide)];exact zwv M hk c (b rfl)
theorem z6_.any {w W W':World}{P:Nat->Prop}{bl:Nat}{s:BA}{bz:Nat}{pl:Bool}{j:Nat}{ts:List TR}{env:Nat->Option PB}{r:Option (DT×Nat)}{e:Ending}(M:DM w P bl s bz pl j bad ts env W) (h:z6_ W bl s bz pl r e W') :
 ∃ (k:Nat) (m:Int) (tx:BA) (a:Option Addr) (c c1:Nat) (b:Option Addr) (l c2:Nat) (j':Nat) (u:Bool),e=.returned (.agg #[.int .u8 (k:Int),.int .i64 m,.string tx,.slice a c c1,.slice b l c2])/\DM w P bl s bz pl j' u ts env W'/\Fr W W' (· = bl)/\
  H_ ((∃ d,r=some (d,j')/\u=false/\DVal W' (λ g=>W.heap.size<=g) d (zb_ k m tx (.slice a c c1) (.slice b l c2)))\/(r=none/\u=true)):=by
 obtain⟨k,m,tx,z,A,he,⟨a,c,c1,rfl⟩,⟨b,l,c2,rfl⟩,o,x⟩:=h
 cases r with
 | none=>
  obtain⟨j',h1,v⟩:=x;exact⟨k,m,tx,a,c,c1,b,l,c2,j',true,he,M.call v o h1,o,.inr ⟨rfl,rfl⟩⟩
 | some q=>
  obtain⟨d,j'⟩:=q;obtain⟨h1,v,y⟩:=x;exact⟨k,m,tx,a,c,c1,b,l,c2,j',false,he,M.call v o h1,o,.inl ⟨d,rfl,rfl,y⟩⟩
def DT.withKind (c:Nat):DT->DT
 | .mk _ n tx ks ds=>.mk c n tx ks ds
theorem DVal.recast {w:World}{P:Nat->Prop}{d:DT}{k:Nat}{m:Int}{tx:BA}{vk vs:Value}(h:DVal w P d (zb_ k m tx vk vs)) (c:Nat):DVal w P (d.withKind c) (zb_ c m tx vk vs):=by
 generalize a:zb_ k m tx vk vs=v at h
 cases h with
 | mk X hk hkP hs hsP hd=>
  simp only[zb_,List.cons.injEq,and_true,Value.int.injEq,Value.string.injEq,true_and] at a;obtain⟨_,rfl,rfl,rfl,rfl⟩:=a;exact .mk X hk hkP hs hsP hd
theorem zal {R:Nat->Option (DT×Nat)}{s:BA}{c:Nat}(h:bt s i=c):vy_ R s c i=(zuf (c==123) (zb0 R s (xq_ c) (c==123) (i+1))).map (λ q=>(q.1.withKind c,q.2)):=by
 unfold vy_;rw[if_pos h]
 cases zb0 R s (xq_ c) (c==123) (i+1) with
 | none=>rfl
 | some q=>rfl
theorem zpk {s:BA}{env:Nat->Option PB}{pl:Bool}{ts:List TR}(T:∀ j,i<j->j<=s.size->j9_ s env pl ts f t j):j9_ s env pl ts (f+1) (.wrap 91 p t) i:=by
 intro w P bl bz k M hk;obtain⟨kj,hk,U⟩:=hk;obtain⟨g,m,b7,sv,z0,b9,z1,z2,ho,V⟩:=M.Z.type hk;simp only[af_] at z1;refine hq_ λ b4 Q_=>?_;have d1:=M.lt;have d6:=zk_ z0;have d7:=zk_ z1;have c3:=M.L.c3;have c2:=M.L.c2;have a5:=M.jl;have a8:=M.sl;obtain⟨h0,E,rfl⟩:=zh_ ho (by simp);have a2:=zp_ ho rfl (k:=0) (x:=.int .i64 (kj:Int)) rfl;have d8:=zk_ a2;have a0:P h0:=V h0 rfl;have b8:=M.Plt h0 a0;have a6:h0≠bl:=λ e=>M.nP (e▸a0);have M0:=q_ (dw_M M 91 (.slice (some ⟨h0,0,none⟩) 1 E));have B0:=q_ (dw_0 w 91 (.slice (some ⟨h0,0,none⟩) 1 E));have B1:=q_ (dw_1 w 91 (.slice (some ⟨h0,0,none⟩) 1 E));have B2:=q_ (dw_2 w 91 (.slice (some ⟨h0,0,none⟩) 1 E));have a9:=q_ (show(dw w 91 (.slice (some ⟨h0,0,none⟩) 1 E)).cell? ⟨h0,0,none⟩=some (.int .i64 (kj:Int)) from zl_ a2 _ _ _);have a1:=q_ (show(dw w 91 (.slice (some ⟨h0,0,none⟩) 1 E)).heap.size=w.heap.size+3 by simp[dw]);have d2:=λ X Y Z=>zl_ c2 X Y Z
 have d0:(k:Int)<(m:Int):=by omega
 replace M:=q_ M;replace ho:=q_ ho;replace V:=q_ V;replace hk:=q_ hk;replace U:=q_ U;replace T:=q_ T
 go_in
 go_wp2_with (first
  |(go_at_call 59;refine(xo_ 91 M0.o.L a8 a5 rfl (by decide)).mono ?_;rintro e w1 ⟨rfl,hE⟩;obtain⟨j1,b5,I,A,S⟩:=LEat.any (by decide) M0.o hE;have J:=A.blk B0.o (by omega);have K:=A.blk B1.o (by omega);have N:=A.blk B2.o (by omega);have u1:=K.cell 1;have x1:=(World.cell?_of_block (a:=⟨h0,0,none⟩) (A.block h0 (by rw[a1.o];omega) a6)).trans a9.o;simp only[aa_,ab_] at u1;have a7:=A.size;rw[a1.o] at a7;replace I:=q_ I;replace A:=q_ A;replace J:=q_ J;replace K:=q_ K;replace N:=q_ N;clear hE)
  |(go_at_call 63;refine(znj (f:=f) 93 I.o.here U.o rfl (by decide) (λ hb j h1 h2=>T.o j (by rcases S.o with⟨_,_,h,_⟩|⟨_,_,h⟩;omega;rw[h] at hb;cases hb) h2)).mono ?_;intro e F hP;obtain⟨C,l,q,b,u,c1,c,y,c2,j2,b6,rfl,R,H,a3⟩:=z6_.any I.o hP;have O:=H.blk J.o (by omega);have E2:=H.blk N.o (by omega);have y0:=E2.cell 0;have z5:=E2.thaw 0;have y1:=E2.cell 1;have z6:=E2.thaw 1;have y2:=E2.cell 2;have z7:=E2.thaw 2;have y3:=E2.cell 3;have z8:=E2.thaw 3;have y4:=E2.cell 4;have z9:=E2.thaw 4;simp only[zb_,aa_,ab_,af_] at y0 y1 y2 y3 y4;have G:=Blk.five E2 (.int .u8 (C:Int)) (.int .i64 l) (.string q) (.slice b u c1) (.slice c y c2);have Q:=(Fr.five F (w.heap.size+2) (.int .u8 (C:Int)) (.int .i64 l) (.string q) (.slice b u c1) (.slice c y c2)).blk O (by omega);have y5:=G.cell 0;have y6:=G.thaw 0;have B:=Blk.set G 0 (.int .u8 91);have z:=Blk.other Q (a:=⟨w.heap.size+2,0,none⟩) (.int .u8 91) (by simp);have r0:=z.cell 0;have r1:=z.cell 1;have r2:=z.cell 2;have r3:=z.cell 3;have r4:=z.cell 4;have t0:=B.cell 0;have t1:=B.cell 1;have t2:=B.cell 2;have t3:=B.cell 3;have t4:=B.cell 4;obtain⟨g0,g1,g2,g3,g4⟩:=z.t5;simp only[zg_,zb_,aa_,ab_,aj_,af_] at r0 r1 r2 r3 r4 t0 t1 t2 t3 t4 y5;replace R:=q_ R;replace H:=q_ H;replace O:=q_ O;replace E2:=q_ E2;replace Q:=q_ Q;replace G:=q_ G;replace z:=q_ z;replace B:=q_ B;clear hP))
 have L5:=Blk.five z.o (.int .u8 91) (.int .i64 l) (.string q) (.slice b u c1) (.slice c y c2);obtain⟨q0,q1,q2,q3,q4⟩:=L5.d5;have hF:=Fr.five (World.setCell (World.setCell (World.setCell (World.setCell (World.setCell (World.setCell F ⟨w.heap.size+1+1,0,none⟩ (.int .u8 (C:Int))) ⟨w.heap.size+1+1,1,none⟩ (.int .i64 l)) ⟨w.heap.size+1+1,2,none⟩ (.string q)) ⟨w.heap.size+1+1,3,none⟩ (.slice b u c1)) ⟨w.heap.size+1+1,4,none⟩ (.slice c y c2)) ⟨w.heap.size+1+1,0,none⟩ (.int .u8 91)) (w.heap.size) (.int .u8 91) (.int .i64 l) (.string q) (.slice b u c1) (.slice c y c2);generalize (((((World.setCell (World.setCell (World.setCell (World.setCell (World.setCell (World.setCell (World.setCell F ⟨w.heap.size+1+1,0,none⟩ (.int .u8 (C:Int))) ⟨w.heap.size+1+1,1,none⟩ (.int .i64 l)) ⟨w.heap.size+1+1,2,none⟩ (.string q)) ⟨w.heap.size+1+1,3,none⟩ (.slice b u c1)) ⟨w.heap.size+1+1,4,none⟩ (.slice c y c2)) ⟨w.heap.size+1+1,0,none⟩ (.int .u8 91)) ⟨w.heap.size,0,none⟩ (.int .u8 91)).setCell ⟨w.heap.size,1,none⟩ (.int .i64 l)).setCell ⟨w.heap.size,2,none⟩ (.string q)).setCell ⟨w.heap.size,3,none⟩ (.slice b u c1)).setCell ⟨w.heap.size,4,none⟩ (.slice c y c2))=W5 at *;refine bodyPost_ret (v:=.agg (zb_ 91 l q (.slice b u c1) (.slice c y c2)).toArray) (by simp[results,results34,go_sem,q0,q1,q2,q3,q4,zb_]) rfl ?_;rw[Q_.o];have F6:Fr F (World.setCell (World.setCell (World.setCell (World.setCell (World.setCell (World.setCell F ⟨w.heap.size+1+1,0,none⟩ (.int .u8 (C:Int))) ⟨w.heap.size+1+1,1,none⟩ (.int .i64 l)) ⟨w.heap.size+1+1,2,none⟩ (.string q)) ⟨w.heap.size+1+1,3,none⟩ (.slice b u c1)) ⟨w.heap.size+1+1,4,none⟩ (.slice c y c2)) ⟨w.heap.size+1+1,0,none⟩ (.int .u8 91)) (λ g=>g=w.heap.size+2):=(Fr.five F (w.heap.size+2) (.int .u8 (C:Int)) (.int .i64 l) (.string q) (.slice b u c1) (.slice c y c2)).setCell ⟨w.heap.size+2,0,none⟩ (.int .u8 91) (λ _=>rfl);have M6:=R.o.own (F6.mono (λ _ _ e=>by omega))
 rcases a3.o with⟨d,D,rfl,a4⟩|⟨D,rfl⟩
 ·rcases S.o with⟨_,hb,rfl,rfl⟩|⟨_,_,rfl⟩
  ·refine x9_ M6 (((a4.fr F6 (λ g hg e=>by omega)).mono (λ g _ hg=>by omega)).recast 91) hF ?_;simp only[rdT];rw[zal hb];rw[if_neg (by decide)] at D;exact congrArg (Option.map _) D
  ·cases D
 ·refine v4_ M6 ⟨_,_,_,rfl⟩ ⟨_,_,_,rfl⟩ hF ?_;simp only[rdT]
  rcases S.o with⟨_,hb,rfl,rfl⟩|⟨hb,_,rfl⟩
  ·rw[zal hb];rw[if_neg (by decide)] at D;exact congrArg (Option.map _) D
  ·unfold vy_;rw[if_neg (by simpa using hb)]
theorem zmk {s:BA}{env:Nat->Option PB}{pl:Bool}{ts:List TR}(T:∀ j,i<j->j<=s.size->j9_ s env pl ts f t j):j9_ s env pl ts (f+1) (.wrap 123 p t) i:=by
 intro w P bl bz k M hk;obtain⟨kj,hk,U⟩:=hk;obtain⟨g,m,b7,sv,z0,b9,z1,z2,ho,V⟩:=M.Z.type hk;simp only[af_] at z1;refine hq_ λ b4 Q_=>?_;have d1:=M.lt;have d6:=zk_ z0;have d7:=zk_ z1;have c3:=M.L.c3;have c2:=M.L.c2;have a5:=M.jl;have a8:=M.sl;obtain⟨h0,E,rfl⟩:=zh_ ho (by simp);have a2:=zp_ ho rfl (k:=0) (x:=.int .i64 (kj:Int)) rfl;have d8:=zk_ a2;have a0:P h0:=V h0 rfl;have b8:=M.Plt h0 a0;have a6:h0≠bl:=λ e=>M.nP (e▸a0);have M0:=q_ (dw_M M 123 (.slice (some ⟨h0,0,none⟩) 1 E));have B0:=q_ (dw_0 w 123 (.slice (some ⟨h0,0,none⟩) 1 E));have B1:=q_ (dw_1 w 123 (.slice (some ⟨h0,0,none⟩) 1 E));have B2:=q_ (dw_2 w 123 (.slice (some ⟨h0,0,none⟩) 1 E));have a9:=q_ (show(dw w 123 (.slice (some ⟨h0,0,none⟩) 1 E)).cell? ⟨h0,0,none⟩=some (.int .i64 (kj:Int)) from zl_ a2 _ _ _);have a1:=q_ (show(dw w 123 (.slice (some ⟨h0,0,none⟩) 1 E)).heap.size=w.heap.size+3 by simp[dw]);have d2:=λ X Y Z=>zl_ c2 X Y Z
 have d0:(k:Int)<(m:Int):=by omega
 replace M:=q_ M;replace ho:=q_ ho;replace V:=q_ V;replace hk:=q_ hk;replace U:=q_ U;replace T:=q_ T
 go_in
 go_wp2_with (first
  |(go_at_call 59;refine(xo_ 123 M0.o.L a8 a5 rfl (by decide)).mono ?_;rintro e w1 ⟨rfl,hE⟩;obtain⟨j1,b5,I,A,S⟩:=LEat.any (by decide) M0.o hE;have J:=A.blk B0.o (by omega);have K:=A.blk B1.o (by omega);have N:=A.blk B2.o (by omega);have u1:=K.cell 1;have x1:=(World.cell?_of_block (a:=⟨h0,0,none⟩) (A.block h0 (by rw[a1.o];omega) a6)).trans a9.o;simp only[aa_,ab_] at u1;have a7:=A.size;rw[a1.o] at a7;replace I:=q_ I;replace A:=q_ A;replace J:=q_ J;replace K:=q_ K;replace N:=q_ N;clear hE)
  |(go_at_call 63;refine(znj (f:=f) 125 I.o.here U.o rfl (by decide) (λ hb j h1 h2=>T.o j (by rcases S.o with⟨_,_,h,_⟩|⟨_,_,h⟩;omega;rw[h] at hb;cases hb) h2)).mono ?_;intro e F hP;obtain⟨C,l,q,b,u,c1,c,y,c2,j2,b6,rfl,R,H,a3⟩:=z6_.any I.o hP;have O:=H.blk J.o (by omega);have E2:=H.blk N.o (by omega);have y0:=E2.cell 0;have z5:=E2.thaw 0;have y1:=E2.cell 1;have z6:=E2.thaw 1;have y2:=E2.cell 2;have z7:=E2.thaw 2;have y3:=E2.cell 3;have z8:=E2.thaw 3;have y4:=E2.cell 4;have z9:=E2.thaw 4;simp only[zb_,aa_,ab_,af_] at y0 y1 y2 y3 y4;have G:=Blk.five E2 (.int .u8 (C:Int)) (.int .i64 l) (.string q) (.slice b u c1) (.slice c y c2);have Q:=(Fr.five F (w.heap.size+2) (.int .u8 (C:Int)) (.int .i64 l) (.string q) (.slice b u c1) (.slice c y c2)).blk O (by omega);have y5:=G.cell 0;have y6:=G.thaw 0;have B:=Blk.set G 0 (.int .u8 123);have z:=Blk.other Q (a:=⟨w.heap.size+2,0,none⟩) (.int .u8 123) (by simp);have r0:=z.cell 0;have r1:=z.cell 1;have r2:=z.cell 2;have r3:=z.cell 3;have r4:=z.cell 4;have t0:=B.cell 0;have t1:=B.cell 1;have t2:=B.cell 2;have t3:=B.cell 3;have t4:=B.cell 4;obtain⟨g0,g1,g2,g3,g4⟩:=z.t5;simp only[zg_,zb_,aa_,ab_,aj_,af_] at r0 r1 r2 r3 r4 t0 t1 t2 t3 t4 y5;replace R:=q_ R;replace H:=q_ H;replace O:=q_ O;replace E2:=q_ E2;replace Q:=q_ Q;replace G:=q_ G;replace z:=q_ z;replace B:=q_ B;clear hP))
 have L5:=Blk.five z.o (.int .u8 123) (.int .i64 l) (.string q) (.slice b u c1) (.slice c y c2);obtain⟨q0,q1,q2,q3,q4⟩:=L5.d5;have hF:=Fr.five (World.setCell (World.setCell (World.setCell (World.setCell (World.setCell (World.setCell F ⟨w.heap.size+1+1,0,none⟩ (.int .u8 (C:Int))) ⟨w.heap.size+1+1,1,none⟩ (.int .i64 l)) ⟨w.heap.size+1+1,2,none⟩ (.string q)) ⟨w.heap.size+1+1,3,none⟩ (.slice b u c1)) ⟨w.heap.size+1+1,4,none⟩ (.slice c y c2)) ⟨w.heap.size+1+1,0,none⟩ (.int .u8 123)) (w.heap.size) (.int .u8 123) (.int .i64 l) (.string q) (.slice b u c1) (.slice c y c2);generalize (((((World.setCell (World.setCell (World.setCell (World.setCell (World.setCell (World.setCell (World.setCell F ⟨w.heap.size+1+1,0,none⟩ (.int .u8 (C:Int))) ⟨w.heap.size+1+1,1,none⟩ (.int .i64 l)) ⟨w.heap.size+1+1,2,none⟩ (.string q)) ⟨w.heap.size+1+1,3,none⟩ (.slice b u c1)) ⟨w.heap.size+1+1,4,none⟩ (.slice c y c2)) ⟨w.heap.size+1+1,0,none⟩ (.int .u8 123)) ⟨w.heap.size,0,none⟩ (.int .u8 123)).setCell ⟨w.heap.size,1,none⟩ (.int .i64 l)).setCell ⟨w.heap.size,2,none⟩ (.string q)).setCell ⟨w.heap.size,3,none⟩ (.slice b u c1)).setCell ⟨w.heap.size,4,none⟩ (.slice c y c2))=W5 at *;refine bodyPost_ret (v:=.agg (zb_ 123 l q (.slice b u c1) (.slice c y c2)).toArray) (by simp[results,results34,go_sem,q0,q1,q2,q3,q4,zb_]) rfl ?_;rw[Q_.o];have F6:Fr F (World.setCell (World.setCell (World.setCell (World.setCell (World.setCell (World.setCell F ⟨w.heap.size+1+1,0,none⟩ (.int .u8 (C:Int))) ⟨w.heap.size+1+1,1,none⟩ (.int .i64 l)) ⟨w.heap.size+1+1,2,none⟩ (.string q)) ⟨w.heap.size+1+1,3,none⟩ (.slice b u c1)) ⟨w.heap.size+1+1,4,none⟩ (.slice c y c2)) ⟨w.heap.size+1+1,0,none⟩ (.int .u8 123)) (λ g=>g=w.heap.size+2):=(Fr.five F (w.heap.size+2) (.int .u8 (C:Int)) (.int .i64 l) (.string q) (.slice b u c1) (.slice c y c2)).setCell ⟨w.heap.size+2,0,none⟩ (.int .u8 123) (λ _=>rfl);have M6:=R.o.own (F6.mono (λ _ _ e=>by omega))
 rcases a3.o with⟨d,D,rfl,a4⟩|⟨D,rfl⟩
 ·rcases S.o with⟨_,hb,rfl,rfl⟩|⟨_,_,rfl⟩
  ·refine x9_ M6 (((a4.fr F6 (λ g hg e=>by omega)).mono (λ g _ hg=>by omega)).recast 123) hF ?_;simp only[rdT];rw[zal hb];rw[if_neg (by decide)] at D;exact congrArg (Option.map _) D
  ·cases D
 ·refine v4_ M6 ⟨_,_,_,rfl⟩ ⟨_,_,_,rfl⟩ hF ?_;simp only[rdT]
  rcases S.o with⟨_,hb,rfl,rfl⟩|⟨hb,_,rfl⟩
  ·rw[zal hb];rw[if_neg (by decide)] at D;exact congrArg (Option.map _) D
  ·unfold vy_;rw[if_neg (by simpa using hb)]
open Go.RowKit
section
variable {w W W':World} {P:Nat->Prop} {bl:Nat} {s:BA} {bz:Nat} {pl:Bool} {j:Nat} {ts:List TR} {env:Nat->Option PB} {k:Nat} {n:Int} {tx:BA} {vk vs:Value} {d:DT} {r:Option (DT×Nat)}
theorem zc6 (b0:Nat) (hb:w.heap.size<=b0) (M:DM w P bl s bz pl j false ts env W) (a:DVal W (λ g=>w.heap.size<=g/\g≠b0) d (zb_ k n tx vk vs)) (h:Fr W W' (λ g=>g=b0)) (m:r=some (d,j)) :
 z6_ w bl s bz pl r (.returned (.agg (zb_ k n tx vk vs).toArray)) W':=by
 have c:=M.own (h.mono (λ _ _ e=>by omega));have l:=(a.fr h (λ g hg=>hg.2)).mono (Q:=λ g=>w.heap.size<=g) (λ g _ hg=>hg.1);refine⟨k,n,tx,vk,vs,rfl,?_,?_,c.fr,?_⟩
 ·generalize b:zb_ k n tx vk vs=v at a
  cases a with
  | mk X hk hkP hs hsP hd=>
   simp only[zb_,List.cons.injEq,and_true] at b;obtain⟨_,_,_,rfl,rfl⟩:=b;exact zn_ hk
 ·generalize b:zb_ k n tx vk vs=v at a
  cases a with
  | mk X hk hkP hs hsP hd=>
   simp only[zb_,List.cons.injEq,and_true] at b;obtain⟨_,_,_,rfl,rfl⟩:=b;exact zn_ hs
 ·subst m;exact⟨M.jl,c.L,l⟩
theorem zc7 (b0:Nat) (hb:w.heap.size<=b0) (M:DM w P bl s bz pl j true ts env W) (h1:∃ a m c,vk=.slice a m c) (h:∃ a m c,vs=.slice a m c) (l:Fr W W' (λ g=>g=b0)) (o:r=none) :
 z6_ w bl s bz pl r (.returned (.agg (zb_ k n tx vk vs).toArray)) W':=by
 have b:=M.own (l.mono (λ _ _ e=>by omega));refine⟨k,n,tx,vk,vs,rfl,h1,h,b.fr,?_⟩;subst o;exact⟨j,M.jl,b.L⟩
end
theorem DVal.one {w:World}{P:Nat->Prop}{d:DT}{v:List Value}(h:DVal w P d v) (g:Nat) (hg:P g) (ho:w.ownsRow 0 37 5 (.slice (some ⟨g,0,none⟩) 1 1) 1 v) (k:Nat) (n:Int) (tx:BA) :
 DVal w P (.mk k n tx [] [d]) (zb_ k n tx (.slice none 0 0) (.slice (some ⟨g,0,none⟩) 1 1)):=by
 refine .mk (λ _=>v) (World.ownsRow_nil _ _ _ _) (λ g e=>by simp[Value.ownBlock] at e) ?_ (λ g' e=>?_) (λ i e he=>?_)
 ·simpa[bh_] using ho
 ·simp only[Value.ownBlock,ag_] at e;subst e;exact hg
 ·cases i with
  | zero=>simp only[aa_,ag_] at he;subst he;exact h
  | succ i=>simp at he
def bw (w:World) (sv:Value):World:=
 ((w.alloc (.cells #[.int .u8 40,sv] 77)).alloc (.cells zg_.toArray 37)).alloc (.cells (zb_ 40 0 noB (.slice none 0 0) (.slice none 0 0)).toArray 37)
theorem bw_0 (w:World) (sv:Value):Blk (bw w sv) w.heap.size [.int .u8 40,sv] 77:=((Blk.new w _ _).alloc _).alloc _
theorem bw_1 (w:World) (sv:Value):Blk (bw w sv) (w.heap.size+1) zg_ 37:=by
 have:=(Blk.new (w.alloc (.cells #[.int .u8 40,sv] 77)) zg_.toArray 37).alloc (.cells (zb_ 40 0 noB (.slice none 0 0) (.slice none 0 0)).toArray 37)
 simpa[bw] using this
theorem bw_2 (w:World) (sv:Value):Blk (bw w sv) (w.heap.size+2) (zb_ 40 0 noB (.slice none 0 0) (.slice none 0 0)) 37:=by
 have:=Blk.new ((w.alloc (.cells #[.int .u8 40,sv] 77)).alloc (.cells zg_.toArray 37)) (zb_ 40 0 noB (.slice none 0 0) (.slice none 0 0)).toArray 37
 simpa[bw] using this
theorem bw_M {w:World}{P:Nat->Prop}{bl:Nat}{s:BA}{bz:Nat}{pl:Bool}{j:Nat}{ts:List TR}{env:Nat->Option PB}(M:DM w P bl s bz pl j bad ts env w) (sv:Value):DM w P bl s bz pl j bad ts env (bw w sv):=((M.alloc _).alloc _).alloc _
def oneR (n:Int):Option (DT×Nat)->Option (DT×Nat)
 | none=>none
 | some (d,j)=>some (.mk 40 n noB [] [d],j)
theorem zkz {w:World}{P:Nat->Prop}{bl:Nat}{s:BA}{bz:Nat}{ts:List TR}{env:Nat->Option PB}{h0 sn sc J:Nat}(M:DM w P bl s bz true i false ts env w) (R:w.cell? ⟨h0,0,none⟩=some (.int .i64 (J:Int))) (b6:0<sn) (H:isT ts J t) (G:j9_ s env true ts f t i) :
 Calls prog 64 #[.pointer (some ⟨bl,0,none⟩),.agg #[.int .u8 40,.slice (some ⟨h0,0,none⟩) sn sc]] w (z6_ w bl s bz true (oneR 0 (rdT s env true f t i))):=by
 refine hq_ λ a6 V=>?_;have a9:=M.lt;have b4:=zk_ R;have b5:=M.sl;have a8:=M.jl;have c4:=M.L.c4;have d4:=λ X Y Z=>zl_ c4 X Y Z;have dx:=λ X Y Z=>zl_ R X Y Z;have N:=q_ (bw_M M (.slice (some ⟨h0,0,none⟩) sn sc));have K:=bw_0 w (.slice (some ⟨h0,0,none⟩) sn sc);have b1:=K.cell 1;simp only[bw,zg_,zb_,noB,aa_,ab_,af_] at b1;have S:=q_ (bw_1 w (.slice (some ⟨h0,0,none⟩) sn sc));have T:=q_ (bw_2 w (.slice (some ⟨h0,0,none⟩) sn sc));have C:=q_ (show(bw w (.slice (some ⟨h0,0,none⟩) sn sc)).heap.size=w.heap.size+3 by simp[bw]);clear K;replace M:=q_ M;replace H:=q_ H;replace G:=q_ G
 go_in
 go_wp2_with (go_at_call 34;refine(G.o _ P bl bz J N.o.here H.o).mono ?_;intro e b hP;obtain⟨l,m,q,c,u,c1,h,x,c2,j2,a7,rfl,E,A,a0⟩:=z6_.any N.o hP;have a5:=A.size;rw[C.o] at a5;have E1:=A.blk S.o (by omega);have E2:=A.blk T.o (by omega);have F:=(E.alloc (.cells #[.int .u8 (l:Int),.int .i64 m,.string q,.slice c u c1,.slice h x c2] 37)).alloc (.cells #[.int .u8 (l:Int),.int .i64 m,.string q,.slice c u c1,.slice h x c2] 37);have D:=(E1.alloc (.cells #[.int .u8 (l:Int),.int .i64 m,.string q,.slice c u c1,.slice h x c2] 37)).alloc (.cells #[.int .u8 (l:Int),.int .i64 m,.string q,.slice c u c1,.slice h x c2] 37);have B:=(E2.alloc (.cells #[.int .u8 (l:Int),.int .i64 m,.string q,.slice c u c1,.slice h x c2] 37)).alloc (.cells #[.int .u8 (l:Int),.int .i64 m,.string q,.slice c u c1,.slice h x c2] 37);have y4:=B.cell 4;have y5:=B.thaw 4;have z:=Blk.set B 4 (.slice (some ⟨b.heap.size+1,0,none⟩) 1 1);have y:=Blk.other D (a:=⟨w.heap.size+1+1,4,none⟩) (.slice (some ⟨b.heap.size+1,0,none⟩) 1 1) (by simp);have r0:=y.cell 0;have r1:=y.cell 1;have r2:=y.cell 2;have r3:=y.cell 3;have r4:=y.cell 4;have t0:=z.cell 0;have t1:=z.cell 1;have t2:=z.cell 2;have t3:=z.cell 3;have t4:=z.cell 4;obtain⟨g0,g1,g2,g3,g4⟩:=y.t5;simp only[zg_,zb_,aa_,ab_,aj_,al_,af_] at r0 r1 r2 r3 r4 t0 t1 t2 t3 t4 y4 y5 g0 g1 g2 g3 g4;replace E:=q_ E;replace A:=q_ A;replace E1:=q_ E1;replace E2:=q_ E2;replace F:=q_ F;replace D:=q_ D;replace B:=q_ B;replace y:=q_ y;replace z:=q_ z;clear hP)
 have U:=Blk.five y.o (.int .u8 40) (.int .i64 0) (.string noB) (.slice none 0 0) (.slice (some ⟨b.heap.size+1,0,none⟩) 1 1);obtain⟨q0,q1,q2,q3,q4⟩:=U.d5;have Q:=Fr.five (World.setCell ((b.alloc (.cells #[.int .u8 (l:Int),.int .i64 m,.string q,.slice c u c1,.slice h x c2] 37)).alloc (.cells #[.int .u8 (l:Int),.int .i64 m,.string q,.slice c u c1,.slice h x c2] 37)) ⟨w.heap.size+1+1,4,none⟩ (.slice (some ⟨b.heap.size+1,0,none⟩) 1 1)) (w.heap.size+1) (.int .u8 40) (.int .i64 0) (.string noB) (.slice none 0 0) (.slice (some ⟨b.heap.size+1,0,none⟩) 1 1);generalize (((((World.setCell (World.setCell ((b.alloc (.cells #[.int .u8 (l:Int),.int .i64 m,.string q,.slice c u c1,.slice h x c2] 37)).alloc (.cells #[.int .u8 (l:Int),.int .i64 m,.string q,.slice c u c1,.slice h x c2] 37)) ⟨w.heap.size+1+1,4,none⟩ (.slice (some ⟨b.heap.size+1,0,none⟩) 1 1)) ⟨w.heap.size+1,0,none⟩ (.int .u8 40)).setCell ⟨w.heap.size+1,1,none⟩ (.int .i64 0)).setCell ⟨w.heap.size+1,2,none⟩ (.string noB)).setCell ⟨w.heap.size+1,3,none⟩ (.slice none 0 0)).setCell ⟨w.heap.size+1,4,none⟩ (.slice (some ⟨b.heap.size+1,0,none⟩) 1 1))=W5 at *;refine bodyPost_ret (v:=.agg (zb_ 40 0 noB (.slice none 0 0) (.slice (some ⟨b.heap.size+1,0,none⟩) 1 1)).toArray) (by simp[results,results64,go_sem,q0,q1,q2,q3,q4,zb_]) rfl ?_;rw[V.o];have O:=F.o.put ⟨w.heap.size+1+1,4,none⟩ (.slice (some ⟨b.heap.size+1,0,none⟩) 1 1) (by show w.heap.size<=w.heap.size+1+1;omega)
 rcases a0.o with⟨d,I,rfl,a1⟩|⟨I,rfl⟩
 ·have a2:Fr b (World.setCell ((b.alloc (.cells #[.int .u8 (l:Int),.int .i64 m,.string q,.slice c u c1,.slice h x c2] 37)).alloc (.cells #[.int .u8 (l:Int),.int .i64 m,.string q,.slice c u c1,.slice h x c2] 37)) ⟨w.heap.size+1+1,4,none⟩ (.slice (some ⟨b.heap.size+1,0,none⟩) 1 1)) (λ g=>g=w.heap.size+2):=((((Fr.refl b (λ g=>g=w.heap.size+2)).alloc _).alloc _).setCell _ _ (λ _=>rfl))
  have a3:((b.alloc (.cells #[.int .u8 (l:Int),.int .i64 m,.string q,.slice c u c1,.slice h x c2] 37)).alloc (.cells #[.int .u8 (l:Int),.int .i64 m,.string q,.slice c u c1,.slice h x c2] 37)).ownsRow 0 37 5 (.slice (some ⟨b.heap.size+1,0,none⟩) 1 1) 1 (zb_ l m q (.slice c u c1) (.slice h x c2)):=by
   have:=World.ownsRow_lit (base:=0) (e:=37) (size:=5) (b.alloc (.cells #[.int .u8 (l:Int),.int .i64 m,.string q,.slice c u c1,.slice h x c2] 37)) #[.int .u8 (l:Int),.int .i64 m,.string q,.slice c u c1,.slice h x c2] 1 o_ (by simp[maxLen]) rfl
   have e:(b.alloc (.cells #[.int .u8 (l:Int),.int .i64 m,.string q,.slice c u c1,.slice h x c2] 37)).heap.size=b.heap.size+1:=by simp
   rw[e] at this;exact this
  have a4:=za_ a3 ((Fr.refl _ (λ g=>g=w.heap.size+2)).setCell ⟨w.heap.size+1+1,4,none⟩ (.slice (some ⟨b.heap.size+1,0,none⟩) 1 1) (λ _=>rfl)) (λ g hg e=>by simp only[Value.ownBlock,ag_] at hg;omega);refine zc6 (w.heap.size+1) (by omega) O (DVal.one ((a1.fr a2 (λ g hg e=>by rw[C.o] at hg;omega)).mono (λ g _ hg=>⟨by rw[C.o] at hg;omega,by rw[C.o] at hg;omega⟩)) (b.heap.size+1) ⟨by omega,by omega⟩ a4 40 0 noB) Q ?_;rw[I];rfl
 ·exact zc7 (w.heap.size+1) (by omega) O ⟨_,_,_,rfl⟩ ⟨_,_,_,rfl⟩ Q (by rw[I];rfl)
open Go.RowKit
def BrOK (s:BA) (env:Nat->Option PB) (pl:Bool) (ts:List TR) (f:Nat) (l:List PT) (i:Nat):Prop:=
 ∀ (w:World) (P:Nat->Prop) (bl bz:Nat) (js:List Nat) (h0 sn sc:Nat),DM w P bl s bz pl i false ts env w->isTs ts js l->w.ownsRow 0 3 1 (.slice (some ⟨h0,0,none⟩) sn sc) js.length (js.map λ (n:Nat)=>Value.int .i64 (n:Int))->P h0->
  Calls prog 64 #[.pointer (some ⟨bl,0,none⟩),.agg #[.int .u8 40,.slice (some ⟨h0,0,none⟩) sn sc]] w (z6_ w bl s bz pl (zan (rdT s env pl f) s pl l i))
theorem zl4 {w:World}{base:Nat}{e:TypeId}{size:Nat}{n:Nat}{xs:List Value}{a:Option Addr}{m c:Nat}(h:w.ownsRow base e size (.slice a m c) n xs):m=n:=by
 rcases h.2 with⟨h1,h0⟩|⟨g,b,_,h1,_⟩
 ·cases h1;exact h0.symm
 ·cases h1;rfl
theorem zuz {s:BA}{env:Nat->Option PB}{ts:List TR}{l:List PT}(hl:l≠[]) (a:∀ t∈l,j9_ s env true ts f t i):BrOK s env true ts f l i:=by
 intro w P bl bz o h0 sn sc M c ho _
 cases l with
 | nil=>exact absurd rfl hl
 | cons t r=>
  obtain⟨j,q,rfl,b,_⟩:=c;have m:=zp_ ho (g:=h0) (cap:=sc) (by rw[zl4 ho]) (k:=0) (x:=.int .i64 (j:Int)) rfl;have hn:=zl4 ho;have h:=zkz (sn:=sn) (sc:=sc) M m (by rw[hn];simp) b (a t (by simp))
  have e:zan (rdT s env true f) s true (t::r) i=oneR 0 (rdT s env true f t i):=by
   unfold zan oneR;rw[if_pos rfl]
   rfl
  rw[e];exact h
theorem zuw {s:BA}{env:Nat->Option PB}{pl:Bool}{ts:List TR}{l:List PT}(a1:l≠[]) (hB:BrOK s env pl ts f l i):j9_ s env pl ts (f+1) (.alts p l) i:=by
 intro w P bl bz k M hk;obtain⟨H,hk,z⟩:=hk;obtain⟨g,m,a5,sv,z0,a7,N,z2,ho,F⟩:=M.Z.type hk;simp only[af_] at N;refine hq_ λ a3 R=>?_
 have a0:0<H.length:=by rw[zib z];exact List.length_pos_iff.2 a1
 have a9:=M.lt;have b4:=zk_ z0;have b5:=zk_ N;have c3:=M.L.c3;have c2:=M.L.c2;have a6:=M.jl;have b6:=M.sl;obtain⟨h0,b,rfl⟩:=zh_ ho a0;have T:P h0:=F h0 rfl;obtain⟨sn,A⟩:∃ n,n=H.length:=⟨_,rfl⟩;simp only[<- A] at z2 ho;replace A:=q_ A;have I:=q_ (dw_M M 40 (.slice (some ⟨h0,0,none⟩) sn b));have O:=q_ (dw_0 w 40 (.slice (some ⟨h0,0,none⟩) sn b));have D:=dw_1 w 40 (.slice (some ⟨h0,0,none⟩) sn b);have u0:=D.cell 0;have u1:=D.cell 1;simp only[dw,zg_,zb_,noB,aa_,ab_,af_] at u0 u1;have a2:=q_ (za_ ho ((((Fr.refl w (λ _=>False)).alloc (.cells zg_.toArray 37)).alloc (.cells #[.int .u8 40,.slice (some ⟨h0,0,none⟩) sn b] 77)).alloc (.cells (zb_ 40 0 noB (.slice none 0 0) (.slice none 0 0)).toArray 37)) u_);have U:=q_ (show(dw w 40 (.slice (some ⟨h0,0,none⟩) sn b)).heap.size=w.heap.size+3 by simp[dw]);have d2:=λ X Y Z=>zl_ c2 X Y Z
 have a8:(k:Int)<(m:Int):=by omega
 clear D;replace M:=q_ M;replace ho:=q_ ho;replace F:=q_ F;replace hk:=q_ hk;replace z:=q_ z;replace hB:=q_ hB
 go_in
 go_wp2_with (go_at_call 64;refine(hB.o _ P bl bz H h0 sn b I.o.here z.o (by rw[<- A.o];exact a2.o) T).mono ?_;intro e K hP;obtain⟨u,x,y,h,B,c1,q,C,c2,j2,a4,rfl,c,E,S⟩:=z6_.any I.o hP;have a:=E.blk O.o (by omega);have r0:=a.cell 0;have r1:=a.cell 1;have r2:=a.cell 2;have r3:=a.cell 3;have r4:=a.cell 4;obtain⟨g0,g1,g2,g3,g4⟩:=a.t5;simp only[zg_,zb_,aa_,ab_,af_] at r0 r1 r2 r3 r4;replace c:=q_ c;replace E:=q_ E;replace a:=q_ a;clear hP)
 have Q:=Blk.five a.o (.int .u8 (u:Int)) (.int .i64 x) (.string y) (.slice h B c1) (.slice q C c2);obtain⟨q0,q1,q2,q3,q4⟩:=Q.d5;have J:=Fr.five K (w.heap.size) (.int .u8 (u:Int)) (.int .i64 x) (.string y) (.slice h B c1) (.slice q C c2);generalize (((((World.setCell K ⟨w.heap.size,0,none⟩ (.int .u8 (u:Int))).setCell ⟨w.heap.size,1,none⟩ (.int .i64 x)).setCell ⟨w.heap.size,2,none⟩ (.string y)).setCell ⟨w.heap.size,3,none⟩ (.slice h B c1)).setCell ⟨w.heap.size,4,none⟩ (.slice q C c2))=W5 at *;refine bodyPost_ret (v:=.agg (zb_ u x y (.slice h B c1) (.slice q C c2)).toArray) (by simp[results,results34,go_sem,q0,q1,q2,q3,q4,zb_]) rfl ?_;rw[R.o]
 rcases S.o with⟨d,G,rfl,V⟩|⟨G,rfl⟩
 ·exact x9_ c.o (V.mono (λ g _ hg=>by rw[U.o] at hg;omega)) J (by simp only[rdT];exact G)
 ·exact v4_ c.o ⟨_,_,_,rfl⟩ ⟨_,_,_,rfl⟩ J (by simp only[rdT];exact G)
open Go.RowKit
def NmOK (s:BA) (env:Nat->Option PB) (pl:Bool) (ts:List TR) (f:Nat) (pb:PB) (i:Nat):Prop:=
 ∀ (w:World) (P:Nat->Prop) (bl bz:Nat) (so:Int) (fv:Value) (sb:BA) (o n:Int),DM w P bl s bz pl i false ts env w->zci w P ts pb so fv sb n->
  Calls prog 65 #[.pointer (some ⟨bl,0,none⟩),.agg #[.int .u8 so,fv,.string sb,.int .i64 o,.int .i64 n]] w (z6_ w bl s bz pl (yo_ (rdT s env pl f) s pb i))
def nw (w:World) (c:Nat) (fv:Value) (sb:BA) (o n:Int):World:=
 ((w.alloc (.cells #[.int .u8 (c:Int),fv,.string sb,.int .i64 o,.int .i64 n] 44)).alloc (.cells zg_.toArray 37)).alloc (.cells (zb_ c 0 noB (.slice none 0 0) (.slice none 0 0)).toArray 37)
theorem nw_0 (w:World) (c:Nat) (fv:Value) (sb:BA) (o n:Int):Blk (nw w c fv sb o n) w.heap.size [.int .u8 (c:Int),fv,.string sb,.int .i64 o,.int .i64 n] 44:=((Blk.new w _ _).alloc _).alloc _
theorem nw_1 (w:World) (c:Nat) (fv:Value) (sb:BA) (o n:Int):Blk (nw w c fv sb o n) (w.heap.size+1) zg_ 37:=by
 have:=(Blk.new (w.alloc (.cells #[.int .u8 (c:Int),fv,.string sb,.int .i64 o,.int .i64 n] 44)) zg_.toArray 37).alloc (.cells (zb_ c 0 noB (.slice none 0 0) (.slice none 0 0)).toArray 37)
 simpa[nw] using this
theorem nw_2 (w:World) (c:Nat) (fv:Value) (sb:BA) (o n:Int):Blk (nw w c fv sb o n) (w.heap.size+2) (zb_ c 0 noB (.slice none 0 0) (.slice none 0 0)) 37:=by
 have:=Blk.new ((w.alloc (.cells #[.int .u8 (c:Int),fv,.string sb,.int .i64 o,.int .i64 n] 44)).alloc (.cells zg_.toArray 37)) (zb_ c 0 noB (.slice none 0 0) (.slice none 0 0)).toArray 37
 simpa[nw] using this
theorem nw_M {w:World}{P:Nat->Prop}{bl:Nat}{s:BA}{bz:Nat}{pl:Bool}{j:Nat}{ts:List TR}{env:Nat->Option PB}(M:DM w P bl s bz pl j bad ts env w) (c:Nat) (fv:Value) (sb:BA) (o n:Int):DM w P bl s bz pl j bad ts env (nw w c fv sb o n):=((M.alloc _).alloc _).alloc _
theorem zt7 {s:BA}{env:Nat->Option PB}{pl:Bool}{ts:List TR}{m:Nat}:NmOK s env pl ts f (.bytes m) i:=by
 intro w P bl bz so fv sb o n M x;obtain⟨⟨B,D,C,rfl⟩,a0,rfl,x⟩:=x;refine hq_ λ a6 Q_=>?_;have a9:=M.lt;have a5:=M.jl;have U:=M.sl;have Y:=q_ (nw_M M 102 (.slice B D C) sb o n);have B0:=q_ (nw_0 w 102 (.slice B D C) sb o n);have B1:=q_ (nw_1 w 102 (.slice B D C) sb o n);have B2:=q_ (nw_2 w 102 (.slice B D C) sb o n);have a8:=q_ (show(nw w 102 (.slice B D C) sb o n).heap.size=w.heap.size+3 by simp[nw]);replace M:=q_ M;replace a0:=q_ a0;replace x:=q_ x;have hn:=x.o;subst hn;clear x
 go_in
 go_upto_if 94 with(first
  |(go_at_call 62;refine(zar A.o.L U A.o.jl).mono ?_;intro e w2 hT;obtain⟨tx,j2,rfl,Q,z,hx,hK⟩:=hT.any A.o;have H:=z.blk F.o (by omega);have E1:=z.blk G.o (by omega);have E2:=z.blk X.o (by omega);have p1:=E2.cell 2;have p2:=E2.thaw 2;have b:=Q.put ⟨w.heap.size+1+1,2,none⟩ (.string tx) (by show w.heap.size<=w.heap.size+1+1;omega);have c:=Blk.set E2 2 (.string tx);have g:=Blk.other E1 (a:=⟨w.heap.size+1+1,2,none⟩) (.string tx) (by show ¬ (w.heap.size+1=w.heap.size+1+1);omega);have J:=Blk.other H (a:=⟨w.heap.size+1+1,2,none⟩) (.string tx) (by show ¬ (w.heap.size=w.heap.size+1+1);omega);have p3:=c.cell 2;have p4:=J.cell 4;have a2:=b.L.c2;have a3:=b.L.thaw 2;simp only[zb_,aa_,ab_,aj_,al_] at p1 p3 p4;replace Q:=q_ Q;replace b:=q_ b;replace z:=q_ z;replace H:=q_ H;replace E1:=q_ E1;replace E2:=q_ E2;replace J:=q_ J;replace g:=q_ g;replace c:=q_ c;clear hT)
  |(go_at_call 59;refine(xo_ 39 Y.o.L U a5 rfl (by decide)).mono ?_;rintro e w1 ⟨rfl,E⟩;obtain⟨j1,Z,A,y,hJ⟩:=LEat.any (by decide) Y.o E;have F:=y.blk B0.o (by omega);have G:=y.blk B1.o (by omega);have X:=q_ (y.blk B2.o (by omega));replace A:=q_ A;replace y:=q_ y;replace F:=q_ F;replace G:=q_ G;clear E))
 go_cut [] (λ W=>∃ N,DM w P bl s bz pl j2 N ts env W/\Blk W (w.heap.size+1) zg_ 37/\Blk W (w.heap.size+2) (zb_ 102 0 tx (.slice none 0 0) (.slice none 0 0)) 37/\((N=Z/\tx.size=m)\/(N=true/\tx.size≠m)))
 case first=>
  by_cases l:tx.size=m
  ·have en:(((tx.size:Nat):Int) != (m:Int))=false:=by simp;omega
   replace l:=q_ l
   go_wp2_with fail
   go_meet
   case rel=>exact⟨Z,b.o,g.o,c.o,.inl ⟨rfl,l.o⟩⟩
  ·have en:(((tx.size:Nat):Int) != (m:Int))=true:=by simp;omega
   replace l:=q_ l
   go_wp2_with fail
   go_meet
   case rel=>exact⟨true,b.o.spoil,Blk.other g.o _ (by show ¬ (w.heap.size+1=bl);omega),Blk.other c.o _ (by show ¬ (w.heap.size+2=bl);omega),.inr ⟨rfl,l.o⟩⟩
 case rest=>
  clear b J g c p1 p2 p3 p4 a2 a3 F G X H E1 E2;obtain⟨N,b,g,c,O⟩:=hcut;replace b:=q_ b;replace g:=q_ g;replace c:=q_ c;replace O:=q_ O
  go_wp2_with (go_at_call 59;refine(xo_ 39 b.o.L U b.o.jl rfl (by decide)).mono ?_;rintro e w4 ⟨rfl,E⟩;obtain⟨j4,a7,K,I,a4⟩:=LEat.any (by decide) b.o E;have h:=I.blk g.o (by omega);have q:=I.blk c.o (by omega);have r0:=h.cell 0;have r1:=h.cell 1;have r2:=h.cell 2;have r3:=h.cell 3;have r4:=h.cell 4;have t0:=q.cell 0;have t1:=q.cell 1;have t2:=q.cell 2;have t3:=q.cell 3;have t4:=q.cell 4;obtain⟨g0,g1,g2,g3,g4⟩:=h.t5;simp only[zg_,zb_,aa_,ab_,af_] at r0 r1 r2 r3 r4 t0 t1 t2 t3 t4;replace K:=q_ K;replace I:=q_ I;replace h:=q_ h;replace q:=q_ q;clear E)
  have L5:=Blk.five h.o (.int .u8 102) (.int .i64 0) (.string tx) (.slice none 0 0) (.slice none 0 0);obtain⟨q0,q1,q2,q3,q4⟩:=L5.d5;have hF:=Fr.five w4 (w.heap.size+1) (.int .u8 102) (.int .i64 0) (.string tx) (.slice none 0 0) (.slice none 0 0);generalize (((((World.setCell w4 ⟨w.heap.size+1,0,none⟩ (.int .u8 102)).setCell ⟨w.heap.size+1,1,none⟩ (.int .i64 0)).setCell ⟨w.heap.size+1,2,none⟩ (.string tx)).setCell ⟨w.heap.size+1,3,none⟩ (.slice none 0 0)).setCell ⟨w.heap.size+1,4,none⟩ (.slice none 0 0))=W5 at *;refine bodyPost_ret (v:=.agg (zb_ 102 0 tx (.slice none 0 0) (.slice none 0 0)).toArray) (by simp[results,results65,go_sem,q0,q1,q2,q3,q4,zb_]) rfl ?_;rw[Q_.o];obtain⟨V,b4,a1⟩:=hK.o
  rcases a4.o with⟨rfl,u,rfl,rfl⟩|⟨u,_,rfl⟩
  ·rcases O.o with⟨hb,l⟩|⟨hb,_⟩
   ·subst hb
    rcases hJ.o with⟨_,h1,rfl,_⟩|⟨_,_,hb⟩
    ·have R:=a1 rfl
     have S:j2-(i+1)=m:=by
      rw[<- l,V,bb_];have:=b.o.jl;omega
     subst V;refine zc6 (w.heap.size+1) (by omega) K.o (DVal.bare _ _ 102 0 _) hF ?_;unfold yo_;simp only;rw[<- R,if_pos ⟨h1,S,u⟩]
    ·cases hb
   ·cases hb
  ·refine zc7 (w.heap.size+1) (by omega) K.o ⟨_,_,_,rfl⟩ ⟨_,_,_,rfl⟩ hF ?_;unfold yo_;simp only;refine if_neg (λ T=>?_)
   rcases hJ.o with⟨_,h1,rfl,rfl⟩|⟨h1,_,hb⟩
   ·have R:=a1 rfl;rw[<- R] at T
    have S:tx.size=m:=by
     rw[V,bb_];have:=b.o.jl;omega
    rcases O.o with⟨hb,_⟩|⟨_,hb⟩
    ·rcases u with u|u
     ·rw[u] at hb;cases hb
     ·exact u T.2.2
    ·exact hb S
   ·rcases h1 with h1|h1
    ·cases h1
    ·exact h1 T.1
open Go.RowKit
theorem zt0 {sb:BA}{l:List (Nat×Nat)}(h:sb.data.toList.map UInt8.toNat=l.map Prod.fst) (c:Nat):plc sb c=match (l.map Prod.fst).findIdx? (λ x=>x==c) with|some k=>(k:Int)|none=>-1:=by
 rw[<- h,List.findIdx?_map]
 rfl
theorem zwp {s:BA}{env:Nat->Option PB}{pl:Bool}{ts:List TR}{l:List (Nat×Nat)}{b7:Option (Nat×Nat)}(T:∀ c∈l.map Prod.fst,0<c) (d8:l.length<=300):NmOK s env pl ts f (.enum l b7) i:=by
 intro w P bl bz so fv sb o n M E;obtain⟨⟨A,C,B,rfl⟩,a0,rfl,E⟩:=E;refine hq_ λ b8 Q_=>?_;have d7:=M.lt;have a5:=M.jl;have b4:=M.sl;have M0:=q_ (nw_M M 101 (.slice A C B) sb o n);have B0:=q_ (nw_0 w 101 (.slice A C B) sb o n);have B1:=q_ (nw_1 w 101 (.slice A C B) sb o n);have B2:=q_ (nw_2 w 101 (.slice A C B) sb o n);have d6:=q_ (show(nw w 101 (.slice A C B) sb o n).heap.size=w.heap.size+3 by simp[nw]);replace M:=q_ M;replace a0:=q_ a0;replace E:=q_ E
 have a9:sb.size<=100000:=by
  have:=congrArg List.length E.o;rw[bf_,bf_] at this
  have e:sb.size=sb.data.toList.length:=by rw[Array.length_toList];rfl
  omega
 obtain⟨c,hc⟩:∃ c,bt s i=c:=⟨_,rfl⟩;have a6:=q_ (show lk s i false=c by simp[lk,hc]);obtain⟨v,J⟩:∃ v,plc sb c=v:=⟨_,rfl⟩;replace hc:=q_ hc;replace J:=q_ J;replace T:=q_ T
 go_in
 go_wp2_with fail
 change Code.wp _ _ _ _ (nw w 101 (.slice A C B) sb o n);generalize nw w 101 (.slice A C B) sb o n=W0 at *;have u2:=B0.o.c2;refine zx_ 6 (λ W=>W.cell? ⟨w.heap.size,2,none⟩=some (.string sb)) (by kernel_rfl) ?_;refine tb_ 0 rfl (by kernel_rfl) (λ _ _ _ h=>h) (by rfl) (by intro W hW;go_simp<;>rfl) ?_;refine tb_ 1 rfl (by kernel_rfl) (λ _ _ _ h=>h) (by rfl) (by intro W hW;go_simp<;>rfl) ?_;refine tb_ 2 rfl (by kernel_rfl) (λ _ _ _ h=>h) (by rfl) (by intro W hW;go_simp<;>rfl) ?_;refine ze_ 3 rfl (by kernel_rfl) (λ _=>u2) (λ K u=>?_);go_simp;refine(y9_ (M0.o.still (zd_.drew W0)).L b4 a5).mono ?_;rintro e w1 ⟨rfl,b6⟩;rw[a6.o];refine u _ _ ?_;clear u K;have a3:zd_ W0 w1:=(zd_.drew W0).trans b6;have R:=M0.o.still a3;have H:=(Fr.refl W0 (λ g=>g=bl)).still a3;have N:=H.blk B0.o (by omega);have O:=H.blk B1.o (by omega);have G:=H.blk B2.o (by omega);have I:=N.cell 2;have p1:=G.cell 1;have p2:=G.thaw 1;simp only[zb_,aa_,ab_] at I p1;refine ze_ 4 rfl (by kernel_rfl) (λ _=>I) (λ K u=>?_);go_simp;refine(jk_ sb c w1 a9).mono ?_;rintro e w' ⟨rfl,a2⟩;rw[J.o];refine u _ _ ?_;clear u K;rw[a2];clear a2 w';refine ze_ 5 rfl (by kernel_rfl) (λ _=>I) (λ K u=>?_);go_simp;refine u _ _ ?_;clear u K;refine ze_ 6 rfl (by kernel_rfl) (λ _=>I) (λ K u=>?_);go_simp;refine u _ _ ?_;clear u K;refine zq_ (by kernel_rfl) (λ hm=>absurd hm (by decide)) ?_ _;have y:=R.put ⟨w.heap.size+1+1,1,none⟩ (.int .i64 v) (by show w.heap.size<=w.heap.size+1+1;omega);have E2:=Blk.set G 1 (.int .i64 v);have E1:=Blk.other O (a:=⟨w.heap.size+1+1,1,none⟩) (.int .i64 v) (by show ¬ (w.heap.size+1=w.heap.size+1+1);omega);have p3:=E2.cell 1;have b9:=y.L.c1;have d0:=y.L.c2;have d1:=y.L.thaw 1;have d2:=y.L.thaw 2;simp only[zb_,aa_,ab_,aj_,al_] at p3;have F:=zt0 E.o c;have a4:=zyk sb c;rw[J.o] at F a4;replace R:=q_ R;replace H:=q_ H;replace N:=q_ N;replace O:=q_ O;replace G:=q_ G;replace F:=q_ F;clear u2 I p1 p2
 by_cases b5:v<0
 ·have z:=y.spoil;have b:=Blk.other E1 (a:=⟨bl,2,none⟩) (.bool true) (by show ¬ (w.heap.size+1=bl);omega);have m:=Blk.other E2 (a:=⟨bl,2,none⟩) (.bool true) (by show ¬ (w.heap.size+2=bl);omega);have r0:=b.cell 0;have r1:=b.cell 1;have Z:=b.cell 2;have r3:=b.cell 3;have r4:=b.cell 4;have t0:=m.cell 0;have t1:=m.cell 1;have t2:=m.cell 2;have t3:=m.cell 3;have t4:=m.cell 4;obtain⟨g0,g1,g2,g3,g4⟩:=b.t5;simp only[zg_,zb_,aa_,ab_,aj_,al_,af_] at r0 r1 Z r3 r4 t0 t1 t2 t3 t4;replace y:=q_ y;replace z:=q_ z;replace E1:=q_ E1;replace E2:=q_ E2;replace b:=q_ b;replace m:=q_ m
  go_wp2_with fail
  have Q:=Blk.five b.o (.int .u8 101) (.int .i64 v) (.string noB) (.slice none 0 0) (.slice none 0 0);obtain⟨U,V,X,q3,Y⟩:=Q.d5;have S:=Fr.five ((World.setCell w1 ⟨w.heap.size+1+1,1,none⟩ (.int .i64 v)).setCell ⟨bl,2,none⟩ (.bool true)) (w.heap.size+1) (.int .u8 101) (.int .i64 v) (.string noB) (.slice none 0 0) (.slice none 0 0);generalize (((((World.setCell ((World.setCell w1 ⟨w.heap.size+1+1,1,none⟩ (.int .i64 v)).setCell ⟨bl,2,none⟩ (.bool true)) ⟨w.heap.size+1,0,none⟩ (.int .u8 101)).setCell ⟨w.heap.size+1,1,none⟩ (.int .i64 v)).setCell ⟨w.heap.size+1,2,none⟩ (.string noB)).setCell ⟨w.heap.size+1,3,none⟩ (.slice none 0 0)).setCell ⟨w.heap.size+1,4,none⟩ (.slice none 0 0))=W5 at *;refine bodyPost_ret (v:=.agg (zb_ 101 v noB (.slice none 0 0) (.slice none 0 0)).toArray) (by simp[results,results65,go_sem,U,V,X,q3,Y,zb_]) rfl ?_;rw[Q_.o];refine zc7 (w.heap.size+1) (by omega) z.o ⟨_,_,_,rfl⟩ ⟨_,_,_,rfl⟩ S ?_;unfold yo_;simp only;rw[hc.o];have h:=F.o
  cases D:(l.map Prod.fst).findIdx? (λ x=>x==c) with
  | none=>rw[ite_self]
  | some q=>rw[D] at h;simp only at h;omega
 ·have d9:0<=v:=by omega
  have a1:i<s.size:=by
   refine zj_ (s:=s) (i:=i) ?_;rw[hc.o];have h:=F.o
   cases D:(l.map Prod.fst).findIdx? (λ x=>x==c) with
   | none=>rw[D] at h;simp only at h;omega
   | some q=>
    obtain⟨a7,a8,_⟩:=List.findIdx?_eq_some_iff_getElem.1 D;have:=T.o _ (a0_ a7);simp only[beq_iff_eq] at a8;omega
  have z:=y.inc a1;have b:=Blk.other E1 (a:=⟨bl,1,none⟩) (.int .i64 ((i:Int)+1)) (by show ¬ (w.heap.size+1=bl);omega);have m:=Blk.other E2 (a:=⟨bl,1,none⟩) (.int .i64 ((i:Int)+1)) (by show ¬ (w.heap.size+2=bl);omega);have r0:=b.cell 0;have r1:=b.cell 1;have Z:=b.cell 2;have r3:=b.cell 3;have r4:=b.cell 4;have t0:=m.cell 0;have t1:=m.cell 1;have t2:=m.cell 2;have t3:=m.cell 3;have t4:=m.cell 4;obtain⟨g0,g1,g2,g3,g4⟩:=b.t5;simp only[zg_,zb_,aa_,ab_,aj_,al_,af_] at r0 r1 Z r3 r4 t0 t1 t2 t3 t4;replace y:=q_ y;replace z:=q_ z;replace E1:=q_ E1;replace E2:=q_ E2;replace b:=q_ b;replace m:=q_ m;clear b5
  go_wp2_with fail
  have Q:=Blk.five b.o (.int .u8 101) (.int .i64 v) (.string noB) (.slice none 0 0) (.slice none 0 0);obtain⟨U,V,X,q3,Y⟩:=Q.d5;have S:=Fr.five ((World.setCell w1 ⟨w.heap.size+1+1,1,none⟩ (.int .i64 v)).setCell ⟨bl,1,none⟩ (.int .i64 ((i:Int)+1))) (w.heap.size+1) (.int .u8 101) (.int .i64 v) (.string noB) (.slice none 0 0) (.slice none 0 0);generalize (((((World.setCell ((World.setCell w1 ⟨w.heap.size+1+1,1,none⟩ (.int .i64 v)).setCell ⟨bl,1,none⟩ (.int .i64 ((i:Int)+1))) ⟨w.heap.size+1,0,none⟩ (.int .u8 101)).setCell ⟨w.heap.size+1,1,none⟩ (.int .i64 v)).setCell ⟨w.heap.size+1,2,none⟩ (.string noB)).setCell ⟨w.heap.size+1,3,none⟩ (.slice none 0 0)).setCell ⟨w.heap.size+1,4,none⟩ (.slice none 0 0))=W5 at *;refine bodyPost_ret (v:=.agg (zb_ 101 v noB (.slice none 0 0) (.slice none 0 0)).toArray) (by simp[results,results65,go_sem,U,V,X,q3,Y,zb_]) rfl ?_;rw[Q_.o];refine zc6 (w.heap.size+1) (by omega) z.o (DVal.bare _ _ 101 v noB) S ?_;unfold yo_;simp only;rw[if_pos a1,hc.o];have h:=F.o
  cases D:(l.map Prod.fst).findIdx? (λ x=>x==c) with
  | none=>rw[D] at h;simp only at h;omega
  | some q=>rw[D] at h;simp only at h;rw[h]
end Go.Proofs.YtiifagiebikmdaaGreatDoor
