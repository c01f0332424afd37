import Derived.Test.YtiifagiebikmdaaGreatDoorW13
namespace Go.Proofs.YtiifagiebikmdaaGreatDoor
open Go.RowKit
set_option maxHeartbeats 16000000 in
set_option maxRecDepth 100000 in
theorem list_ok {w:World}{P:Nat→Prop}{bl:Nat}{s:ByteArray}{bz:Nat}{pl:Bool}{i:Nat}{ts:List TR}{env:Nat→Option PB}{f:Nat}{t:PT}{k fin:Nat}{keyed:Bool}(M:DM w P bl s bz pl i false ts env w) (hk:isT ts k t) (hfin:fin=93∨fin=125) (hR:∀ j,i≤j→j≤s.size→DatOK s env pl ts f t j) :
 Calls Tryz.prog 63 #[.pointer (some ⟨bl,0,none⟩),.int .i64 (k:Int),.int .u8 (fin:Int),.bool keyed] w (DatPost w bl s bz pl (listR keyed (rdList (rdT s env pl f t) s fin keyed i))):=by
 have hsl:=M.sl
 have hil:=M.jl
 have hfp:0<fin:=by omega
 have hf44:fin≠44:=by omega
 obtain⟨RES,hRES⟩:∃ r,r=rdList (rdT s env pl f t) s fin keyed i:=⟨_,rfl⟩
 rw[← hRES]
 obtain⟨POST,hPOST⟩:∃ Q,Hid (Q=DatPost w bl s bz pl (listR keyed RES)):=⟨_,rfl⟩
 rw[← hPOST.out]
 obtain⟨R,hRR⟩:∃ R,R=rdT s env pl f t:=⟨_,rfl⟩
 rw[← hRR] at hRES
 have start:LInv RES R fin keyed i w P bl s bz pl ts env (s.size+3) ((w.alloc (.cells zeroDat.toArray 37)).alloc (.cells zeroDat.toArray 37)):=
  ⟨_,_,_,_,_,.inl ⟨[],i,lm_start M,Dts.nil _ _ _ _,by simp[keysOf],by omega,.inl ⟨rfl,rfl,by rw[hRES,rdList,aheadL_nil]⟩⟩⟩
 replace start:=hide start
 replace hk:=hide hk
 replace hRR:=hide hRR
 replace hR:=hide hR
 clear hRES M hfin
 go_enter Tryz.func63,Tryz.ntmps63
 go_wp2_with fail
 go_loopg [] (s.size+3) (fun m W=>LInv RES R fin keyed i w P bl s bz pl ts env m W)
 case atStart=>exact start.out
 case round=>
  clear start
  obtain⟨vk,vs,ks,n,xs,hG|hB⟩:=hrel
  ·obtain⟨acc,j,Q,D,hks,hm,hst⟩:=hG
   obtain⟨ka,kc,rfl⟩:=own_sl Q.kr
   obtain⟨sa,sc,rfl⟩:=own_sl Q.vr
   have hjl:=Q.M.jl
   have c2:=Q.M.L.c2
   have t4:=Q.r1.cell 4
   have t3:=Q.r1.cell 3
   simp only[dvals,List.getElem?_cons_zero,List.getElem?_cons_succ] at t3 t4
   obtain⟨c,hc⟩:∃ c,bt s j=c:=⟨_,rfl⟩
   have hlk:=hide (show lk s j false=c by simp[lk,hc])
   have hnl:Hid (n=acc.length):=hide (by have:=D.1;simpa using this)
   replace Q:=hide Q
   replace D:=hide D
   replace hks:=hide hks
   by_cases hcf:c=fin
   ·subst hcf
    have e1:((c:Int) != (c:Int))=false:=by simp
    have his:j<s.size:=bt_pos (by omega)
    rcases hst with⟨hacc,hji,hres⟩|⟨hne,hij,nn,hnn,hres⟩
    ·subst hacc
     have hn0:n=0:=hnl.out
     clear hnl
     subst hn0
     replace hres:=hide hres
     replace hji:=hide hji
     replace hc:=hide hc
     go_wp2_with (first
      |(go_at_call 60;refine(lpeek_any Q.out.M.L hsl hjl).mono ?_;rintro e w1 ⟨rfl,hw1⟩;rw[hlk.out];have Q1:=Q.out.still hw1;have D1:=D.out.still hw1;replace Q1:=hide Q1;replace D1:=hide D1;have t41:=Q1.out.r1.cell 4;have c21:=Q1.out.M.L.c2;simp only[dvals,List.getElem?_cons_zero,List.getElem?_cons_succ] at t41)
      |(go_at_call 59;refine(leat_any c Q1.out.M.L hsl hjl rfl hfp).mono ?_;rintro e w2 ⟨rfl,hE⟩;obtain⟨j2,bad2,Q2,F2,hJ⟩:=LEat.lm hfp Q1.out hE;have D2:=Q1.out.dts D1.out F2;have r0:=Q2.r0.cell 0;have r1:=Q2.r0.cell 1;have r2:=Q2.r0.cell 2;have r3:=Q2.r0.cell 3;have r4:=Q2.r0.cell 4;have g0:=Q2.r0.thaw 0;have g1:=Q2.r0.thaw 1;have g2:=Q2.r0.thaw 2;have g3:=Q2.r0.thaw 3;have g4:=Q2.r0.thaw 4;have t0:=Q2.r1.cell 0;have t1:=Q2.r1.cell 1;have t2:=Q2.r1.cell 2;have t3:=Q2.r1.cell 3;have t4:=Q2.r1.cell 4;simp only[zeroDat,dvals,List.getElem?_cons_zero,List.getElem?_cons_succ,Int.cast_ofNat_Int] at r0 r1 r2 r3 r4 t0 t1 t2 t3 t4;have R0:=hide Q2.r0;replace Q2:=hide Q2;replace D2:=hide D2;clear hE))
     have L5:=Blk.five R0.out (.int .u8 0) (.int .i64 0) (.string noB) (.slice ka ks.length kc) (.slice sa 0 sc)
     have q0:=L5.cell 0
     have q1:=L5.cell 1
     have q2:=L5.cell 2
     have q3:=L5.cell 3
     have q4:=L5.cell 4
     simp only[List.getElem?_cons_zero,List.getElem?_cons_succ] at q0 q1 q2 q3 q4
     have hF:=Fr.five w2 (w.heap.size) (.int .u8 0) (.int .i64 0) (.string noB) (.slice ka ks.length kc) (.slice sa 0 sc)
     generalize (((((World.setCell w2 ⟨w.heap.size,0,none⟩ (.int .u8 0)).setCell ⟨w.heap.size,1,none⟩ (.int .i64 0)).setCell ⟨w.heap.size,2,none⟩ (.string noB)).setCell ⟨w.heap.size,3,none⟩ (.slice ka ks.length kc)).setCell ⟨w.heap.size,4,none⟩ (.slice sa 0 sc))=W5 at *
     refine bodyPost_ret (v:=.agg (dvals 0 0 noB (.slice ka ks.length kc) (.slice sa 0 sc)).toArray) (by simp[results,Tryz.results63,go_sem,q0,q1,q2,q3,q4,dvals]) rfl ?_
     rw[hPOST.out]
     rcases hJ.out with⟨_,_,rfl,rfl⟩|⟨h1,_,_⟩
     ·refine dat_good Q2.out.M ((Q2.out.dval D2.out 0).mono (fun g _ hg=>by omega)) hF ?_
      rw[hres.out,← hji.out,if_pos hc.out,hks.out]
      rfl
     ·exact absurd hc.out (by simpa using h1)
    ·have hacc0:0<acc.length:=List.length_pos_iff.2 hne
     have hn0:(0:Int)<(n:Int):=by have:=hnl.out;omega
     replace hres:=hide hres
     replace hc:=hide hc
     go_wp2_with (first
      |(go_at_call 60;refine(lpeek_any Q.out.M.L hsl hjl).mono ?_;rintro e w1 ⟨rfl,hw1⟩;rw[hlk.out];have Q1:=Q.out.still hw1;have D1:=D.out.still hw1;replace Q1:=hide Q1;replace D1:=hide D1;have t41:=Q1.out.r1.cell 4;simp only[dvals,List.getElem?_cons_zero,List.getElem?_cons_succ] at t41)
      |(go_at_call 60;refine(lpeek_any Q1.out.M.L hsl hjl).mono ?_;rintro e w2 ⟨rfl,hw2⟩;rw[hlk.out];have Q2:=Q1.out.still hw2;have D2:=D1.out.still hw2;have c12:=Q2.M.L.c1;have f12:=Q2.M.L.thaw 1;have Q3:=Q2.inc his;have D3:=Q2.dts D2 (Fr.one w2 ⟨bl,1,none⟩ (.int .i64 ((j:Int)+1)));have r0:=Q3.r0.cell 0;have r1:=Q3.r0.cell 1;have r2:=Q3.r0.cell 2;have r3:=Q3.r0.cell 3;have r4:=Q3.r0.cell 4;have g0:=Q3.r0.thaw 0;have g1:=Q3.r0.thaw 1;have g2:=Q3.r0.thaw 2;have g3:=Q3.r0.thaw 3;have g4:=Q3.r0.thaw 4;have t0:=Q3.r1.cell 0;have t1:=Q3.r1.cell 1;have t2:=Q3.r1.cell 2;have t3:=Q3.r1.cell 3;have t4:=Q3.r1.cell 4;simp only[zeroDat,dvals,List.getElem?_cons_zero,List.getElem?_cons_succ,Int.cast_ofNat_Int] at r0 r1 r2 r3 r4 t0 t1 t2 t3 t4;have R0:=hide Q3.r0;replace Q2:=hide Q2;replace D2:=hide D2;replace Q3:=hide Q3;replace D3:=hide D3))
     have L5:=Blk.five R0.out (.int .u8 0) (.int .i64 0) (.string noB) (.slice ka ks.length kc) (.slice sa n sc)
     have q0:=L5.cell 0
     have q1:=L5.cell 1
     have q2:=L5.cell 2
     have q3:=L5.cell 3
     have q4:=L5.cell 4
     simp only[List.getElem?_cons_zero,List.getElem?_cons_succ] at q0 q1 q2 q3 q4
     have hF:=Fr.five (w2.setCell ⟨bl,1,none⟩ (.int .i64 ((j:Int)+1))) (w.heap.size) (.int .u8 0) (.int .i64 0) (.string noB) (.slice ka ks.length kc) (.slice sa n sc)
     generalize (((((World.setCell (w2.setCell ⟨bl,1,none⟩ (.int .i64 ((j:Int)+1))) ⟨w.heap.size,0,none⟩ (.int .u8 0)).setCell ⟨w.heap.size,1,none⟩ (.int .i64 0)).setCell ⟨w.heap.size,2,none⟩ (.string noB)).setCell ⟨w.heap.size,3,none⟩ (.slice ka ks.length kc)).setCell ⟨w.heap.size,4,none⟩ (.slice sa n sc))=W5 at *
     refine bodyPost_ret (v:=.agg (dvals 0 0 noB (.slice ka ks.length kc) (.slice sa n sc)).toArray) (by simp[results,Tryz.results63,go_sem,q0,q1,q2,q3,q4,dvals]) rfl ?_
     rw[hPOST.out]
     refine dat_good Q3.out.M ((Q3.out.dval D3.out 0).mono (fun g _ hg=>by omega)) hF ?_
     rw[hres.out,contL,if_pos hc.out,hks.out]
     rfl
   ·have e1:((c:Int) != (fin:Int))=true:=by simp;omega
    have e2:((c:Int)==(fin:Int))=false:=by simp;omega
    have hcf':=hide (show bt s j≠fin by rw[hc];exact hcf)
    have hn4:n≤4000:=by
     have h0:=hnl.out
     rcases hst with⟨rfl,_,_⟩|⟨_,hij,_⟩
     ·simp at h0;omega
     ·omega
    replace hst:=hide hst
    go_upto_if 33 with(go_at_call 60;refine(lpeek_any Q.out.M.L hsl hjl).mono ?_;rintro e w1 ⟨rfl,hw1⟩;rw[hlk.out];have Q1:=Q.out.still hw1;have D1:=D.out.still hw1;have t41:=Q1.r1.cell 4;have c21:=Q1.M.L.c2;simp only[dvals,List.getElem?_cons_zero,List.getElem?_cons_succ] at t41;replace Q1:=hide Q1;replace D1:=hide D1)
    go_cut [] (fun W=>∃ j' bad',LM w P bl s bz pl j' bad' ts env w.heap.size (w.heap.size+1) (w.heap.size+2) 0 (.slice ka ks.length kc) (.slice sa n sc) ks n xs W∧Dts W (w.heap.size+2) (.slice ka ks.length kc) (.slice sa n sc) (acc.map Prod.snd) n xs∧Out1 RES R s fin keyed acc i j j' bad')
    case first=>
     rcases hst.out with⟨hacc,hji,hres⟩|⟨hne,hij,nn,hnn,hres⟩
     ·have hn0:n=0:=by rw[hnl.out,hacc];rfl
      subst hn0
      replace hres:=hide hres
      replace hji:=hide hji
      replace hacc:=hide hacc
      go_wp2_with fail
      go_meet
      case rel=>
       refine⟨j,false,Q1.out,D1.out,?_⟩
       have:=hacc.out
       subst this
       exact out1_first hji.out hcf'.out hres.out
     ·have hacc0:0<acc.length:=List.length_pos_iff.2 hne
      have hn0:(0:Int)<(n:Int):=by have:=hnl.out;omega
      replace hres:=hide hres
      replace hne:=hide hne
      go_wp2_with (first
       |(go_at_call 60;refine(lpeek_any Q1.out.M.L hsl hjl).mono ?_;rintro e w2 ⟨rfl,hw2⟩;rw[hlk.out];have Q2:=Q1.out.still hw2;have D2:=D1.out.still hw2;replace Q2:=hide Q2;replace D2:=hide D2)
       |(go_at_call 59;refine(leat_any 44 Q2.out.M.L hsl hjl rfl (by decide)).mono ?_;rintro e w3 ⟨rfl,hE⟩;obtain⟨j3,bad3,Q3,F3,hJ⟩:=LEat.lm (by decide) Q2.out hE;have D3:=Q2.out.dts D2.out F3;replace Q3:=hide Q3;replace D3:=hide D3;clear hE))
      go_meet
      case rel=>
       refine⟨j3,bad3,Q3.out,D3.out,out1_more hcf'.out hij hnn hres.out ?_⟩
       rcases hJ.out with⟨_,a,b,c⟩|⟨a,b,c⟩
       ·exact .inl ⟨a,b,c⟩
       ·exact .inr ⟨by simpa using a,b,c⟩
    case rest=>
     clear Q1 D1 t41 c21 t3 t4 c2 hw1 hlk e1 e2
     obtain⟨j1,bad1,Q1,D1,o1⟩:=hcut
     have hj1:=Q1.M.jl
     replace Q1:=hide Q1
     replace D1:=hide D1
     replace o1:=hide o1
     replace hc:=hide hc
     replace hcf:=hide hcf
     go_upto_if 48 with fail
     go_cut [] (fun W=>∃ j' bad' ka' kc' ks',LM w P bl s bz pl j' bad' ts env w.heap.size (w.heap.size+1) (w.heap.size+2) 0 (.slice ka' ks'.length kc') (.slice sa n sc) ks' n xs W∧Dts W (w.heap.size+2) (.slice ka' ks'.length kc') (.slice sa n sc) (acc.map Prod.snd) n xs∧ks'.length≤5000∧Out3 RES R s fin keyed acc ks' i j j' bad')
     case first=>
      have hkl:ks.length≤4000:=by
       rw[hks.out];unfold keysOf;split
       ·rw[List.length_map,← hnl.out];exact hn4
       ·simp
      cases keyed with
      | false=>
       go_wp2_with fail
       go_meet
       case rel=>exact⟨j1,bad1,ka,kc,ks,Q1.out,D1.out,by omega,out3_plain hj1 o1.out ks (fun _=>hks.out)⟩
      | true=>
       obtain⟨si,hs1,hs2,hs3,hs4⟩:=info_parts i_Str
       rcases List.eq_nil_or_concat ks with hks0|⟨q,kl,hks0⟩
       ·have hlast:=hide ((rises_last hks.out).1 hks0)
        have hkz:=hide (show ks.length=0 by rw[hks0];rfl)
        replace hks0:=hide hks0
        go_upto_if 66 with(go_at_call 62;refine(letters_any Q1.out.M.L hsl hj1).mono ?_;intro e w2 hT;obtain⟨tx,j2,rfl,Q2,F2,hx,hK⟩:=hT.lm Q1.out;have D2:=Q1.out.dts D1.out F2;have t32:=Q2.r1.cell 3;simp only[dvals,List.getElem?_cons_zero,List.getElem?_cons_succ] at t32;rw[hkz.out] at t32;replace Q2:=hide Q2;replace D2:=hide D2;clear hT)
        go_cut [10] (fun v W=>∃ tx j' bad',v=.string tx∧LM w P bl s bz pl j' bad' ts env w.heap.size (w.heap.size+1) (w.heap.size+2) 0 (.slice ka ks.length kc) (.slice sa n sc) ks n xs W∧Dts W (w.heap.size+2) (.slice ka ks.length kc) (.slice sa n sc) (acc.map Prod.snd) n xs∧tx.size≤4000∧Out2 RES R s fin true acc i j tx j' bad')
        case first=>
         go_wp2_with fail
         go_meet
         case rel=>exact⟨tx,j2,bad1,rfl,Q2.out,D2.out,hx,(out2_of hj1 o1.out hK.out).1 (by rw[hlast.out];rfl)⟩
        case rest=>
         clear t32 Q2 D2
         obtain⟨tx,j2,bad2,rfl,Q2,D2,hx,o2⟩:=hcut
         have hj2:=Q2.M.jl
         have hBl:=Q2.bB
         replace Q2:=hide Q2
         replace D2:=hide D2
         replace o2:=hide o2
         go_wp2_with (first
          |(go_at_call 59;refine(leat_any 58 Q2.out.M.L hsl hj2 rfl (by decide)).mono ?_;rintro e w3 ⟨rfl,hE⟩;obtain⟨j3,bad3,Q3,F3,hJ⟩:=LEat.lm (by decide) Q2.out hE;have D3:=Q2.out.dts D2.out F3;have hBl3:=Q3.bB;have t33:=Q3.r1.cell 3;simp only[dvals,List.getElem?_cons_zero,List.getElem?_cons_succ] at t33;replace Q3:=hide Q3;replace D3:=hide D3;clear hE)
          |(at_builtin;go_must (refine wpList_append_own_at _ rfl _ _ 34 rfl (w.heap.size+2) 9 si _ 1 16 u_Strs hs1 hs2 hs3 hs4 rfl (by decide) (.slice ka ks.length kc) ks.length (ks.map Value.string) rfl ?hown _ 1 1 [.string tx] rfl rfl (news_new _ #[.string tx] _ _ ?nn) ?one ?b1 ?b2 ?b3 ?_)
            case hown=>exact World.ownsRow.alloc Q3.out.kr _
            case nn=>simp
            case one=>simp[Value.oneCell']
            case b1=>unfold maxLen;omega
            case b2=>omega
            case b3=>simp;omega
            intro v5 w5 ho5 hg5 hn5 hl5
            have I5:=Q3.out.key hg5 ho5 hl5
            obtain⟨e5,f5⟩:=Q3.out.keyCell hg5
            obtain⟨g5,cap5,rfl⟩:=own_form ho5 (by omega)
            clear hg5 hl5 hn5 ho5
            replace I5:=hide I5))
         go_meet
         case rel=>
          obtain⟨Q5,hD5⟩:=I5.out
          have el:(ks++[tx]).length=ks.length+1:=by simp
          refine⟨j3,bad3,some ⟨g5,0,none⟩,cap5,ks++[tx],?_,?_,by omega,out3_key hks.out o2.out hJ.out⟩
          ·rw[el];exact Q5
          ·rw[el];exact hD5 _ D3.out
       ·have hlast:=hide ((rises_last hks.out).2 q kl (by simpa using hks0))
        have hm:ks.length=q.length+1:=by rw[hks0];simp
        have hq4:q.length≤4000:=by omega
        have hcell:=hide (show(ks.map Value.string)[q.length]?=some (.string kl) by rw[hks0];simp)
        obtain⟨gk,ck,hgk⟩:=own_form Q1.out.kr (by omega)
        simp only[Value.slice.injEq,true_and] at hgk
        obtain⟨rfl,rfl⟩:=hgk
        replace hks0:=hide hks0
        replace hm:=hide hm
        go_upto_if 66 with(go_at_call 62;refine(letters_any Q1.out.M.L hsl hj1).mono ?_;intro e w2 hT;obtain⟨tx,j2,rfl,Q2,F2,hx,hK⟩:=hT.lm Q1.out;have D2:=Q1.out.dts D1.out F2;have t32:=Q2.r1.cell 3;simp only[dvals,List.getElem?_cons_zero,List.getElem?_cons_succ] at t32;rw[hm.out] at t32;have k2:=own_cell Q2.kr rfl hcell.out;replace Q2:=hide Q2;replace D2:=hide D2;clear hT)
        go_cut [10] (fun v W=>∃ tx j' bad',v=.string tx∧LM w P bl s bz pl j' bad' ts env w.heap.size (w.heap.size+1) (w.heap.size+2) 0 (.slice (some ⟨gk,0,none⟩) ks.length kc) (.slice sa n sc) ks n xs W∧Dts W (w.heap.size+2) (.slice (some ⟨gk,0,none⟩) ks.length kc) (.slice sa n sc) (acc.map Prod.snd) n xs∧tx.size≤4000∧Out2 RES R s fin true acc i j tx j' bad')
        case first=>
         have c22:=Q2.out.M.L.c2
         have f22:=Q2.out.M.L.thaw 2
         cases hb:Op.bytesLess kl.toList tx.toList
         ·go_wp2_with fail
          go_meet
          case rel=>exact⟨tx,j2,true,rfl,Q2.out.spoil,Q2.out.dts D2.out (Fr.one _ _ _),hx,(out2_of hj1 o1.out hK.out).2 (by rw[hlast.out];exact hb)⟩
         ·go_wp2_with fail
          go_meet
          case rel=>exact⟨tx,j2,bad1,rfl,Q2.out,D2.out,hx,(out2_of hj1 o1.out hK.out).1 (by rw[hlast.out];exact hb)⟩
        case rest=>
         clear t32 Q2 D2
         obtain⟨tx,j2,bad2,rfl,Q2,D2,hx,o2⟩:=hcut
         have hj2:=Q2.M.jl
         have hBl:=Q2.bB
         replace Q2:=hide Q2
         replace D2:=hide D2
         replace o2:=hide o2
         go_wp2_with (first
          |(go_at_call 59;refine(leat_any 58 Q2.out.M.L hsl hj2 rfl (by decide)).mono ?_;rintro e w3 ⟨rfl,hE⟩;obtain⟨j3,bad3,Q3,F3,hJ⟩:=LEat.lm (by decide) Q2.out hE;have D3:=Q2.out.dts D2.out F3;have hBl3:=Q3.bB;have t33:=Q3.r1.cell 3;simp only[dvals,List.getElem?_cons_zero,List.getElem?_cons_succ] at t33;replace Q3:=hide Q3;replace D3:=hide D3;clear hE)
          |(at_builtin;go_must (refine wpList_append_own_at _ rfl _ _ 34 rfl (w.heap.size+2) 9 si _ 1 16 u_Strs hs1 hs2 hs3 hs4 rfl (by decide) (.slice (some ⟨gk,0,none⟩) ks.length kc) ks.length (ks.map Value.string) rfl ?hown _ 1 1 [.string tx] rfl rfl (news_new _ #[.string tx] _ _ ?nn) ?one ?b1 ?b2 ?b3 ?_)
            case hown=>exact World.ownsRow.alloc Q3.out.kr _
            case nn=>simp
            case one=>simp[Value.oneCell']
            case b1=>unfold maxLen;omega
            case b2=>omega
            case b3=>simp;omega
            intro v5 w5 ho5 hg5 hn5 hl5
            have I5:=Q3.out.key hg5 ho5 hl5
            obtain⟨e5,f5⟩:=Q3.out.keyCell hg5
            obtain⟨g5,cap5,rfl⟩:=own_form ho5 (by omega)
            clear hg5 hl5 hn5 ho5
            replace I5:=hide I5))
         go_meet
         case rel=>
          obtain⟨Q5,hD5⟩:=I5.out
          have el:(ks++[tx]).length=ks.length+1:=by simp
          refine⟨j3,bad3,some ⟨g5,0,none⟩,cap5,ks++[tx],?_,?_,by omega,out3_key hks.out o2.out hJ.out⟩
          ·rw[el];exact Q5
          ·rw[el];exact hD5 _ D3.out
     case rest=>
      clear Q1 D1
      obtain⟨j2,bad2,ka2,kc2,ks2,Q2,D2,hk2,o2⟩:=hcut
      have hj2:=Q2.M.jl
      obtain⟨ti,hi1,hi2,hi3,hi4⟩:=info_parts i_Datum
      obtain⟨r2,hr2⟩:∃ r,r=if bad2=true then none else R j2:=⟨_,rfl⟩
      have hC:=hide (show Calls Tryz.prog 34 #[.pointer (some ⟨bl,0,none⟩),.int .i64 (k:Int)] wc (DatPost wc bl s bz pl r2) by
       cases bad2 with
       | true=>rw[hr2,if_pos rfl];exact dat_spoilt t wc P bl bz k j2 Q2.M.here hk.out
       | false=>
        rw[hr2,if_neg (by decide),hRR.out]
        refine hR.out j2 ?_ hj2 wc P bl bz k Q2.M.here hk.out
        rcases o2 with⟨_,_,h,_⟩|⟨h,_⟩
        ·omega
        ·cases h)
      have hBl:=Q2.bB
      replace Q2:=hide Q2
      replace D2:=hide D2
      replace o2:=hide o2
      replace hr2:=hide hr2
      go_wp2_with (first
       |(go_at_call 34;refine hC.out.mono ?_;intro e w3 hP;obtain⟨dk,dm,dtx,a1,m1,c1,a2,m2,c2,j3,bad3,rfl,Q3,F3,hJ⟩:=DatPost.lm Q2.out hP;have D3:=Q2.out.dts D2.out F3;have Q4:=Q3.alloc (.cells (dvals dk dm dtx (.slice a1 m1 c1) (.slice a2 m2 c2)).toArray 37);have D4:=D3.alloc (.cells (dvals dk dm dtx (.slice a1 m1 c1) (.slice a2 m2 c2)).toArray 37);have t4:=Q4.r1.cell 4;simp only[dvals,List.getElem?_cons_zero,List.getElem?_cons_succ] at t4;have hBl3:=Q3.bB;replace Q3:=hide Q3;replace D3:=hide D3;replace Q4:=hide Q4;replace D4:=hide D4;clear hP)
       |(at_builtin;go_must (refine wpList_append_own_at _ rfl _ _ 35 rfl (w.heap.size+2) 37 ti _ 5 80 u_Datum hi1 hi2 hi3 hi4 rfl (by decide) (.slice sa n sc) n xs rfl ?hown _ 1 1 (dvals dk dm dtx (.slice a1 m1 c1) (.slice a2 m2 c2)) rfl rfl (news_new _ (dvals dk dm dtx (.slice a1 m1 c1) (.slice a2 m2 c2)).toArray _ _ ?nn) ?one ?b1 ?b2 ?b3 ?_)
         case hown=>exact World.ownsRow.alloc Q4.out.vr _
         case nn=>simp
         case one=>simp[dvals,Value.oneCell']
         case b1=>unfold maxLen;omega
         case b2=>omega
         case b3=>simp;omega
         intro v5 w5 ho5 hg5 hn5 hl5
         have I5:=Q4.out.item hg5 ho5 hl5
         obtain⟨e5,f5⟩:=Q4.out.itemCell hg5
         obtain⟨g5,cap5,rfl⟩:=own_form ho5 (by omega)
         clear hg5 hl5 hn5 ho5
         replace I5:=hide I5))
      obtain⟨Q5,hD5⟩:=I5.out
      rcases hJ.out with⟨d,hr,rfl,hdv⟩|⟨hr,rfl⟩
      ·have hb2:bad2=false:=by
        cases hb:bad2 with
        | false=>rfl
        | true=>rw[hr2.out,hb] at hr;cases hr
       subst hb2
       have hrd:R j2=some (d,j3):=by rw[← hr,hr2.out];rfl
       have hgo:=rdT_goes s env pl f t j2 d j3 (by rw[← hRR.out];exact hrd)
       rcases o2.out with⟨_,h1,h2,nn,key,hkk,h3,h4⟩|⟨hb,_⟩
       ·have D5:=hD5 _ d D4.out (hdv.fr ((Fr.refl w3 (fun _=>False)).alloc _) (fun _ _ f=>f))
        go_roundg (s.size+2-j3)
        case measure=>omega
        case rel=>
         refine⟨_,_,ks2,n+1,_,.inl ⟨acc++[(key,d)],j3,Q5,by rw[List.map_append];exact D5,hkk d,Nat.le_refl _,.inr ⟨by simp,by rw[List.length_append,List.length_singleton];omega,nn,by omega,?_⟩⟩⟩
         rw[h4,itemL,hrd]
       ·cases hb
      ·go_roundg 0
       case measure=>omega
       case rel=>
        refine⟨_,_,ks2,n+1,_,.inr ⟨j3,Q5,?_⟩⟩
        rcases o2.out with⟨hb,_,_,nn,key,_,_,h4⟩|⟨_,h⟩
        ·have hrd:R j2=none:=by rw[← hr,hr2.out,hb];rfl
         rw[h4,itemL,hrd]
        ·exact h
  ·obtain⟨j,Q,hres⟩:=hB
   obtain⟨ka,kc,rfl⟩:=own_sl Q.kr
   obtain⟨sa,sc,rfl⟩:=own_sl Q.vr
   have c2:=Q.M.L.c2
   have r0:=Q.r0.cell 0
   have r1:=Q.r0.cell 1
   have r2:=Q.r0.cell 2
   have r3:=Q.r0.cell 3
   have r4:=Q.r0.cell 4
   have g0:=Q.r0.thaw 0
   have g1:=Q.r0.thaw 1
   have g2:=Q.r0.thaw 2
   have g3:=Q.r0.thaw 3
   have g4:=Q.r0.thaw 4
   have t0:=Q.r1.cell 0
   have t1:=Q.r1.cell 1
   have t2:=Q.r1.cell 2
   have t3:=Q.r1.cell 3
   have t4:=Q.r1.cell 4
   simp only[zeroDat,dvals,List.getElem?_cons_zero,List.getElem?_cons_succ,Int.cast_ofNat_Int] at r0 r1 r2 r3 r4 t0 t1 t2 t3 t4
   have D0:=hide Q.r0
   replace Q:=hide Q
   replace hres:=hide hres
   go_wp2_with fail
   have L5:=Blk.five D0.out (.int .u8 0) (.int .i64 0) (.string noB) (.slice ka ks.length kc) (.slice sa n sc)
   have q0:=L5.cell 0
   have q1:=L5.cell 1
   have q2:=L5.cell 2
   have q3:=L5.cell 3
   have q4:=L5.cell 4
   simp only[List.getElem?_cons_zero,List.getElem?_cons_succ] at q0 q1 q2 q3 q4
   have hF:=Fr.five wr (w.heap.size) (.int .u8 0) (.int .i64 0) (.string noB) (.slice ka ks.length kc) (.slice sa n sc)
   generalize (((((World.setCell wr ⟨w.heap.size,0,none⟩ (.int .u8 0)).setCell ⟨w.heap.size,1,none⟩ (.int .i64 0)).setCell ⟨w.heap.size,2,none⟩ (.string noB)).setCell ⟨w.heap.size,3,none⟩ (.slice ka ks.length kc)).setCell ⟨w.heap.size,4,none⟩ (.slice sa n sc))=W5 at *
   refine bodyPost_ret (v:=.agg (dvals 0 0 noB (.slice ka ks.length kc) (.slice sa n sc)).toArray) (by simp[results,Tryz.results63,go_sem,q0,q1,q2,q3,q4,dvals]) rfl ?_
   rw[hPOST.out]
   exact dat_bad Q.out.M ⟨_,_,_,rfl⟩ ⟨_,_,_,rfl⟩ hF (by rw[hres.out];rfl)
end Go.Proofs.YtiifagiebikmdaaGreatDoor
