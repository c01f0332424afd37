import Derived.Test.YtiifagiebikmdaaGreatDoorW03
import Derived.Test.YtiifagiebikmdaaGreatDoorW00
namespace Go.Proofs.YtiifagiebikmdaaGreatDoor
open Go.RowKit
set_option maxHeartbeats 2000000 in
set_option maxRecDepth 100000 in
theorem alts_all {s:ByteArray}{i:Nat}(hT:∀ j,i≤j→j≤s.size→TypOK s j):AltsOK s i:=by
 intro w X br bz B wg mx ts us zs tv u R
 have hsl:=R.sl
 have start:=alt_start R
 replace start:Hid _:=start
 replace hT:Hid _:=hT
 obtain⟨POST,hPOST⟩:∃ P,Hid (P=AltsPost w X br bz B s i wg mx ts us zs tv u):=⟨_,rfl⟩
 rw[← hPOST.out]
 go_enter Tryz.func71,Tryz.ntmps71
 go_wp2_with fail
 go_loopg [4,5] (s.size+1) (fun n kv mv W=>AltInv w X br bz B s i wg mx ts us zs tv u n kv mv W)
 case atStart=>exact start.out
 case round=>
  clear start
  obtain⟨ds,i',more,kb,sv,tv',u',rfl,rfl,hkb,hfl,hdl,M,hg,hm1,hm2⟩:=hrel
  obtain⟨R1,hb2,hb3,hss,hsn,hst⟩:=id M
  replace M:Hid _:=M
  obtain⟨sa,sn,sc,rfl⟩:=own_slice hss.1
  have hii:i≤i':=by omega
  replace hfl:Hid _:=hfl
  replace hkb:Hid _:=hkb
  replace hb2:Hid _:=hb2
  replace hb3:Hid _:=hb3
  replace hss:Hid _:=hss
  replace hsn:Hid _:=hsn
  have c2:=R1.here.c2
  have o2:=R1.offS (g:=w.heap.size) (.inr (.inl rfl))
  have o3:=R1.offS (g:=w.heap.size+1) (.inr (.inr (.inl rfl)))
  replace o2:Hid _:=o2
  replace o3:Hid _:=o3
  cases more with
  | false=>
   have hpA:=hm2 rfl
   replace hpA:Hid _:=hpA
   clear hm1 hm2
   go_wp2_with (first
    |(go_at_call 40;refine(eat_rep' 41 R1 rfl (by decide)).mono ?_;rintro e w3 ⟨rfl,hE,st3⟩;have B3:=st3.fr.blk hb3.out o3.out;have B2:=st3.fr.blk hb2.out o2.out;have d3:=B3.cell 0;have e3:=B3.cell 1;have d2:=B2.cell 0;have e2:=B2.cell 1;have f2:=B2.thaw 0;have g2:=B2.thaw 1;simp only[List.getElem?_cons_zero,List.getElem?_cons_succ] at d2 d3 e2 e3))
   have q0:((w3.setCell ⟨w.heap.size,0,none⟩ (.int .u8 40)).setCell ⟨w.heap.size,1,none⟩ (.slice sa sn sc)).cell? ⟨w.heap.size,0,none⟩=some (.int .u8 40):=((B2.set 0 (.int .u8 40)).set 1 (.slice sa sn sc)).cell 0
   have q1:((w3.setCell ⟨w.heap.size,0,none⟩ (.int .u8 40)).setCell ⟨w.heap.size,1,none⟩ (.slice sa sn sc)).cell? ⟨w.heap.size,1,none⟩=some (.slice sa sn sc):=((B2.set 0 (.int .u8 40)).set 1 (.slice sa sn sc)).cell 1
   have hF:Fr w3 ((w3.setCell ⟨w.heap.size,0,none⟩ (.int .u8 40)).setCell ⟨w.heap.size,1,none⟩ (.slice sa sn sc)) (fun g=>g=w.heap.size):=Fr.two w3 w.heap.size 0 1 _ _
   generalize (w3.setCell ⟨w.heap.size,0,none⟩ (.int .u8 40)).setCell ⟨w.heap.size,1,none⟩ (.slice sa sn sc)=w4 at *
   refine bodyPost_ret (v:=.agg #[.int .u8 40,.slice sa sn sc]) (by simp[results,Tryz.results71,go_sem,q0,q1]) rfl ?_
   rw[hPOST.out]
   exact alt_end R hpA.out hE hst st3 hss.out hsn.out hF
  | true=>
   have hpA:=hm1 rfl
   clear hm1 hm2
   have hil:=R1.il
   have hpS:=pA_step s i' hil
   have hTi:=hT.out i' hii hil
   have c1:=R1.here.c1
   cases hp:pT s i' with
   | error k=>
    rw[hp] at hpS
    rw[hpS] at hpA
    replace hpA:Hid (pA s i=.error k):=hpA
    have hT':Hid (Calls Tryz.prog 42 #[.pointer (some ⟨br,0,none⟩)] wr fun e w'=>(∃ v:Nat,e=.returned (.int .i64 (v:Int)))∧Hid (∃ mx' ts' us' tv2 u2,Rep w' (fun g=>X g∨g=w.heap.size∨g=w.heap.size+1∨(Value.slice sa sn sc).ownBlock=some g) br bz B s k true wg mx' ts' us' zs tv2 u2∧ts'.length+i'≤k+(ts++flats ts.length ds).length∧Step wr w' br bz tv' u' tv2 u2)):=by
     refine(hTi wr _ br bz B wg _ _ _ zs tv' u' R1).mono ?_
     intro e w' hh
     unfold TypPost at hh
     rw[hp] at hh
     exact hh
    clear hTi hpS hp
    go_wp2_with (first
     |(go_at_call 42;refine hT'.out.mono ?_;rintro e w3 ⟨⟨v,rfl⟩,hR2⟩;obtain⟨mx2,ts2,us2,tv2,u2,R2,hl2,st3⟩:=hR2.out;have c2':=R2.here.c2;have B3:=st3.fr.blk hb3.out o3.out;have B2:=st3.fr.blk hb2.out o2.out;have d3:=B3.cell 0;have e3:=B3.cell 1;have d2:=B2.cell 0;have e2:=B2.cell 1;have f2:=B2.thaw 0;have g2:=B2.thaw 1;simp only[List.getElem?_cons_zero,List.getElem?_cons_succ] at d2 d3 e2 e3))
    have q0:((w3.setCell ⟨w.heap.size,0,none⟩ (.int .u8 40)).setCell ⟨w.heap.size,1,none⟩ (.slice sa sn sc)).cell? ⟨w.heap.size,0,none⟩=some (.int .u8 40):=((B2.set 0 (.int .u8 40)).set 1 (.slice sa sn sc)).cell 0
    have q1:((w3.setCell ⟨w.heap.size,0,none⟩ (.int .u8 40)).setCell ⟨w.heap.size,1,none⟩ (.slice sa sn sc)).cell? ⟨w.heap.size,1,none⟩=some (.slice sa sn sc):=((B2.set 0 (.int .u8 40)).set 1 (.slice sa sn sc)).cell 1
    have hF:Fr w3 ((w3.setCell ⟨w.heap.size,0,none⟩ (.int .u8 40)).setCell ⟨w.heap.size,1,none⟩ (.slice sa sn sc)) (fun g=>g=w.heap.size):=Fr.two w3 w.heap.size 0 1 _ _
    generalize (w3.setCell ⟨w.heap.size,0,none⟩ (.int .u8 40)).setCell ⟨w.heap.size,1,none⟩ (.slice sa sn sc)=w4 at *
    refine bodyPost_ret (v:=.agg #[.int .u8 40,.slice sa sn sc]) (by simp[results,Tryz.results71,go_sem,q0,q1]) rfl ?_
    rw[hPOST.out]
    exact alt_err R hpA.out R2 (by have:=hfl.out;rw[List.length_append] at hl2;omega) hst st3 hss.out hsn.out hF
   | ok q=>
    obtain⟨t,j⟩:=q
    rw[hp] at hpS
    have hcnt:=pT_count hp (ts++flats ts.length ds).length
    have hjb:=(pT_bounds hil).1 t j hp
    have hpl:=pT_place hp
    have hT':Hid (Calls Tryz.prog 42 #[.pointer (some ⟨br,0,none⟩)] wr fun e w'=>e=.returned (.int .i64 (((ts++flats ts.length ds).length+(flat (ts++flats ts.length ds).length t).length-1:Nat):Int))∧Hid (∃ tv2 u2,Rep w' (fun g=>X g∨g=w.heap.size∨g=w.heap.size+1∨(Value.slice sa sn sc).ownBlock=some g) br bz B s j false wg (mix t (mixs [] ds mx)) ((ts++flats ts.length ds)++flat (ts++flats ts.length ds).length t) ((us++usesAll ds)++usesOf t) zs tv2 u2∧Step wr w' br bz tv' u' tv2 u2)):=by
     refine(hTi wr _ br bz B wg _ _ _ zs tv' u' R1).mono ?_
     intro e w' hh
     unfold TypPost at hh
     rw[hp] at hh
     exact hh
    have hkind:=flat_last (ts++flats ts.length ds).length t
    have hpos:=flat_pos (ts++flats ts.length ds).length t
    have hN:∃ N,N=(ts++flats ts.length ds).length+(flat (ts++flats ts.length ds).length t).length-1:=⟨_,rfl⟩
    obtain⟨N,hN⟩:=hN
    rw[← hN] at hT'
    generalize hMX:mix t (mixs [] ds mx)=MX at hT'
    replace hpA:Hid _:=hpA
    replace hpS:Hid _:=hpS
    replace hp:Hid _:=hp
    replace hcnt:Hid _:=hcnt
    replace hpl:Hid _:=hpl
    replace hkind:Hid _:=hkind
    replace hpos:Hid _:=hpos
    replace hN:Hid _:=hN
    replace hMX:Hid _:=hMX
    clear hTi
    have hks:kb.size≤300:=by
     have h1:=congrArg List.length hkb.out
     simp only[List.length_map,Array.length_toList] at h1
     have h2:kb.size=kb.data.size:=rfl
     omega
    have hcv:=fun (W:World) (g:Nat) (c:Int) (h:W.heap.size=g)=>conv_one W g c h
    obtain⟨ti,hi1,hi2,hi3,hi4⟩:=info_parts i_int
    have hnl:(nums ts.length ds).length≤300:=by rw[nums_length];omega
    by_cases hj:bt s j=44
    ·have hjs:j<s.size:=bt_pos (by omega)
     go_wp2_with (first
      |(go_at_call 42;refine hT'.out.mono ?_;rintro e w3 ⟨rfl,hR2⟩;obtain⟨tv2,u2,R2,st3⟩:=hR2.out;have c2':=R2.here.c2;have c3':=R2.here.c3;have c6':=R2.here.c6;have f6':=R2.here.thaw 6;have M3:=M.out.call R2 st3;have e3:∀ x,(w3.alloc x).cell? ⟨w.heap.size+1,1,none⟩=some (.slice sa sn sc):=fun x=>M3.b3.cellAlloc 1 x;have e4:∀ m x,((w3.setCell ⟨br,6,none⟩ (.int .i64 m)).alloc x).cell? ⟨w.heap.size+1,1,none⟩=some (.slice sa sn sc):=fun m x=>(M3.setMx m).b3.cellAlloc 1 x;have own1:=M3.ss.1;have own2:=fun m=>(M3.setMx m).ss.1;replace own1:Hid _:=own1;replace own2:Hid _:=own2;replace M3:Hid _:=M3;obtain⟨g,cap,hcap,hkc,hz0⟩:=kind_cell R2 hN.out hpos.out hkind.out)
      |(go_at_call 99;refine(has_any kb t.kind _ (by omega)).mono ?_;rintro e w' ⟨rfl,rfl⟩)
      |(at_builtin;refine wpList_append_own_at _ rfl _ _ 75 rfl B 3 ti (.int .i64 0) 1 8 u_ints hi1 hi2 hi3 hi4 rfl (by decide) (.slice sa sn sc) (nums ts.length ds).length ((nums ts.length ds).map fun (n:Nat)=>Value.int .i64 (n:Int)) rfl ?hown _ 1 1 [.int .i64 (N:Int)] rfl rfl (news_new _ #[.int .i64 (N:Int)] _ _ ?nn) (ints_oneCell .i64 [(N:Int)]) ?b1 ?b2 ?b3 ?_
        case hown=>first|exact World.ownsRow.alloc (World.ownsRow.alloc own1.out _) _|exact World.ownsRow.alloc (World.ownsRow.alloc (own2.out _) _) _
        case nn=>simp
        case b1=>unfold maxLen;omega
        case b2=>omega
        case b3=>have:=R2.hB;simp;omega
        intro v5 w5 ho5 hg5 hn5 hl5
        first|have M5:=M3.out.grow hg5 ho5 hl5|have M5:=(M3.out.setMx _).grow hg5 ho5 hl5
        first|have E5:=M3.out.growCell hg5|have E5:=(M3.out.setMx _).growCell hg5
        obtain⟨e5,f5⟩:=E5
        obtain⟨g5,cap5,rfl⟩:=own_form ho5 (by omega)
        clear hg5 hl5 hn5
        replace M5:Hid _:=M5)
      |(go_at_call 39;refine(peek_rep M5.out.R hj).mono ?_;rintro e w6 ⟨rfl,hw6⟩;have M6:=M5.out.still hw6;have c1'':=M6.R.here.c1;have f1'':=M6.R.here.thaw 1;replace M6:Hid _:=M6))
     all_goals
      go_roundg (s.size+1-(j+1))
      case measure=>omega
      case rel=>
       first
        | exact alt_next (s.size+1-(j+1)) true (j+1) hp.out hil hkb.out hfl.out hdl hpA.out hN.out (mix_set hkb.out hpl.out hMX.out (by omega)) (M6.out.inc hjs) (Nat.le_refl _) (.inl ⟨rfl,rfl,hj⟩)
        | exact alt_next (s.size+1-(j+1)) true (j+1) hp.out hil hkb.out hfl.out hdl hpA.out hN.out (mix_keep hkb.out hpl.out hMX.out (by omega)) (M6.out.inc hjs) (Nat.le_refl _) (.inl ⟨rfl,rfl,hj⟩)
        |(have hk:t.kind=40:=by omega
          have q:=alt_next (s.size+1-(j+1)) true (j+1) hp.out hil hkb.out hfl.out hdl hpA.out hN.out (mix_set hkb.out hpl.out hMX.out (by omega)) (M6.out.inc hjs) (Nat.le_refl _) (.inl ⟨rfl,rfl,hj⟩)
          rw[hk] at q
          exact q)
        |(have hk:t.kind=40:=by omega
          have q:=alt_next (s.size+1-(j+1)) true (j+1) hp.out hil hkb.out hfl.out hdl hpA.out hN.out (mix_keep hkb.out hpl.out hMX.out (by omega)) (M6.out.inc hjs) (Nat.le_refl _) (.inl ⟨rfl,rfl,hj⟩)
          rw[hk] at q
          exact q)
    ·obtain⟨cj,hcj⟩:∃ c,bt s j=c:=⟨_,rfl⟩
     have hj4:((cj:Int)==44)=false:=by simp;omega
     have hj':Hid (bt s j≠44):=hj
     clear hj
     go_wp2_with (first
      |(go_at_call 42;refine hT'.out.mono ?_;rintro e w3 ⟨rfl,hR2⟩;obtain⟨tv2,u2,R2,st3⟩:=hR2.out;have c2':=R2.here.c2;have c3':=R2.here.c3;have c6':=R2.here.c6;have f6':=R2.here.thaw 6;have M3:=M.out.call R2 st3;have e3:∀ x,(w3.alloc x).cell? ⟨w.heap.size+1,1,none⟩=some (.slice sa sn sc):=fun x=>M3.b3.cellAlloc 1 x;have e4:∀ m x,((w3.setCell ⟨br,6,none⟩ (.int .i64 m)).alloc x).cell? ⟨w.heap.size+1,1,none⟩=some (.slice sa sn sc):=fun m x=>(M3.setMx m).b3.cellAlloc 1 x;have own1:=M3.ss.1;have own2:=fun m=>(M3.setMx m).ss.1;replace own1:Hid _:=own1;replace own2:Hid _:=own2;replace M3:Hid _:=M3;obtain⟨g,cap,hcap,hkc,hz0⟩:=kind_cell R2 hN.out hpos.out hkind.out)
      |(go_at_call 99;refine(has_any kb t.kind _ (by omega)).mono ?_;rintro e w' ⟨rfl,rfl⟩)
      |(at_builtin;refine wpList_append_own_at _ rfl _ _ 75 rfl B 3 ti (.int .i64 0) 1 8 u_ints hi1 hi2 hi3 hi4 rfl (by decide) (.slice sa sn sc) (nums ts.length ds).length ((nums ts.length ds).map fun (n:Nat)=>Value.int .i64 (n:Int)) rfl ?hown _ 1 1 [.int .i64 (N:Int)] rfl rfl (news_new _ #[.int .i64 (N:Int)] _ _ ?nn) (ints_oneCell .i64 [(N:Int)]) ?b1 ?b2 ?b3 ?_
        case hown=>first|exact World.ownsRow.alloc (World.ownsRow.alloc own1.out _) _|exact World.ownsRow.alloc (World.ownsRow.alloc (own2.out _) _) _
        case nn=>simp
        case b1=>unfold maxLen;omega
        case b2=>omega
        case b3=>have:=R2.hB;simp;omega
        intro v5 w5 ho5 hg5 hn5 hl5
        first|have M5:=M3.out.grow hg5 ho5 hl5|have M5:=(M3.out.setMx _).grow hg5 ho5 hl5
        first|have E5:=M3.out.growCell hg5|have E5:=(M3.out.setMx _).growCell hg5
        obtain⟨e5,f5⟩:=E5
        obtain⟨g5,cap5,rfl⟩:=own_form ho5 (by omega)
        clear hg5 hl5 hn5
        replace M5:Hid _:=M5)
      |(go_at_call 39;refine(peek_rep M5.out.R hcj).mono ?_;rintro e w6 ⟨rfl,hw6⟩;have M6:=M5.out.still hw6;have c1'':=M6.R.here.c1;have f1'':=M6.R.here.thaw 1;replace M6:Hid _:=M6))
     all_goals
      go_roundg (s.size+1-j)
      case measure=>omega
      case rel=>
       first
        | exact alt_next (s.size+1-j) false (j) hp.out hil hkb.out hfl.out hdl hpA.out hN.out (mix_set hkb.out hpl.out hMX.out (by omega)) M6.out (Nat.le_refl _) (.inr ⟨rfl,rfl,hj'.out⟩)
        | exact alt_next (s.size+1-j) false (j) hp.out hil hkb.out hfl.out hdl hpA.out hN.out (mix_keep hkb.out hpl.out hMX.out (by omega)) M6.out (Nat.le_refl _) (.inr ⟨rfl,rfl,hj'.out⟩)
        |(have hk:t.kind=40:=by omega
          have q:=alt_next (s.size+1-j) false (j) hp.out hil hkb.out hfl.out hdl hpA.out hN.out (mix_set hkb.out hpl.out hMX.out (by omega)) M6.out (Nat.le_refl _) (.inr ⟨rfl,rfl,hj'.out⟩)
          rw[hk] at q
          exact q)
        |(have hk:t.kind=40:=by omega
          have q:=alt_next (s.size+1-j) false (j) hp.out hil hkb.out hfl.out hdl hpA.out hN.out (mix_keep hkb.out hpl.out hMX.out (by omega)) M6.out (Nat.le_refl _) (.inr ⟨rfl,rfl,hj'.out⟩)
          rw[hk] at q
          exact q)
open Go.RowKit
theorem typ_all (s:ByteArray) (n:Nat):∀ i,i≤s.size→s.size-i≤n→TypOK s i:=by
 induction n with
 | zero=>
  intro i hi hn
  have hb:bt s i=0:=bt_end (by omega)
  exact typ_bad (by rw[hb];decide) (by omega) (by omega) (by omega)
 | succ n ih=>
  intro i hi hn
  by_cases h1:isBase (bt s i)=true
  ·exact typ_base h1
  ·by_cases h2:bt s i=91∨bt s i=123
   ·have:=bt_pos (s:=s) (i:=i) (by omega)
    exact typ_wrap h2 (ih (i+1) (by omega) (by omega))
   ·by_cases h3:bt s i=40
    ·have:=bt_pos (s:=s) (i:=i) (by omega)
     exact typ_paren h3 (alts_all (fun j hj hjs=>ih j hjs (by omega)))
    ·by_cases h4:65≤bt s i∧bt s i≤70
     ·exact typ_name h4
     ·exact typ_bad h1 h2 h3 h4
theorem typ_ok {s:ByteArray}{i:Nat}(hi:i≤s.size):TypOK s i:=typ_all s (s.size-i) i hi (Nat.le_refl _)
open Go.RowKit
theorem has_open (c:Nat):decide (0≤plc ⟨#[40,91,123,60]⟩ c)=opens c:=by
 rw[Bool.eq_iff_iff]
 simp only[decide_eq_true_eq,plc_mem,opens,Bool.or_eq_true,beq_iff_eq]
 simp
 omega
theorem has_close (c:Nat):decide (0≤plc ⟨#[41,93,125,62]⟩ c)=closes c:=by
 rw[Bool.eq_iff_iff]
 simp only[decide_eq_true_eq,plc_mem,closes,Bool.or_eq_true,beq_iff_eq]
 simp
 omega
theorem not_both {c:Nat}(h:opens c=true) (h2:closes c=true):False:=by
 simp only[opens,closes,Bool.or_eq_true,beq_iff_eq] at h h2;omega
def PresetPost (w:World) (X:Nat→Prop) (br bz B:Nat) (s:ByteArray) (i:Nat) (wr mx:Int) (ts:List TR) (us:List (Nat×Nat)) (zs:List Value) (tv u:Value) (e:Ending) (w':World):Prop:=
 Step w w' br bz tv u tv u∧
 match pD s i 0 with
 | some k=>e=.returned (.string (s.extract i k))∧Rep w' X br bz B s k false wr mx ts us zs tv u
 | none=>e=.returned (.string ⟨#[]⟩)∧Rep w' X br bz B s s.size true wr mx ts us zs tv u
def PreInv (w:World) (X:Nat→Prop) (br bz B:Nat) (s:ByteArray) (i:Nat) (wr mx:Int) (ts:List TR) (us:List (Nat×Nat)) (zs:List Value) (tv u:Value) (n:Nat) (ov:Value) (W:World):Prop:=
 ∃ k o:Nat,ov=.int .i64 (o:Int)∧pD s i 0=pD s k o∧i≤k∧o≤k∧Rep W X br bz B s k false wr mx ts us zs tv u∧Step w W br bz tv u tv u∧s.size-k≤n
set_option maxHeartbeats 2000000 in
set_option maxRecDepth 100000 in
theorem preset_rep {w:World}{X:Nat→Prop}{br bz B:Nat}{s:ByteArray}{i:Nat}{wg mx:Int}{ts:List TR}{us:List (Nat×Nat)}{zs:List Value}{tv u:Value}(R:Rep w X br bz B s i false wg mx ts us zs tv u) :
 Calls Tryz.prog 100 #[.pointer (some ⟨br,0,none⟩)] w (PresetPost w X br bz B s i wg mx ts us zs tv u):=by
 have hsl:=R.sl
 have hil:=R.il
 have c1:=R.here.c1
 have start:PreInv w X br bz B s i wg mx ts us zs tv u (s.size-i) (.int .i64 0) w:=⟨i,0,rfl,rfl,Nat.le_refl _,Nat.zero_le _,R,Step.refl _ _ _ _ _,Nat.le_refl _⟩
 replace start:Hid _:=start
 obtain⟨POST,hPOST⟩:∃ P,Hid (P=PresetPost w X br bz B s i wg mx ts us zs tv u):=⟨_,rfl⟩
 rw[← hPOST.out]
 go_enter Tryz.func100,Tryz.ntmps100
 go_wp2_with fail
 clear c1
 go_loopg [4] (s.size-i) (fun n ov W=>PreInv w X br bz B s i wg mx ts us zs tv u n ov W)
 case atStart=>exact start.out
 case round=>
  clear start
  obtain⟨k,o,rfl,hpd,hik,hok,R1,hst,hn⟩:=hrel
  have hkl:=R1.il
  have c0:=R1.here.c0
  have c1:=R1.here.c1
  replace hpd:Hid _:=hpd
  by_cases hk:k<s.size
  ·have hk':(k:Int)<(s.size:Int):=by omega
   obtain⟨c,hc⟩:∃ c,bt s k=c:=⟨_,rfl⟩
   have hbk:((s[k]'hk).toNat:Int)=(c:Int):=by rw[← hc,bt_eq s k hk]
   have hS:=pD_step o hk
   rw[hc,← hpd.out] at hS
   replace hc:Hid _:=hc
   have f1:=R1.here.thaw 1
   by_cases hstop:o=0∧(c=44∨c=41)
   ·rw[if_pos hstop] at hS
    replace hS:Hid (pD s i 0=some k):=hS
    have key:Hid (∀ W,Still wr W→PresetPost w X br bz B s i wg mx ts us zs tv u (.returned (.string (s.extract i k))) W):=by
     intro W hSt
     refine⟨hst.still hSt,?_⟩
     rw[hS.out]
     exact⟨rfl,R1.still hSt⟩
    obtain⟨rfl,hcc⟩:=hstop
    rcases hcc with rfl|rfl
    all_goals
     go_wp2_with fail
     go_quiet (fail)
     go_wp2_with fail
     go_quiet (fail)
     go_wp2_with fail
     go_quiet (fail)
     go_wp2_with fail
     try go_ret
     rw[hPOST.out]
     exact key.out _ (by first|exact Still.drewN _ _|exact(Still.drewN _ _).trans (Still.drewN _ _)|exact((Still.drewN _ _).trans (Still.drewN _ _)).trans (Still.drewN _ _))
   ·rw[if_neg hstop] at hS
    replace hS:Hid _:=hS
    have hpost:Hid (∀ (o':Nat) (W:World),o'=level c o→Still wr W→PreInv w X br bz B s i wg mx ts us zs tv u (s.size-(k+1)) (.int .i64 (o':Int)) (W.setCell ⟨br,1,none⟩ (.int .i64 ((k:Int)+1)))):=by
     intro o' W ho' hW
     have R2:=R1.still hW
     exact⟨k+1,o',rfl,by rw[ho'];exact hS.out,by omega,by rw[ho'];unfold level;split <;> (try split) <;> omega,(R2.inc hk).1,(hst.still hW).trans (R2.inc hk).2,Nat.le_refl _⟩
    have hUp:Hid (opens c=true→∀ W,Still wr W→PreInv w X br bz B s i wg mx ts us zs tv u (s.size-(k+1)) (.int .i64 ((o:Int)+1)) (W.setCell ⟨br,1,none⟩ (.int .i64 ((k:Int)+1)))):=fun h W hW=>hpost.out (o+1) W (by simp[level,h]) hW
    have hDown:Hid (opens c=false→closes c=true→0<o→∀ W,Still wr W→PreInv w X br bz B s i wg mx ts us zs tv u (s.size-(k+1)) (.int .i64 ((o:Int)-1)) (W.setCell ⟨br,1,none⟩ (.int .i64 ((k:Int)+1)))):=fun h h2 h3 W hW=>by
     have q:=hpost.out (o-1) W (by simp[level,h,h2]) hW
     rw[show((o-1:Nat):Int)=(o:Int)-1 by omega] at q
     exact q
    have hSame:Hid (opens c=false→(closes c=false∨o=0)→∀ W,Still wr W→PreInv w X br bz B s i wg mx ts us zs tv u (s.size-(k+1)) (.int .i64 (o:Int)) (W.setCell ⟨br,1,none⟩ (.int .i64 ((k:Int)+1)))):=fun h h2 W hW=>hpost.out o W (by rcases h2 with h2|h2 <;> simp[level,h,h2]) hW
    have hns:Hid (¬ (o=0∧(c=44∨c=41))):=hstop
    clear hstop
    by_cases ho0:o=0
    ·have n0:((o:Int)==0)=true:=by simp;omega
     have hop:(o:Int)≤0:=by omega
     replace ho0:Hid _:=ho0
     have n1:((c:Int)==44)=false:=by have:=hns.out;have:=ho0.out;simp;omega
     have n2:((c:Int)==41)=false:=by have:=hns.out;have:=ho0.out;simp;omega
     cases ho:opens c <;> cases hcl:closes c
     case true.true=>exact(not_both ho hcl).elim
     all_goals
      go_wp2_with fail
      go_quiet (fail)
      go_wp2_with fail
      go_quiet (fail)
      go_wp2_with (go_at_call 99;refine(has_any _ c _ (by decide)).mono ?_;rintro e w' ⟨rfl,rfl⟩;first|rw[has_open]|rw[has_close])
      go_roundg (s.size-(k+1))
      case measure=>omega
      case rel=>first|exact hUp.out ho _ (by first|exact Still.drewN _ _|exact(Still.drewN _ _).trans (Still.drewN _ _)|exact((Still.drewN _ _).trans (Still.drewN _ _)).trans (Still.drewN _ _))|exact hSame.out ho (.inl hcl) _ (by first|exact Still.drewN _ _|exact(Still.drewN _ _).trans (Still.drewN _ _)|exact((Still.drewN _ _).trans (Still.drewN _ _)).trans (Still.drewN _ _))|exact hSame.out ho (.inr ho0.out) _ (by first|exact Still.drewN _ _|exact(Still.drewN _ _).trans (Still.drewN _ _)|exact((Still.drewN _ _).trans (Still.drewN _ _)).trans (Still.drewN _ _))
    ·have hop:(0:Int)<(o:Int):=by omega
     have hoN:Hid (0<o):=by show 0<o;omega
     have n0:((o:Int)==0)=false:=by simp;omega
     have hob:(o:Int)≤300:=by omega
     cases ho:opens c <;> cases hcl:closes c
     case true.true=>exact(not_both ho hcl).elim
     all_goals
      go_wp2_with fail
      go_quiet (fail)
      go_wp2_with fail
      go_quiet (fail)
      go_wp2_with (go_at_call 99;refine(has_any _ c _ (by decide)).mono ?_;rintro e w' ⟨rfl,rfl⟩;first|rw[has_open]|rw[has_close])
      go_roundg (s.size-(k+1))
      case measure=>omega
      case rel=>first|exact hUp.out ho _ (by first|exact Still.drewN _ _|exact(Still.drewN _ _).trans (Still.drewN _ _)|exact((Still.drewN _ _).trans (Still.drewN _ _)).trans (Still.drewN _ _))|exact hDown.out ho hcl hoN.out _ (by first|exact Still.drewN _ _|exact(Still.drewN _ _).trans (Still.drewN _ _)|exact((Still.drewN _ _).trans (Still.drewN _ _)).trans (Still.drewN _ _))|exact hSame.out ho (.inl hcl) _ (by first|exact Still.drewN _ _|exact(Still.drewN _ _).trans (Still.drewN _ _)|exact((Still.drewN _ _).trans (Still.drewN _ _)).trans (Still.drewN _ _))
  ·have hk':¬ (k:Int)<(s.size:Int):=by omega
   have f2:=R1.here.thaw 2
   have c2:=R1.here.c2
   go_wp2_with fail
   go_quiet (fail)
   go_wp2_with fail
   try go_ret
   rw[hPOST.out]
   have hSt:=Still.drewN wr nq
   have hks:k=s.size:=by omega
   have R2:=R1.still hSt
   refine⟨(hst.still hSt).trans R2.spoil.2,?_⟩
   rw[hpd.out,pD_end (by omega)]
   exact⟨rfl,by rw[← hks];exact R2.spoil.1⟩
open Go.RowKit
def SmallRep (w:World) (X:Nat→Prop) (br bz B:Nat) (s:ByteArray) (i:Nat) (wr mx:Int) (ts:List TR) (us:List (Nat×Nat)) (zs:List Value) (tv u:Value) (w':World):Prop:=
 (if isSmall (bt s i)=true then Rep w' X br bz B s (i+1) false wr mx ts us zs tv u else Rep w' X br bz B s i true wr mx ts us zs tv u)∧Step w w' br bz tv u tv u
theorem small_rep {w:World}{X:Nat→Prop}{br bz B:Nat}{s:ByteArray}{i:Nat}{wr mx:Int}{ts:List TR}{us:List (Nat×Nat)}{zs:List Value}{tv u:Value}(R:Rep w X br bz B s i false wr mx ts us zs tv u) :
 Calls Tryz.prog 98 #[.pointer (some ⟨br,0,none⟩)] w fun e w'=>e=.returned (.int .u8 ((if isSmall (bt s i)=true then bt s i else 0:Nat):Int))∧SmallRep w X br bz B s i wr mx ts us zs tv u w':=by
 have h1:=R.il
 have h2:=R.sl
 refine(small_any R.here R.sl (by simp only;omega)).mono ?_
 rintro e w' ⟨rfl,ha,hf⟩
 unfold SmallRep
 unfold RV.small at ha
 unfold RV.smallR
 simp only[pk_bt] at ha⊢
 by_cases hb:isSmall (bt s i)=true
 ·have hb':97≤(bt s i:Int)∧(bt s i:Int)≤122:=by simp only[isSmall,Bool.and_eq_true,decide_eq_true_eq] at hb;omega
  rw[if_pos hb'] at ha⊢
  rw[if_pos hb,if_pos hb]
  exact⟨rfl,R.move hf ha (by omega) (bt_pos (isSmall_pos hb))⟩
 ·have hb':¬ (97≤(bt s i:Int)∧(bt s i:Int)≤122):=by simp only[isSmall,Bool.and_eq_true,decide_eq_true_eq] at hb;omega
  rw[if_neg hb'] at ha⊢
  rw[if_neg hb,if_neg hb]
  exact⟨rfl,R.move hf ha (by omega) h1⟩
def firstOf (a:Int) (m:Int):Int:=if m<0∨a<m then a else m
def WrongRep (w:World) (X:Nat→Prop) (br bz B:Nat) (s:ByteArray) (i:Nat) (bad:Bool) (wr mx:Int) (ts:List TR) (us:List (Nat×Nat)) (zs:List Value) (tv u:Value) (p:Int) (w':World):Prop:=
 Rep w' X br bz B s i bad (firstOf p wr) mx ts us zs tv u∧Step w w' br bz tv u tv u
theorem wrong_rep {w:World}{X:Nat→Prop}{br bz B:Nat}{s:ByteArray}{i:Nat}{bad:Bool}{wr mx:Int}{ts:List TR}{us:List (Nat×Nat)}{zs:List Value}{tv u:Value}{p:Int}(R:Rep w X br bz B s i bad wr mx ts us zs tv u) :
 Calls Tryz.prog 24 #[.pointer (some ⟨br,0,none⟩),.int .i64 p] w fun e w'=>e=.returned (.tuple #[])∧WrongRep w X br bz B s i bad wr mx ts us zs tv u p w':=by
 refine(wrong_any R.here).mono ?_
 rintro e w' ⟨rfl,ha,hf⟩
 refine⟨rfl,?_⟩
 refine R.move hf ?_ (Nat.le_refl _) R.il
 unfold RV.wrong at ha
 unfold firstOf
 simp only at ha
 split at ha
 ·rename_i h;rw[if_pos h];exact ha
 ·rename_i h;rw[if_neg h];exact ha
theorem peek_spoilt {w:World}{X:Nat→Prop}{br bz B:Nat}{s:ByteArray}{i:Nat}{wr mx:Int}{ts:List TR}{us:List (Nat×Nat)}{zs:List Value}{tv u:Value}(R:Rep w X br bz B s i true wr mx ts us zs tv u) :
 Calls Tryz.prog 39 #[.pointer (some ⟨br,0,none⟩)] w fun e w'=>e=.returned (.int .u8 0)∧Still w w':=by
 have h1:=R.il
 have h2:=R.sl
 refine(peek_any R.here R.sl (by simp only;omega)).mono ?_
 rintro e w' ⟨rfl,hw⟩
 exact⟨by simp[pk],hw⟩
def fcells (s:ByteArray) (f:PF) (num:Nat):List Value:=
 [.int .u8 (f.letter:Int),.int .i64 (num:Int),.bool f.dflt.isSome,.int .i64 ((f.dflt.map Prod.fst).getD 0:Nat),.string (match f.dflt with|none=>⟨#[]⟩|some (a,b)=>s.extract a b),
  .int .u8 0,.int .i64 0,.string ⟨#[]⟩,.slice none 0 0,.slice none 0 0]
def recCells (s:ByteArray) (b:Nat) (ds:List PF):List Value:=(List.zipWith (fcells s) ds (nums b (ds.map PF.ty))).flatten
theorem recCells_snoc (s:ByteArray) (b:Nat) (ds:List PF) (f:PF):recCells s b (ds++[f])=recCells s b ds++fcells s f (b+(flats b (ds.map PF.ty)).length+(flat (b+(flats b (ds.map PF.ty)).length) f.ty).length-1):=by
 unfold recCells
 rw[List.map_append]
 simp only[List.map_cons,List.map_nil]
 rw[nums_snoc,List.zipWith_append (by rw[nums_length,List.length_map]),List.flatten_append]
 simp
def wrF (seen:List Nat):List PF→Int→Int
 | [],m=>m
 | f::r,m=>wrF (seen++[f.letter]) r (if f.letter∈seen then firstOf f.place m else m)
theorem wrF_snoc (seen:List Nat) (ds:List PF) (f:PF) (m:Int):wrF seen (ds++[f]) m=if f.letter∈seen++ds.map PF.letter then firstOf f.place (wrF seen ds m) else wrF seen ds m:=by
 induction ds generalizing seen m with
 | nil=>simp[wrF]
 | cons d r ih=>simp[wrF,ih]
def mixF (ds:List PF) (m:Int):Int:=ds.foldl (fun m f=>mix f.ty m) m
theorem mixF_snoc (ds:List PF) (f:PF) (m:Int):mixF (ds++[f]) m=mix f.ty (mixF ds m):=by simp[mixF]
def contF (s:ByteArray) (ds:List PF) (j:Nat):Except Nat (List PF×Nat):=
 if bt s j=41 then .ok (ds,j+1) else if bt s j=44 then aheadF ds (pFields s (j+1)) else .error j
theorem ahead_pFields (s:ByteArray) (ds:List PF) (i:Nat) (hi:i≤s.size):aheadF ds (pFields s i) =
 match pField s i with
 | .error k=>.error k
 | .ok (f,j)=>contF s (ds++[f]) j:=by
 rw[pFields_step s i hi]
 cases pField s i with
 | error k=>rfl
 | ok r=>
  obtain⟨f,j⟩:=r
  simp only[contF]
  split
  ·rfl
  ·split
   ·rw[aheadF_aheadF]
   ·rfl
end Go.Proofs.YtiifagiebikmdaaGreatDoor
