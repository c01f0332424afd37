import Derived.Test.YtiifagiebikmdaaGreatDoorW05
import Derived.Deep.DeepCutAuto
import Derived.Test.YtiifagiebikmdaaGreatDoorW00
namespace Go.Proofs.YtiifagiebikmdaaGreatDoor
open Go.RowKit
theorem rec_start {w:World}{X:Nat→Prop}{br bz B:Nat}{s:ByteArray}{i:Nat}{wg mx:Int}{ts:List TR}{us:List (Nat×Nat)}{zs:List Value}{tv u:Value}(R:Rep w X br bz B s i false wg mx ts us zs tv u) :
 RM w X br bz B s i false wg mx ts us zs tv u tv u (.slice none 0 0) 0 [] (fun _=>False) ((w.alloc (.cells zeroDef.toArray 44)).alloc (.cells (recDef (.slice none 0 0)).toArray 44)):=by
 have h1:=R.out (((Fr.refl w X).alloc (.cells zeroDef.toArray 44)).alloc (.cells (recDef (.slice none 0 0)).toArray 44))
 refine⟨h1.fewer (fun g hg=>?_),(Blk.new w _ _).alloc _,?_,World.ownsRow_nil _ _ _ _,fun g hg=>by simp[Value.ownBlock] at hg,fun g hg=>hg.elim,⟨((Fr.refl w _).alloc _).alloc _,.inl rfl,.inl rfl⟩⟩
 ·rcases hg with hg|hg|hg|hg|hg
  ·exact .inl hg
  ·exact .inr (by simp;omega)
  ·exact .inr (by simp;omega)
  ·simp[Value.ownBlock] at hg
  ·exact hg.elim
 ·have:=Blk.new (w.alloc (.cells zeroDef.toArray 44)) (recDef (.slice none 0 0)).toArray 44
  simpa using this
theorem rec_result {w W W':World}{X:Nat→Prop}{br bz B:Nat}{s:ByteArray}{j:Nat}{bad:Bool}{wg MX:Int}{TS:List TR}{US:List (Nat×Nat)}{zs:List Value}{tv u tv2 u2 fv:Value}{n:Nat}{xs:List Value}{i:Nat}{wr mx:Int}{ts:List TR}{us:List (Nat×Nat)}
 (M:RM w X br bz B s j bad wg MX TS US zs tv u tv2 u2 fv n xs (fun _=>False) W) (hF:Fr W W' (fun g=>g=w.heap.size))
 (h:match pRecord s i with
  | .ok (ds,j')=>j=j'∧bad=false∧n=ds.length∧xs=recCells s ts.length ds∧wg=wrF [] ds wr∧MX=mixF ds mx∧TS=ts++flats ts.length (ds.map PF.ty)∧US=us++usesAll (ds.map PF.ty)
  | .error k=>j=k∧bad=true) :
 RecPost w X br bz B s i wr mx ts us zs tv u (.returned (.agg (recDef fv).toArray)) W':=by
 have hR:=(M.R.out (hF.mono (fun _ _ e=>.inr (.inl e)))).fewer (Y:=fun g=>X g∨fv.ownBlock=some g) (fun g hg=>by
  rcases hg with e|e
  ·exact .inl (.inl e)
  ·exact .inl (.inr (.inr (.inr (.inl e)))))
 refine⟨fv,n,xs,tv2,u2,rfl,M.st.out hF (fun g hg=>by omega),ownsRow_fr M.own hF (fun g hg e=>by have:=M.sn g hg;omega),fun g hg=>?_,?_⟩
 ·have:=M.sn g hg
  have h2:=M.R.av g (.inr (.inr (.inr (.inl hg))))
  exact⟨by omega,h2.2.2.2.1,h2.2.2.2.2⟩
 ·cases hp:pRecord s i with
  | error k=>
   rw[hp] at h
   obtain⟨rfl,rfl⟩:=h
   exact⟨_,_,_,_,hR⟩
  | ok q=>
   obtain⟨ds,j'⟩:=q
   rw[hp] at h
   obtain⟨rfl,rfl,rfl,rfl,rfl,rfl,rfl,rfl⟩:=h
   exact⟨rfl,rfl,hR⟩
theorem Fr.five (w:World) (b:Nat) (v0 v1 v2 v3 v4:Value):Fr w (((((w.setCell ⟨b,0,none⟩ v0).setCell ⟨b,1,none⟩ v1).setCell ⟨b,2,none⟩ v2).setCell ⟨b,3,none⟩ v3).setCell ⟨b,4,none⟩ v4) (fun g=>g=b):=
 (((((Fr.refl w (fun g=>g=b)).setCell ⟨b,0,none⟩ v0 (fun _=>rfl)).setCell ⟨b,1,none⟩ v1 (fun _=>rfl)).setCell ⟨b,2,none⟩ v2 (fun _=>rfl)).setCell ⟨b,3,none⟩ v3 (fun _=>rfl)).setCell ⟨b,4,none⟩ v4 (fun _=>rfl)
theorem Blk.five {w:World}{b t:Nat}{u0 u1 u2 u3 u4:Value}(h:Blk w b [u0,u1,u2,u3,u4] t) (v0 v1 v2 v3 v4:Value):Blk (((((w.setCell ⟨b,0,none⟩ v0).setCell ⟨b,1,none⟩ v1).setCell ⟨b,2,none⟩ v2).setCell ⟨b,3,none⟩ v3).setCell ⟨b,4,none⟩ v4) b [v0,v1,v2,v3,v4] t:=
 ((((h.set 0 v0).set 1 v1).set 2 v2).set 3 v3).set 4 v4
def RecCut (RES:Except Nat (List PF×Nat)) (w:World) (X:Nat→Prop) (br bz B:Nat) (s:ByteArray) (i:Nat) (wr mx:Int) (ts:List TR) (us:List (Nat×Nat)) (zs:List Value) (tv u tv2 u2 fv:Value) (ds:List PF) (j:Nat) (W:World):Prop:=
 ∃ p,RM w X br bz B s p false (wrF [] ds wr) (mixF ds mx) (ts++flats ts.length (ds.map PF.ty)) (us++usesAll (ds.map PF.ty)) zs tv u tv2 u2 fv ds.length (recCells s ts.length ds) (fun _=>False) W∧
  j≤p∧i+ds.length≤p∧RES=aheadF ds (pFields s p)
theorem rec_end {s:ByteArray}{i j:Nat}{ds:List PF}{RES:Except Nat (List PF×Nat)}(h:(ds=[]∧j=i∧RES=recRes s i)∨(ds≠[]∧RES=contF s ds j)) (h41:bt s j=41):RES=.ok (ds,j+1):=by
 rcases h with⟨rfl,rfl,rfl⟩|⟨_,rfl⟩
 ·unfold recRes;rw[if_pos h41]
 ·unfold contF;rw[if_pos h41]
theorem rec_next {s:ByteArray}{i j:Nat}{ds:List PF}{RES:Except Nat (List PF×Nat)}(h:(ds=[]∧j=i∧RES=recRes s i)∨(ds≠[]∧RES=contF s ds j)) (h41:bt s j≠41) :
 (ds=[]→RES=aheadF ds (pFields s j))∧(ds≠[]→bt s j=44→RES=aheadF ds (pFields s (j+1)))∧(ds≠[]→bt s j≠44→RES=.error j):=by
 rcases h with⟨rfl,rfl,rfl⟩|⟨h,rfl⟩
 ·exact⟨fun _=>by unfold recRes;rw[if_neg h41,aheadF_nil],fun h=>(h rfl).elim,fun h=>(h rfl).elim⟩
 ·exact⟨fun e=>(h e).elim,fun _ h44=>by unfold contF;rw[if_neg h41,if_pos h44],fun _ h44=>by unfold contF;rw[if_neg h41,if_neg h44]⟩
theorem u_Fields:Tryz.prog.underlying 42=some (.slice 80):=by kernel_rfl
theorem i_Field:(Tryz.prog.info? 80).map (fun i=>(i.zero,i.size,i.bytes))=some (some (.agg (Fc 0 0 false 0 ⟨#[]⟩).toArray),10,128):=by kernel_rfl
set_option maxHeartbeats 4000000 in
set_option maxRecDepth 100000 in
theorem record_rep {w:World}{X:Nat→Prop}{br bz B:Nat}{s:ByteArray}{i:Nat}{wg mx:Int}{ts:List TR}{us:List (Nat×Nat)}{zs:List Value}{tv u:Value}(R:Rep w X br bz B s i false wg mx ts us zs tv u) :
 Calls Tryz.prog 68 #[.pointer (some ⟨br,0,none⟩)] w (RecPost w X br bz B s i wg mx ts us zs tv u):=by
 have hsl:=R.sl
 have hil:=R.il
 have M0:=rec_start R
 replace M0:=hide M0
 obtain⟨POST,hPOST⟩:∃ P,Hid (P=RecPost w X br bz B s i wg mx ts us zs tv u):=⟨_,rfl⟩
 rw[← hPOST.out]
 go_enter Tryz.func68,Tryz.ntmps68
 go_wp2_with (go_at_call 40;refine(eat_rep' 40 M0.out.R rfl (by decide)).mono ?_;rintro e w1 ⟨rfl,hE,st1⟩)
 have start:RecInv (pRecord s i) w X br bz B s (i+1) wg mx ts us zs tv u (s.size+3) (.string ⟨#[]⟩) w1:=by
  refine⟨⟨#[]⟩,.slice none 0 0,tv,u,rfl,by decide,?_⟩
  unfold pRecord
  by_cases h40:bt s i=40
  ·rw[if_pos h40] at hE⊢
   refine .inl ⟨[],i+1,?_,rfl,by simp,by omega,.inl ⟨rfl,rfl,rfl⟩⟩
   have:=M0.out.call hE st1
   simpa[wrF,mixF,flats,usesAll,recCells] using this
  ·rw[if_neg h40] at hE⊢
   exact .inr ⟨i,_,_,_,_,_,_,M0.out.call hE st1,rfl⟩
 replace start:=hide start
 clear hE
 go_loopg [4] (s.size+3) (fun m kv W=>RecInv (pRecord s i) w X br bz B s (i+1) wg mx ts us zs tv u m kv W)
 case atStart=>exact start.out
 case round=>
  clear start
  obtain⟨kb,fv,tv',u',rfl,hkbs,hA|hC⟩:=hrel
  ·obtain⟨ds,j,M,hkb,hij,hm,hcase⟩:=hA
   obtain⟨sa,sn,sc,rfl⟩:=own_slice M.own
   have hjl:=M.R.il
   have c2:=M.R.here.c2
   have c1:=M.R.here.c1
   have f1:=M.R.here.thaw 1
   have hkl:ds=[]∧kb.size=0∨ds≠[]∧0<kb.size:=by
    have h1:=congrArg List.length hkb
    simp only[List.length_map,Array.length_toList] at h1
    have h2:kb.size=kb.data.size:=rfl
    cases ds with
    | nil=>exact .inl ⟨rfl,by simp only[List.length_nil] at h1;omega⟩
    | cons d r=>exact .inr ⟨by simp,by simp only[List.length_cons] at h1;omega⟩
   replace hkb:=hide hkb
   replace M:=hide M
   replace hcase:=hide hcase
   by_cases h41:bt s j=41
   ·have hjs:j<s.size:=bt_pos (by omega)
    have hres:=rec_end hcase.out h41
    replace hres:=hide hres
    rcases hkl with⟨hds,hk0⟩|⟨hds,hk0⟩
    ·clear hds
     have hk0':decide ((0:Int)<(kb.size:Int))=false:=decide_eq_false (by omega)
     go_wp2_with (first
      |(go_at_call 39;refine(peek_rep M.out.R h41).mono ?_;rintro e w2 ⟨rfl,hw2⟩;have M2:=M.out.still hw2;have c2':=M2.R.here.c2;replace M2:=hide M2)
      |(go_at_call 40;refine(eat_rep' 41 M2.out.R rfl (by decide)).mono ?_;rintro e w3 ⟨rfl,hE,st3⟩;rw[if_pos h41] at hE;have M3:=M2.out.call hE st3;have t0:=M3.b3.cell 0;have t1:=M3.b3.cell 1;have t2:=M3.b3.cell 2;have t3:=M3.b3.cell 3;have t4:=M3.b3.cell 4;have r0:=M3.b2.cell 0;have r1:=M3.b2.cell 1;have r2:=M3.b2.cell 2;have r3:=M3.b2.cell 3;have r4:=M3.b2.cell 4;have g0:=M3.b2.thaw 0;have g1:=M3.b2.thaw 1;have g2:=M3.b2.thaw 2;have g3:=M3.b2.thaw 3;have g4:=M3.b2.thaw 4;simp only[recDef,zeroDef,List.getElem?_cons_zero,List.getElem?_cons_succ] at t0 t1 t2 t3 t4 r0 r1 r2 r3 r4;replace M3:=hide M3))
     have L:=Blk.five M3.out.b2 (.int .u8 114) (.slice sa sn sc) (.string ⟨#[]⟩) (.int .i64 (-1)) (.int .i64 0)
     have q0:=L.cell 0
     have q1:=L.cell 1
     have q2:=L.cell 2
     have q3:=L.cell 3
     have q4:=L.cell 4
     simp only[List.getElem?_cons_zero,List.getElem?_cons_succ] at q0 q1 q2 q3 q4
     have hF:=Fr.five w3 w.heap.size (.int .u8 114) (.slice sa sn sc) (.string ⟨#[]⟩) (.int .i64 (-1)) (.int .i64 0)
     generalize (((((World.setCell w3 ⟨w.heap.size,0,none⟩ (.int .u8 114)).setCell ⟨w.heap.size,1,none⟩ (.slice sa sn sc)).setCell ⟨w.heap.size,2,none⟩ (.string ⟨#[]⟩)).setCell ⟨w.heap.size,3,none⟩ (.int .i64 (-1))).setCell ⟨w.heap.size,4,none⟩ (.int .i64 0))=W5 at *
     refine bodyPost_ret (v:=.agg (recDef (.slice sa sn sc)).toArray) (by simp[results,Tryz.results68,go_sem,q0,q1,q2,q3,q4,recDef]) rfl ?_
     rw[hPOST.out]
     exact rec_result M3.out hF (by rw[hres.out];exact⟨rfl,rfl,rfl,rfl,rfl,rfl,rfl,rfl⟩)
    ·clear hds
     have hk0':(0:Int)<(kb.size:Int):=by omega
     go_wp2_with (first
      |(go_at_call 39;refine(peek_rep M.out.R h41).mono ?_;rintro e w2 ⟨rfl,hw2⟩;have M2:=M.out.still hw2;replace M:=M2;have c2:=M2.R.here.c2;have c1:=M2.R.here.c1;have f1:=M2.R.here.thaw 1;have c1:=M2.R.here.c1;have M3:=M2.inc hjs;have t0:=M3.b3.cell 0;have t1:=M3.b3.cell 1;have t2:=M3.b3.cell 2;have t3:=M3.b3.cell 3;have t4:=M3.b3.cell 4;have r0:=M3.b2.cell 0;have r1:=M3.b2.cell 1;have r2:=M3.b2.cell 2;have r3:=M3.b2.cell 3;have r4:=M3.b2.cell 4;have g0:=M3.b2.thaw 0;have g1:=M3.b2.thaw 1;have g2:=M3.b2.thaw 2;have g3:=M3.b2.thaw 3;have g4:=M3.b2.thaw 4;simp only[recDef,zeroDef,List.getElem?_cons_zero,List.getElem?_cons_succ] at t0 t1 t2 t3 t4 r0 r1 r2 r3 r4;replace M3:=hide M3;replace M:=hide M))
     have L:=Blk.five M3.out.b2 (.int .u8 114) (.slice sa sn sc) (.string ⟨#[]⟩) (.int .i64 (-1)) (.int .i64 0)
     have q0:=L.cell 0
     have q1:=L.cell 1
     have q2:=L.cell 2
     have q3:=L.cell 3
     have q4:=L.cell 4
     simp only[List.getElem?_cons_zero,List.getElem?_cons_succ] at q0 q1 q2 q3 q4
     have hF:=Fr.five (w2.setCell ⟨br,1,none⟩ (.int .i64 ((j:Int)+1))) w.heap.size (.int .u8 114) (.slice sa sn sc) (.string ⟨#[]⟩) (.int .i64 (-1)) (.int .i64 0)
     generalize (((((World.setCell (w2.setCell ⟨br,1,none⟩ (.int .i64 ((j:Int)+1))) ⟨w.heap.size,0,none⟩ (.int .u8 114)).setCell ⟨w.heap.size,1,none⟩ (.slice sa sn sc)).setCell ⟨w.heap.size,2,none⟩ (.string ⟨#[]⟩)).setCell ⟨w.heap.size,3,none⟩ (.int .i64 (-1))).setCell ⟨w.heap.size,4,none⟩ (.int .i64 0))=W5 at *
     refine bodyPost_ret (v:=.agg (recDef (.slice sa sn sc)).toArray) (by simp[results,Tryz.results68,go_sem,q0,q1,q2,q3,q4,recDef]) rfl ?_
     rw[hPOST.out]
     exact rec_result M3.out hF (by rw[hres.out];exact⟨rfl,rfl,rfl,rfl,rfl,rfl,rfl,rfl⟩)
   ·obtain⟨cj,hcj⟩:∃ c,bt s j=c:=⟨_,rfl⟩
    have hnx:=rec_next hcase.out h41
    have n41:((cj:Int) != 41)=true:=by simp;omega
    have m41:((cj:Int)==41)=false:=by simp;omega
    replace hnx:=hide hnx
    replace hcj:=hide hcj
    replace hkl:=hide hkl
    clear h41
    go_upto_if 27 with(go_at_call 39;refine(peek_rep M.out.R hcj.out).mono ?_;rintro e w2 ⟨rfl,hw2⟩;have M2:=M.out.still hw2;replace M2:=hide M2)
    go_cut [] (fun W=>RecCut (pRecord s i) w X br bz B s (i+1) wg mx ts us zs tv u tv' u' (.slice sa sn sc) ds j W)
    case first=>
     rcases hkl.out with⟨hds,hk0⟩|⟨hds,hk0⟩
     ·have hk0':decide (0<kb.size)=false:=decide_eq_false (by omega)
      have hd:Hid (pRecord s i=aheadF ds (pFields s j)):=hnx.out.1 hds
      clear hds
      go_wp2_with fail
      go_meet
      case rel=>exact⟨j,M2.out,Nat.le_refl _,hij,hd.out⟩
     ·by_cases h44:bt s j=44
      ·have hjs:j<s.size:=bt_pos (by omega)
       have hd:Hid (pRecord s i=aheadF ds (pFields s (j+1))):=hnx.out.2.1 hds h44
       clear hds
       go_wp2_with (first
        |(go_at_call 39;refine(peek_rep M2.out.R hcj.out).mono ?_;rintro e w3 ⟨rfl,hw3⟩;have M3:=M2.out.still hw3;replace M3:=hide M3)
        |(go_at_call 40;refine(eat_rep' 44 M3.out.R rfl (by decide)).mono ?_;rintro e w4 ⟨rfl,hE,st4⟩;rw[if_pos h44] at hE;have M4:=M3.out.call hE st4;have c24:=M4.R.here.c2;replace M4:=hide M4))
       go_meet
       case rel=>exact⟨j+1,M4.out,by omega,by omega,hd.out⟩
      ·have hd:Hid (pRecord s i=.error j):=hnx.out.2.2 hds h44
       clear hds
       go_wp2_with (first
        |(go_at_call 39;refine(peek_rep M2.out.R hcj.out).mono ?_;rintro e w3 ⟨rfl,hw3⟩;have M3:=M2.out.still hw3;replace M3:=hide M3)
        |(go_at_call 40;refine(eat_rep' 44 M3.out.R rfl (by decide)).mono ?_;rintro e w4 ⟨rfl,hE,st4⟩;rw[if_neg h44] at hE;have M4:=M3.out.call hE st4;have c24:=M4.R.here.c2;have t0:=M4.b3.cell 0;have t1:=M4.b3.cell 1;have t2:=M4.b3.cell 2;have t3:=M4.b3.cell 3;have t4:=M4.b3.cell 4;have r0:=M4.b2.cell 0;have r1:=M4.b2.cell 1;have r2:=M4.b2.cell 2;have r3:=M4.b2.cell 3;have r4:=M4.b2.cell 4;have g0:=M4.b2.thaw 0;have g1:=M4.b2.thaw 1;have g2:=M4.b2.thaw 2;have g3:=M4.b2.thaw 3;have g4:=M4.b2.thaw 4;simp only[recDef,zeroDef,List.getElem?_cons_zero,List.getElem?_cons_succ] at t0 t1 t2 t3 t4 r0 r1 r2 r3 r4;replace M4:=hide M4))
       have L:=Blk.five M4.out.b2 (.int .u8 114) (.slice sa sn sc) (.string ⟨#[]⟩) (.int .i64 (-1)) (.int .i64 0)
       have q0:=L.cell 0
       have q1:=L.cell 1
       have q2:=L.cell 2
       have q3:=L.cell 3
       have q4:=L.cell 4
       simp only[List.getElem?_cons_zero,List.getElem?_cons_succ] at q0 q1 q2 q3 q4
       have hF:=Fr.five w4 w.heap.size (.int .u8 114) (.slice sa sn sc) (.string ⟨#[]⟩) (.int .i64 (-1)) (.int .i64 0)
       generalize (((((World.setCell w4 ⟨w.heap.size,0,none⟩ (.int .u8 114)).setCell ⟨w.heap.size,1,none⟩ (.slice sa sn sc)).setCell ⟨w.heap.size,2,none⟩ (.string ⟨#[]⟩)).setCell ⟨w.heap.size,3,none⟩ (.int .i64 (-1))).setCell ⟨w.heap.size,4,none⟩ (.int .i64 0))=W5 at *
       refine bodyPost_ret (v:=.agg (recDef (.slice sa sn sc)).toArray) (by simp[results,Tryz.results68,go_sem,q0,q1,q2,q3,q4,recDef]) rfl ?_
       rw[hPOST.out]
       exact rec_result M4.out hF (by rw[hd.out];exact⟨rfl,rfl⟩)
    case rest=>
     clear hij c1 c2 f1 hnx hkl m41 n41 hcj M2 M hcase
     obtain⟨p,M,hjp,hip,hres⟩:=hcut
     have hpl:=M.R.il
     have c1:=M.R.here.c1
     obtain⟨l,hl⟩:∃ l:Nat,Hid (l=if isSmall (bt s p)=true then bt s p else 0):=⟨_,rfl⟩
     replace M:=hide M
     replace hres:=hide hres
     go_upto_region 15 with(go_at_call 98;refine(small_rep (M.out.mine (.cells (Fc 0 0 false 0 ⟨#[]⟩).toArray 80)).R).mono ?_;rintro e w3 ⟨rfl,hS⟩;rw[← hl.out];obtain⟨j3,bad3,R3,st3,h3⟩:=hS.any;have M3:=(M.out.mine (.cells (Fc 0 0 false 0 ⟨#[]⟩).toArray 80)).call R3 st3;have F3:=(M.out.mine (.cells (Fc 0 0 false 0 ⟨#[]⟩).toArray 80)).keep st3 rfl (Blk.new wc _ _);have k0:=F3.cell 0;have m0:=F3.thaw 0;simp only[Fc,List.getElem?_cons_zero] at k0;replace M3:=hide M3;replace F3:=hide F3)
     have M4:=M3.out.put wc.heap.size 0 (.int .u8 (l:Int)) rfl
     have F4:Blk (w3.setCell ⟨wc.heap.size,0,none⟩ (.int .u8 (l:Int))) wc.heap.size (Fc l 0 false 0 ⟨#[]⟩) 80:=Blk.set F3.out 0 (.int .u8 (l:Int))
     clear k0 m0 M3 F3 c1
     generalize w3.setCell ⟨wc.heap.size,0,none⟩ (.int .u8 (l:Int))=W4 at *
     generalize wc.heap.size=bf at *
     have k0:=F4.cell 0
     have c2:=M4.R.here.c2
     simp only[Fc,List.getElem?_cons_zero] at k0
     replace M4:=hide M4
     replace F4:=hide F4
     go_cut [64] (fun s64 W=>s64=.bool (decide (0≤plc kb l) && !bad3)∧W=W4)
     case first=>
      cases hh:decide (0≤plc kb l)
      all_goals
       go_wp2_with (go_at_call 99;refine(has_any kb l _ (by omega)).mono ?_;rintro e w' ⟨rfl,rfl⟩;rw[hh])
       go_meet
       case rel=>exact⟨by rw[hh];rfl,rfl⟩
     case rest=>
      obtain⟨rfl,rfl⟩:=hcut
      obtain⟨D,hD⟩:∃ D,D=(decide (0≤plc kb l) && !bad3):=⟨_,rfl⟩
      rw[← hD]
      replace hD:=hide hD
      go_upto_if 64 with fail
      go_cut [] (fun W=>∃ wg',RM w X br bz B s j3 bad3 wg' (mixF ds mx) (ts++flats ts.length (ds.map PF.ty)) (us++usesAll (ds.map PF.ty)) zs tv u tv' u' (.slice sa sn sc) ds.length (recCells s ts.length ds) (fun g=>g=bf) W∧Blk W bf (Fc l 0 false 0 ⟨#[]⟩) 80∧wg'=if D=true then firstOf p (wrF [] ds wg) else wrF [] ds wg)
      case first=>
       cases D
       ·go_wp2_with fail
        go_meet
        case rel=>exact⟨_,M4.out,F4.out,rfl⟩
       ·go_wp2_with (go_at_call 24;refine(wrong_rep M4.out.R).mono ?_;rintro e w5 ⟨rfl,hW,st5⟩)
        go_meet
        case rel=>exact⟨_,M4.out.call hW st5,M4.out.keep st5 rfl F4.out,rfl⟩
      case rest=>
       obtain⟨wg5,M5,F5,hwg5⟩:=hcut
       have k0:=F5.cell 0
       simp only[Fc,List.getElem?_cons_zero] at k0
       have M6:=M5.alloc (.cells #[.int .u8 (l:Int)] 5)
       have F6:=F5.alloc (.cells #[.int .u8 (l:Int)] 5)
       have c2:=M6.R.here.c2
       have hcv:=fun (W:World) (g:Nat) (c:Int) (h:W.heap.size=g)=>conv_one W g c h
       replace M6:=hide M6
       replace F6:=hide F6
       replace hwg5:=hide hwg5
       clear M5 F5 M4 F4
       go_upto_if 78 with fail
       clear k0 hcv
       generalize wc.alloc (.cells #[.int .u8 (l:Int)] 5)=W6 at *
       go_cut [] (fun W=>∃ j4 bad4,RM w X br bz B s j4 bad4 wg5 (mixF ds mx) (ts++flats ts.length (ds.map PF.ty)) (us++usesAll (ds.map PF.ty)) zs tv u tv' u' (.slice sa sn sc) ds.length (recCells s ts.length ds) (fun g=>g=bf) W∧Blk W bf (Fc l 0 false 0 ⟨#[]⟩) 80∧OutC s p j4 bad4)
       case first=>
        cases hb3:bad3
        ·subst hb3
         have hO:=outC_good h3.out rfl
         replace hO:=hide hO
         by_cases h58:bt s j3=58
         ·go_wp2_with (go_at_call 40;refine(eat_rep' 58 M6.out.R rfl (by decide)).mono ?_;rintro e w7 ⟨rfl,hE,st7⟩;rw[if_pos h58] at hE)
          go_meet
          case rel=>exact⟨_,_,M6.out.call hE st7,M6.out.keep st7 rfl F6.out,hO.out.1 h58⟩
         ·go_wp2_with (go_at_call 40;refine(eat_rep' 58 M6.out.R rfl (by decide)).mono ?_;rintro e w7 ⟨rfl,hE,st7⟩;rw[if_neg h58] at hE)
          go_meet
          case rel=>exact⟨_,_,M6.out.call hE st7,M6.out.keep st7 rfl F6.out,hO.out.2 h58⟩
        ·subst hb3
         have hO:=hide (outC_bad h3.out rfl)
         go_wp2_with fail
         go_meet
         case rel=>exact⟨_,_,M6.out,F6.out,hO.out⟩
       case rest=>
        obtain⟨j4,bad4,M7,F7,oC⟩:=hcut
        have c2:=M7.R.here.c2
        replace M7:=hide M7
        replace F7:=hide F7
        replace oC:=hide oC
        clear M6 F6
        go_upto_if 85 with fail
        go_cut [] (fun W=>∃ j5 bad5 MX5 TS5 US5 tv5 u5 num,RM w X br bz B s j5 bad5 wg5 MX5 TS5 US5 zs tv u tv5 u5 (.slice sa sn sc) ds.length (recCells s ts.length ds) (fun g=>g=bf) W∧Blk W bf (Fc l num false 0 ⟨#[]⟩) 80∧OutD s p (mixF ds mx) (ts++flats ts.length (ds.map PF.ty)) (us++usesAll (ds.map PF.ty)) j5 bad5 MX5 TS5 US5 num)
        case first=>
         cases hb4:bad4
         ·subst hb4
          obtain⟨hj4,hsm,hcol⟩:=outD_good oC.out
          subst hj4
          have hT:=typ_ok M7.out.R.il _ _ _ _ _ _ _ _ _ _ _ _ M7.out.R
          replace hT:=hide hT
          cases hp:pT s (p+2) with
          | error k=>
           have hOut:=pField_err hsm hcol hp
           replace hOut:=hide hOut
           replace hp:=hide hp
           clear hsm hcol
           go_wp2_with (go_at_call 42;refine hT.out.mono ?_;intro e w8 hh;unfold TypPost at hh;rw[hp.out] at hh;obtain⟨⟨v,rfl⟩,mx8,ts8,us8,tv8,u8,R8,hl8,st8⟩:=hh;have M8:=M7.out.call R8 st8;have F8:=M7.out.keep st8 rfl F7.out;have k1:=F8.cell 1;have m1:=F8.thaw 1;simp only[Fc,List.getElem?_cons_zero,List.getElem?_cons_succ] at k1;replace M8:=hide M8;replace F8:=hide F8)
           go_meet
           case rel=>exact⟨_,_,_,_,_,_,_,_,M8.out.put bf 1 _ rfl,Blk.set F8.out 1 _,.inl ⟨rfl,hOut.out⟩⟩
          | ok q=>
           obtain⟨ty,j5⟩:=q
           replace hp:=hide hp
           replace hsm:=hide hsm
           replace hcol:=hide hcol
           go_wp2_with (go_at_call 42;refine hT.out.mono ?_;intro e w8 hh;unfold TypPost at hh;rw[hp.out] at hh;obtain⟨rfl,tv8,u8,R8,st8⟩:=hh;have M8:=M7.out.call R8 st8;have F8:=M7.out.keep st8 rfl F7.out;have k1:=F8.cell 1;have m1:=F8.thaw 1;simp only[Fc,List.getElem?_cons_zero,List.getElem?_cons_succ] at k1;replace M8:=hide M8;replace F8:=hide F8)
           go_meet
           case rel=>exact⟨_,_,_,_,_,_,_,_,M8.out.put bf 1 _ rfl,Blk.set F8.out 1 _,.inr ⟨rfl,hsm.out,hcol.out,ty,hp.out,rfl,rfl,rfl,by simp⟩⟩
         ·subst hb4
          have oC':=hide (outD_bad (MX0:=mixF ds mx) (MX:=mixF ds mx) (TS0:=ts++flats ts.length (ds.map PF.ty)) (TS:=ts++flats ts.length (ds.map PF.ty)) (US0:=us++usesAll (ds.map PF.ty)) (US:=us++usesAll (ds.map PF.ty)) (num:=0) oC.out)
          go_wp2_with fail
          go_meet
          case rel=>exact⟨_,_,_,_,_,_,_,_,M7.out,F7.out,oC'.out⟩
        case rest=>
         obtain⟨j5,bad5,MX5,TS5,US5,tv5,u5,num,M9,F9,oD⟩:=hcut
         replace M9:=hide M9
         replace F9:=hide F9
         replace oD:=hide oD
         clear M7 F7 oC
         go_upto_if 91 with(go_at_call 39;refine(peek_pk M9.out.R).mono ?_;rintro e w9 ⟨rfl,hw9⟩)
         have M10:=M9.out.still hw9
         have F10:=Blk.still F9.out hw9
         clear M9 F9
         go_cut [] (fun W=>∃ j6 bad6 h6 a6 t6,RM w X br bz B s j6 bad6 wg5 MX5 TS5 US5 zs tv u tv5 u5 (.slice sa sn sc) ds.length (recCells s ts.length ds) (fun g=>g=bf) W∧Blk W bf (Fc l num h6 a6 t6) 80∧OutE s p (mixF ds mx) (ts++flats ts.length (ds.map PF.ty)) (us++usesAll (ds.map PF.ty)) l j6 bad6 MX5 TS5 US5 num h6 a6 t6)
         case first=>
          by_cases h61:pk s j5 bad5=61
          ·obtain⟨hb5,hbt⟩:=pk_61 h61
           subst hb5
           have hj5:j5<s.size:=bt_pos (by omega)
           have c1:=M10.R.here.c1
           have f1:=M10.R.here.thaw 1
           have M11:=M10.inc hj5
           have F11:=M10.keep (M10.R.inc hj5).2 rfl F10
           have k2:=F11.cell 2
           have m2:=F11.thaw 2
           have k3:=F11.cell 3
           have m3:=F11.thaw 3
           simp only[Fc,List.getElem?_cons_zero,List.getElem?_cons_succ] at k2 k3
           have M12:=(M11.put bf 2 (.bool true) rfl).put bf 3 (.int .i64 ((j5:Int)+1)) rfl
           have F12:=(F11.set 2 (.bool true)).set 3 (.int .i64 ((j5:Int)+1))
           have hP:=hide (preset_rep M12.R)
           replace M12:=hide M12
           replace F12:=hide F12
           replace M10:=hide M10
           replace F10:=hide F10
           clear M11 F11
           cases hd:pD s (j5+1) 0 with
           | none=>
            have hO:=hide (outE_open (l:=l) oD.out hbt hd true ((j5:Int)+1) ⟨#[]⟩)
            replace hd:=hide hd
            go_wp2_with (go_at_call 100;refine hP.out.mono ?_;rintro e w13 ⟨st13,hh⟩;rw[hd.out] at hh;obtain⟨rfl,R13⟩:=hh;have M13:=M12.out.call R13 st13;have F13:=M12.out.keep st13 rfl F12.out;have k4:=F13.cell 4;have m4:=F13.thaw 4;simp only[Fc,List.set_cons_zero,List.set_cons_succ,List.getElem?_cons_zero,List.getElem?_cons_succ] at k4;replace M13:=hide M13;replace F13:=hide F13)
            go_meet
            case rel=>exact⟨_,_,_,_,_,M13.out.put bf 4 _ rfl,Blk.set F13.out 4 _,hO.out⟩
           | some e=>
            have hO:=hide (outE_dflt oD.out hl.out hbt hd)
            replace hd:=hide hd
            go_wp2_with (go_at_call 100;refine hP.out.mono ?_;rintro e' w13 ⟨st13,hh⟩;rw[hd.out] at hh;obtain⟨rfl,R13⟩:=hh;have M13:=M12.out.call R13 st13;have F13:=M12.out.keep st13 rfl F12.out;have k4:=F13.cell 4;have m4:=F13.thaw 4;simp only[Fc,List.set_cons_zero,List.set_cons_succ,List.getElem?_cons_zero,List.getElem?_cons_succ] at k4;replace M13:=hide M13;replace F13:=hide F13)
            go_meet
            case rel=>exact⟨_,_,_,_,_,M13.out.put bf 4 _ rfl,Blk.set F13.out 4 _,hO.out⟩
          ·have h61':(pk s j5 bad5==61)=false:=by simpa using h61
           have hO:=hide (outE_plain oD.out hl.out h61)
           replace M10:=hide M10
           replace F10:=hide F10
           clear h61
           go_wp2_with fail
           go_meet
           case rel=>exact⟨_,_,_,_,_,M10.out,F10.out,hO.out⟩
         case rest=>
          obtain⟨j6,bad6,h6,a6,t6,M14,F14,oE⟩:=hcut
          clear M10 F10 oD
          have t1:=M14.b3.cell 1
          have k0:=F14.cell 0
          have k1:=F14.cell 1
          have k2:=F14.cell 2
          have k3:=F14.cell 3
          have k4:=F14.cell 4
          have k5:=F14.cell 5
          have k6:=F14.cell 6
          have k7:=F14.cell 7
          have k8:=F14.cell 8
          have k9:=F14.cell 9
          simp only[Fc,recDef,List.getElem?_cons_zero,List.getElem?_cons_succ] at t1 k0 k1 k2 k3 k4 k5 k6 k7 k8 k9
          obtain⟨ti,hi1,hi2,hi3,hi4⟩:=info_parts i_Field
          have hdn:ds.length≤300:=by omega
          have hBl:=M14.R.hB
          replace M14:=hide M14
          replace oE:=hide oE
          clear F14
          go_wp2_with (first
           |(at_builtin;go_must (refine wpList_append_own_at _ rfl _ _ 42 rfl B 80 ti _ 10 128 u_Fields hi1 hi2 hi3 hi4 rfl (by decide) (.slice sa sn sc) ds.length (recCells s ts.length ds) rfl ?hown _ 1 1 (Fc l num h6 a6 t6) rfl rfl (news_new _ (Fc l num h6 a6 t6).toArray _ _ ?nn) ?one ?b1 ?b2 ?b3 ?_)
             case hown=>exact World.ownsRow.alloc M14.out.own _
             case nn=>simp
             case one=>simp[Fc,Value.oneCell']
             case b1=>unfold maxLen;omega
             case b2=>omega
             case b3=>simp;omega
             intro v5 w5 ho5 hg5 hn5 hl5
             have M15:=M14.out.grow hg5 ho5 hl5
             obtain⟨e5,f5⟩:=M14.out.growCell hg5
             obtain⟨g5,cap5,rfl⟩:=own_form ho5 (by omega)
             clear hg5 hl5 hn5 ho5
             replace M15:=hide M15))
          have hjl6:=M15.out.R.il
          cases hb6:bad6
          ·subst hb6
           have hj6:p<j6:=by
            rcases oE.out with⟨h,_⟩|⟨_,f,hf,_⟩
            ·cases h
            ·have:=(pField_bounds hpl).1 f j6 hf;omega
           go_roundg (s.size+2-j6)
           case measure=>omega
           case rel=>exact rec_good _ hres.out hpl hsl hip hkb.out oE.out hwg5.out hD.out h3.out M15.out (Nat.le_refl _)
          ·subst hb6
           go_roundg 0
           case measure=>omega
           case rel=>exact rec_bad _ hres.out hpl (by rw[kb_size hkb.out];omega) oE.out M15.out
  ·obtain⟨k,n,xs,wg',MX,TS,US,M,hres⟩:=hC
   obtain⟨sa,sn,sc,rfl⟩:=own_slice M.own
   have c2:=M.R.here.c2
   have t0:=M.b3.cell 0;have t1:=M.b3.cell 1;have t2:=M.b3.cell 2;have t3:=M.b3.cell 3;have t4:=M.b3.cell 4;have r0:=M.b2.cell 0;have r1:=M.b2.cell 1;have r2:=M.b2.cell 2;have r3:=M.b2.cell 3;have r4:=M.b2.cell 4;have g0:=M.b2.thaw 0;have g1:=M.b2.thaw 1;have g2:=M.b2.thaw 2;have g3:=M.b2.thaw 3;have g4:=M.b2.thaw 4;simp only[recDef,zeroDef,List.getElem?_cons_zero,List.getElem?_cons_succ] at t0 t1 t2 t3 t4 r0 r1 r2 r3 r4
   replace M:=hide M
   replace hres:=hide hres
   go_wp2_with fail
   have L:=Blk.five M.out.b2 (.int .u8 114) (.slice sa sn sc) (.string ⟨#[]⟩) (.int .i64 (-1)) (.int .i64 0)
   have q0:=L.cell 0
   have q1:=L.cell 1
   have q2:=L.cell 2
   have q3:=L.cell 3
   have q4:=L.cell 4
   simp only[List.getElem?_cons_zero,List.getElem?_cons_succ] at q0 q1 q2 q3 q4
   have hF:=Fr.five wr w.heap.size (.int .u8 114) (.slice sa sn sc) (.string ⟨#[]⟩) (.int .i64 (-1)) (.int .i64 0)
   generalize (((((World.setCell wr ⟨w.heap.size,0,none⟩ (.int .u8 114)).setCell ⟨w.heap.size,1,none⟩ (.slice sa sn sc)).setCell ⟨w.heap.size,2,none⟩ (.string ⟨#[]⟩)).setCell ⟨w.heap.size,3,none⟩ (.int .i64 (-1))).setCell ⟨w.heap.size,4,none⟩ (.int .i64 0))=W5 at *
   refine bodyPost_ret (v:=.agg (recDef (.slice sa sn sc)).toArray) (by simp[results,Tryz.results68,go_sem,q0,q1,q2,q3,q4,recDef]) rfl ?_
   rw[hPOST.out]
   exact rec_result M.out hF (by rw[hres.out];exact⟨rfl,rfl⟩)
open Go.RowKit
structure SM (w:World) (X:Nat→Prop) (br bz B:Nat) (s:ByteArray) (j:Nat) (bad:Bool) (wg MX:Int) (TS:List TR) (US:List (Nat×Nat)) (zs:List Value) (tv u:Value) (cs:List Value) (W:World):Prop where
 R:Rep W (fun g=>X g∨g=w.heap.size∨g=w.heap.size+1) br bz B s j bad wg MX TS US zs tv u
 b2:Blk W w.heap.size zeroDef 44
 b3:Blk W (w.heap.size+1) cs 44
 st:Step w W br bz tv u tv u
section
variable {w W W':World} {X:Nat→Prop} {br bz B:Nat} {s:ByteArray} {j:Nat} {bad:Bool} {wg MX:Int} {TS:List TR} {US:List (Nat×Nat)} {zs:List Value} {tv u:Value} {cs:List Value}
theorem SM.call (M:SM w X br bz B s j bad wg MX TS US zs tv u cs W){j':Nat}{bad':Bool}{wg':Int}(R':Rep W' (fun g=>X g∨g=w.heap.size∨g=w.heap.size+1) br bz B s j' bad' wg' MX TS US zs tv u) (st:Step W W' br bz tv u tv u):SM w X br bz B s j' bad' wg' MX TS US zs tv u cs W':=
 ⟨R',st.fr.blk M.b2 (M.R.offS (.inr (.inl rfl))),st.fr.blk M.b3 (M.R.offS (.inr (.inr rfl))),M.st.trans st⟩
theorem SM.still (M:SM w X br bz B s j bad wg MX TS US zs tv u cs W) (h:Still W W'):SM w X br bz B s j bad wg MX TS US zs tv u cs W':=M.call (M.R.still h) (Step.ofStill h)
theorem SM.inc (M:SM w X br bz B s j bad wg MX TS US zs tv u cs W) (h:j<s.size):SM w X br bz B s (j+1) bad wg MX TS US zs tv u cs (W.setCell ⟨br,1,none⟩ (.int .i64 ((j:Int)+1))):=M.call (M.R.inc h).1 (M.R.inc h).2
theorem SM.alloc (M:SM w X br bz B s j bad wg MX TS US zs tv u cs W) (o:Obj):SM w X br bz B s j bad wg MX TS US zs tv u cs (W.alloc o):=M.call (M.R.alloc o).1 (M.R.alloc o).2
theorem SM.put (M:SM w X br bz B s j bad wg MX TS US zs tv u cs W) (o:Nat) (v:Value):SM w X br bz B s j bad wg MX TS US zs tv u (cs.set o v) (W.setCell ⟨w.heap.size+1,o,none⟩ v):=by
 have hF:Fr W (W.setCell ⟨w.heap.size+1,o,none⟩ v) (fun g=>g=w.heap.size+1):=(Fr.refl W (fun g=>g=w.heap.size+1)).setCell ⟨w.heap.size+1,o,none⟩ v (fun _=>rfl)
 exact⟨(M.R.out (hF.mono (fun _ _ e=>.inr (.inr e)))).fewer (fun _ h=>.inl h),hF.blk M.b2 (by omega),M.b3.set o v,M.st.out hF (fun g hg=>by omega)⟩
end
def enumDef (sb:ByteArray) (o:Int):List Value:=[.int .u8 101,.slice none 0 0,.string sb,.int .i64 o,.int .i64 0]
def wrS (seen:List Nat):List (Nat×Nat)→Int→Int
 | [],m=>m
 | f::r,m=>wrS (seen++[f.1]) r (if f.1∈seen then firstOf f.2 m else m)
theorem wrS_snoc (seen:List Nat) (ds:List (Nat×Nat)) (f:Nat×Nat) (m:Int):wrS seen (ds++[f]) m=if f.1∈seen++ds.map Prod.fst then firstOf f.2 (wrS seen ds m) else wrS seen ds m:=by
 induction ds generalizing seen m with
 | nil=>simp[wrS]
 | cons d r ih=>rw[List.cons_append,wrS,wrS,ih,List.append_assoc];rfl
def wrE (l:List (Nat×Nat)) (o:Option (Nat×Nat)) (m:Int):Int:=
 match o with
 | none=>wrS [] l m
 | some (c,at_)=>if c∈l.map Prod.fst then wrS [] l m else firstOf at_ (wrS [] l m)
def EnumPost (w:World) (X:Nat→Prop) (br bz B:Nat) (s:ByteArray) (i:Nat) (wr mx:Int) (ts:List TR) (us:List (Nat×Nat)) (zs:List Value) (tv u:Value) (e:Ending) (w':World):Prop:=
 ∃ sb o,e=.returned (.agg (enumDef sb o).toArray)∧Step w w' br bz tv u tv u∧
 match pEnum s i with
 | .ok ((l,unk),j)=>sb.data.toList.map UInt8.toNat=l.map Prod.fst∧o=(match unk with|none=>-1|some (c,_)=>plc sb c)∧Rep w' X br bz B s j false (wrE l unk wr) mx ts us zs tv u
 | .error k=>∃ wr',Rep w' X br bz B s k true wr' mx ts us zs tv u
def EnInv (RES:Except Nat ((List (Nat×Nat)×Option (Nat×Nat))×Nat)) (w:World) (X:Nat→Prop) (br bz B:Nat) (s:ByteArray) (i:Nat) (wr mx:Int) (ts:List TR) (us:List (Nat×Nat)) (zs:List Value) (tv u:Value) (m:Nat) (mv:Value) (W:World):Prop:=
 ∃ (sb:ByteArray) (more:Bool),mv=.bool more∧sb.size≤300∧
  ((∃ (ds:List (Nat×Nat)) (j:Nat),SM w X br bz B s j false (wrS [] ds wr) mx ts us zs tv u (enumDef sb (-1)) W∧sb.data.toList.map UInt8.toNat=ds.map Prod.fst∧i+ds.length≤j∧s.size+2-j≤m∧
   RES=if more=true then aheadS s ds (pSyms s j) else finE s ds j)∨
   (∃ k wg',SM w X br bz B s k true wg' mx ts us zs tv u (enumDef sb (-1)) W∧RES=.error k))
theorem en_start {w:World}{X:Nat→Prop}{br bz B:Nat}{s:ByteArray}{i:Nat}{wg mx:Int}{ts:List TR}{us:List (Nat×Nat)}{zs:List Value}{tv u:Value}(R:Rep w X br bz B s i false wg mx ts us zs tv u) :
 SM w X br bz B s i false wg mx ts us zs tv u (enumDef ⟨#[]⟩ (-1)) ((w.alloc (.cells zeroDef.toArray 44)).alloc (.cells (enumDef ⟨#[]⟩ (-1)).toArray 44)):=by
 have h1:=R.out (((Fr.refl w X).alloc (.cells zeroDef.toArray 44)).alloc (.cells (enumDef ⟨#[]⟩ (-1)).toArray 44))
 refine⟨h1.fewer (fun g hg=>?_),(Blk.new w _ _).alloc _,?_,⟨((Fr.refl w _).alloc _).alloc _,.inl rfl,.inl rfl⟩⟩
 ·rcases hg with hg|hg|hg
  ·exact .inl hg
  ·exact .inr (by simp;omega)
  ·exact .inr (by simp;omega)
 ·have:=Blk.new (w.alloc (.cells zeroDef.toArray 44)) (enumDef ⟨#[]⟩ (-1)).toArray 44
  simpa using this
theorem en_result {w W W':World}{X:Nat→Prop}{br bz B:Nat}{s:ByteArray}{j:Nat}{bad:Bool}{wg:Int}{zs:List Value}{tv u:Value}{sb:ByteArray}{o:Int}{i:Nat}{wr mx:Int}{ts:List TR}{us:List (Nat×Nat)}
 (M:SM w X br bz B s j bad wg mx ts us zs tv u (enumDef sb o) W) (hF:Fr W W' (fun g=>g=w.heap.size))
 (h:match pEnum s i with
  | .ok ((l,unk),j')=>j=j'∧bad=false∧sb.data.toList.map UInt8.toNat=l.map Prod.fst∧o=(match unk with|none=>-1|some (c,_)=>plc sb c)∧wg=wrE l unk wr
  | .error k=>j=k∧bad=true) :
 EnumPost w X br bz B s i wr mx ts us zs tv u (.returned (.agg (enumDef sb o).toArray)) W':=by
 have hR:=(M.R.out (hF.mono (fun _ _ e=>.inr (.inl e)))).fewer (Y:=X) (fun g hg=>.inl (.inl hg))
 refine⟨sb,o,rfl,M.st.out hF (fun g hg=>by omega),?_⟩
 cases hp:pEnum s i with
 | error k=>
  rw[hp] at h
  obtain⟨rfl,rfl⟩:=h
  exact⟨_,hR⟩
 | ok q=>
  obtain⟨⟨l,unk⟩,j'⟩:=q
  rw[hp] at h
  obtain⟨rfl,rfl,h1,h2,rfl⟩:=h
  exact⟨h1,h2,hR⟩
theorem en_next {RES:Except Nat ((List (Nat×Nat)×Option (Nat×Nat))×Nat)}{w W:World}{X:Nat→Prop}{br bz B:Nat}{s:ByteArray}{i j:Nat}{wg mx wg5:Int}{ts:List TR}{us:List (Nat×Nat)}{zs:List Value}{tv u:Value}{ds:List (Nat×Nat)}{sb:ByteArray}(n j':Nat) (more:Bool)
 (hres:RES=aheadS s ds (pSyms s j)) (hs:s.size≤300) (hij:i+ds.length≤j) (hkb:sb.data.toList.map UInt8.toNat=ds.map Prod.fst) (hsm:isSmall (bt s j)=true)
 (hwg:wg5=if 0≤plc sb (bt s j) then firstOf j (wrS [] ds wg) else wrS [] ds wg)
 (M:SM w X br bz B s j' false wg5 mx ts us zs tv u (enumDef (sb++⟨#[UInt8.ofNat (bt s j)]⟩) (-1)) W) (hn:s.size+2-j'≤n)
 (hm:(more=true∧bt s (j+1)=44∧j'=j+2)∨(more=false∧bt s (j+1)≠44∧j'=j+1)) :
 EnInv RES w X br bz B s i wg mx ts us zs tv u n (.bool more) W:=by
 have hl:=bt_pos (isSmall_pos hsm)
 have hkb':=kb_snoc hkb (bt_lt s j)
 have hsz:=congrArg List.length hkb'
 simp only[List.length_map,Array.length_toList,List.length_append,List.length_cons,List.length_nil] at hsz
 have hsz':(sb++⟨#[UInt8.ofNat (bt s j)]⟩:ByteArray).size=(sb++⟨#[UInt8.ofNat (bt s j)]⟩:ByteArray).data.size:=rfl
 have hwr:wrS [] (ds++[(bt s j,j)]) wg=wg5:=by
  rw[wrS_snoc,hwg]
  have hm:bt s j∈[]++ds.map Prod.fst↔0≤plc sb (bt s j):=by rw[plc_mem,hkb];simp
  by_cases hq:0≤plc sb (bt s j)
  ·rw[if_pos (hm.2 hq),if_pos hq]
  ·rw[if_neg (fun x=>hq (hm.1 x)),if_neg hq]
 refine⟨sb++⟨#[UInt8.ofNat (bt s j)]⟩,more,rfl,by omega,.inl ⟨ds++[(bt s j,j)],j',by rw[hwr];exact M,by rw[hkb',List.map_append];rfl,?_,hn,?_⟩⟩
 ·rw[List.length_append,List.length_cons,List.length_nil]
  rcases hm with⟨_,_,rfl⟩|⟨_,_,rfl⟩ <;> omega
 ·rw[hres,aheadS_step,if_pos hsm]
  rcases hm with⟨rfl,h44,rfl⟩|⟨rfl,h44,rfl⟩
  ·rw[if_pos h44,if_pos rfl]
  ·rw[if_neg h44,if_neg (by decide)]
end Go.Proofs.YtiifagiebikmdaaGreatDoor
