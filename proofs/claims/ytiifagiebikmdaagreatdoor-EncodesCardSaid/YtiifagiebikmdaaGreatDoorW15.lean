import Derived.Test.YtiifagiebikmdaaGreatDoorW14
namespace Go.Proofs.YtiifagiebikmdaaGreatDoor
open Go.RowKit
set_option maxHeartbeats 4000000 in
set_option maxRecDepth 100000 in
theorem list_bad {w:World}{P:Nat→Prop}{bl:Nat}{s:ByteArray}{bz:Nat}{pl:Bool}{i:Nat}{ts:List TR}{env:Nat→Option PB}{k fin:Nat}{keyed:Bool}(M:DM w P bl s bz pl i true ts env w) :
 Calls Tryz.prog 63 #[.pointer (some ⟨bl,0,none⟩),.int .i64 (k:Int),.int .u8 (fin:Int),.bool keyed] w (DatPost w bl s bz pl none):=by
 obtain⟨POST,hPOST⟩:∃ Q,Hid (Q=DatPost w bl s bz pl none):=⟨_,rfl⟩
 rw[← hPOST.out]
 have start:=hide (lm_start M)
 clear M
 go_enter Tryz.func63,Tryz.ntmps63
 go_wp2_with fail
 go_loopg [] 0 (fun _ W=>LM w P bl s bz pl i true ts env w.heap.size (w.heap.size+1) (w.heap.size+2) 0 (.slice none 0 0) (.slice none 0 0) [] 0 [] W)
 case atStart=>exact start.out
 case round=>
  clear start
  have Q:=hrel
  have c2:=Q.M.L.c2
  have r0:=Q.r0.cell 0
  have r1:=Q.r0.cell 1
  have r2:=Q.r0.cell 2
  have r3:=Q.r0.cell 3
  have r4:=Q.r0.cell 4
  have g0:=Q.r0.thaw 0
  have g1:=Q.r0.thaw 1
  have g2:=Q.r0.thaw 2
  have g3:=Q.r0.thaw 3
  have g4:=Q.r0.thaw 4
  have t0:=Q.r1.cell 0
  have t1:=Q.r1.cell 1
  have t2:=Q.r1.cell 2
  have t3:=Q.r1.cell 3
  have t4:=Q.r1.cell 4
  simp only[zeroDat,dvals,List.getElem?_cons_zero,List.getElem?_cons_succ,Int.cast_ofNat_Int] at r0 r1 r2 r3 r4 t0 t1 t2 t3 t4
  have D0:=hide Q.r0
  replace Q:=hide Q
  clear hrel
  go_wp2_with fail
  have L5:=Blk.five D0.out (.int .u8 0) (.int .i64 0) (.string noB) (.slice none 0 0) (.slice none 0 0)
  have q0:=L5.cell 0
  have q1:=L5.cell 1
  have q2:=L5.cell 2
  have q3:=L5.cell 3
  have q4:=L5.cell 4
  simp only[List.getElem?_cons_zero,List.getElem?_cons_succ] at q0 q1 q2 q3 q4
  have hF:=Fr.five wr (w.heap.size) (.int .u8 0) (.int .i64 0) (.string noB) (.slice none 0 0) (.slice none 0 0)
  generalize (((((World.setCell wr ⟨w.heap.size,0,none⟩ (.int .u8 0)).setCell ⟨w.heap.size,1,none⟩ (.int .i64 0)).setCell ⟨w.heap.size,2,none⟩ (.string noB)).setCell ⟨w.heap.size,3,none⟩ (.slice none 0 0)).setCell ⟨w.heap.size,4,none⟩ (.slice none 0 0))=W5 at *
  refine bodyPost_ret (v:=.agg (dvals 0 0 noB (.slice none 0 0) (.slice none 0 0)).toArray) (by simp[results,Tryz.results63,go_sem,q0,q1,q2,q3,q4,dvals]) rfl ?_
  rw[hPOST.out]
  exact dat_bad Q.out.M ⟨_,_,_,rfl⟩ ⟨_,_,_,rfl⟩ hF rfl
theorem list_any {w:World}{P:Nat→Prop}{bl:Nat}{s:ByteArray}{bz:Nat}{pl:Bool}{i:Nat}{bad:Bool}{ts:List TR}{env:Nat→Option PB}{f:Nat}{t:PT}{k:Nat}{e:Int}(fin:Nat){keyed:Bool}(M:DM w P bl s bz pl i bad ts env w) (hk:isT ts k t) (he:e=(fin:Int)) (hfin:fin=93∨fin=125) (hR:bad=false→∀ j,i≤j→j≤s.size→DatOK s env pl ts f t j) :
 Calls Tryz.prog 63 #[.pointer (some ⟨bl,0,none⟩),.int .i64 (k:Int),.int .u8 e,.bool keyed] w (DatPost w bl s bz pl (if bad=true then none else listR keyed (rdList (rdT s env pl f t) s fin keyed i))):=by
 subst he
 cases bad with
 | true=>rw[if_pos rfl];exact list_bad M
 | false=>rw[if_neg (by decide)];exact list_ok M hk hfin (hR rfl)
theorem DatPost.any {w W W':World}{P:Nat→Prop}{bl:Nat}{s:ByteArray}{bz:Nat}{pl:Bool}{j:Nat}{bad:Bool}{ts:List TR}{env:Nat→Option PB}{r:Option (DT×Nat)}{e:Ending}(M:DM w P bl s bz pl j bad ts env W) (h:DatPost W bl s bz pl r e W') :
 ∃ (k:Nat) (m:Int) (tx:ByteArray) (a1:Option Addr) (m1 c1:Nat) (a2:Option Addr) (m2 c2:Nat) (j':Nat) (bad':Bool),e=.returned (.agg #[.int .u8 (k:Int),.int .i64 m,.string tx,.slice a1 m1 c1,.slice a2 m2 c2])∧DM w P bl s bz pl j' bad' ts env W'∧Fr W W' (· = bl)∧
  Hid ((∃ d,r=some (d,j')∧bad'=false∧DVal W' (fun g=>W.heap.size≤g) d (dvals k m tx (.slice a1 m1 c1) (.slice a2 m2 c2)))∨(r=none∧bad'=true)):=by
 obtain⟨k,m,tx,vk',vs',he,⟨a1,m1,c1,rfl⟩,⟨a2,m2,c2,rfl⟩,hf,hh⟩:=h
 cases r with
 | none=>
  obtain⟨j',h1,h2⟩:=hh
  exact⟨k,m,tx,a1,m1,c1,a2,m2,c2,j',true,he,M.call h2 hf h1,hf,.inr ⟨rfl,rfl⟩⟩
 | some q=>
  obtain⟨d,j'⟩:=q
  obtain⟨h1,h2,h3⟩:=hh
  exact⟨k,m,tx,a1,m1,c1,a2,m2,c2,j',false,he,M.call h2 hf h1,hf,.inl ⟨d,rfl,rfl,h3⟩⟩
def DT.withKind (c:Nat):DT→DT
 | .mk _ n tx ks ds=>.mk c n tx ks ds
theorem DVal.recast {w:World}{P:Nat→Prop}{d:DT}{k:Nat}{m:Int}{tx:ByteArray}{vk vs:Value}(h:DVal w P d (dvals k m tx vk vs)) (c:Nat):DVal w P (d.withKind c) (dvals c m tx vk vs):=by
 generalize hv:dvals k m tx vk vs=v at h
 cases h with
 | mk X hk hkP hs hsP hd=>
  simp only[dvals,List.cons.injEq,and_true,Value.int.injEq,Value.string.injEq,true_and] at hv
  obtain⟨_,rfl,rfl,rfl,rfl⟩:=hv
  exact .mk X hk hkP hs hsP hd
theorem rdWrap_list {R:Nat→Option (DT×Nat)}{s:ByteArray}{c i:Nat}(h:bt s i=c):rdWrap R s c i=(listR (c==123) (rdList R s (closing c) (c==123) (i+1))).map (fun q=>(q.1.withKind c,q.2)):=by
 unfold rdWrap
 rw[if_pos h]
 cases rdList R s (closing c) (c==123) (i+1) with
 | none=>rfl
 | some q=>rfl
set_option maxHeartbeats 4000000 in
set_option maxRecDepth 100000 in
theorem dat_wrap91 {s:ByteArray}{env:Nat→Option PB}{pl:Bool}{ts:List TR}{f p i:Nat}{t:PT}(hR:∀ j,i<j→j≤s.size→DatOK s env pl ts f t j):DatOK s env pl ts (f+1) (.wrap 91 p t) i:=by
 intro w P bl bz k M hk
 obtain⟨kj,hk,hkt⟩:=hk
 obtain⟨g,m,cap,sv,z0,hkm,z1,z2,ho,hoP⟩:=M.Z.type hk
 simp only[Int.cast_ofNat_Int] at z1
 obtain⟨POST,hPOST⟩:∃ Q,Hid (Q=DatPost w bl s bz pl (rdT s env pl (f+1) (.wrap 91 p t) i)):=⟨_,rfl⟩
 rw[← hPOST.out]
 have hl1:=M.lt
 have hl2:=cell_lt z0
 have hl3:=cell_lt z1
 have c3:=M.L.c3
 have c2:=M.L.c2
 have hjl:=M.jl
 have hsl:=M.sl
 obtain⟨h0,sc,rfl⟩:=own_form ho (by simp)
 have hx0:=own_cell ho rfl (k:=0) (x:=.int .i64 (kj:Int)) rfl
 have hl4:=cell_lt hx0
 have hPh:P h0:=hoP h0 rfl
 have hPl:=M.Plt h0 hPh
 have hnh:h0≠bl:=fun e=>M.nP (e▸hPh)
 have M0:=hide (dw_M M 91 (.slice (some ⟨h0,0,none⟩) 1 sc))
 have B0:=hide (dw_0 w 91 (.slice (some ⟨h0,0,none⟩) 1 sc))
 have B1:=hide (dw_1 w 91 (.slice (some ⟨h0,0,none⟩) 1 sc))
 have B2:=hide (dw_2 w 91 (.slice (some ⟨h0,0,none⟩) 1 sc))
 have hx1:=hide (show(dw w 91 (.slice (some ⟨h0,0,none⟩) 1 sc)).cell? ⟨h0,0,none⟩=some (.int .i64 (kj:Int)) from cell_alloc3 hx0 _ _ _)
 have hdl:=hide (show(dw w 91 (.slice (some ⟨h0,0,none⟩) 1 sc)).heap.size=w.heap.size+3 by simp[dw])
 have d2:=fun X Y Z=>cell_alloc3 c2 X Y Z
 have hkm':(k:Int)<(m:Int):=by omega
 replace M:=hide M
 replace ho:=hide ho
 replace hoP:=hide hoP
 replace hk:=hide hk
 replace hkt:=hide hkt
 replace hR:=hide hR
 go_enter Tryz.func34,Tryz.ntmps34
 go_wp2_with (first
  |(go_at_call 59;refine(leat_any 91 M0.out.L hsl hjl rfl (by decide)).mono ?_;rintro e w1 ⟨rfl,hE⟩;obtain⟨j1,bad1,M1,F1,hJ⟩:=LEat.any (by decide) M0.out hE;have D0:=F1.blk B0.out (by omega);have D1:=F1.blk B1.out (by omega);have D2:=F1.blk B2.out (by omega);have u1:=D1.cell 1;have x1:=(World.cell?_of_block (a:=⟨h0,0,none⟩) (F1.block h0 (by rw[hdl.out];omega) hnh)).trans hx1.out;simp only[List.getElem?_cons_zero,List.getElem?_cons_succ] at u1;have hs1:=F1.size;rw[hdl.out] at hs1;replace M1:=hide M1;replace F1:=hide F1;replace D0:=hide D0;replace D1:=hide D1;replace D2:=hide D2;clear hE)
  |(go_at_call 63;refine(list_any (f:=f) 93 M1.out.here hkt.out rfl (by decide) (fun hb j h1 h2=>hR.out j (by rcases hJ.out with⟨_,_,h,_⟩|⟨_,_,h⟩;omega;rw[h] at hb;cases hb) h2)).mono ?_;intro e w2 hP;obtain⟨dk,dm,dtx,a1,m1,c1,a2,m2,c2,j2,bad2,rfl,M2,F2,hJ2⟩:=DatPost.any M1.out hP;have E0:=F2.blk D0.out (by omega);have E2:=F2.blk D2.out (by omega);have y0:=E2.cell 0;have z5:=E2.thaw 0;have y1:=E2.cell 1;have z6:=E2.thaw 1;have y2:=E2.cell 2;have z7:=E2.thaw 2;have y3:=E2.cell 3;have z8:=E2.thaw 3;have y4:=E2.cell 4;have z9:=E2.thaw 4;simp only[dvals,List.getElem?_cons_zero,List.getElem?_cons_succ,Int.cast_ofNat_Int] at y0 y1 y2 y3 y4;have G2:=Blk.five E2 (.int .u8 (dk:Int)) (.int .i64 dm) (.string dtx) (.slice a1 m1 c1) (.slice a2 m2 c2);have G0:=(Fr.five w2 (w.heap.size+2) (.int .u8 (dk:Int)) (.int .i64 dm) (.string dtx) (.slice a1 m1 c1) (.slice a2 m2 c2)).blk E0 (by omega);have y5:=G2.cell 0;have y6:=G2.thaw 0;have H2:=Blk.set G2 0 (.int .u8 91);have H0:=Blk.other G0 (a:=⟨w.heap.size+2,0,none⟩) (.int .u8 91) (by simp);have r0:=H0.cell 0;have r1:=H0.cell 1;have r2:=H0.cell 2;have r3:=H0.cell 3;have r4:=H0.cell 4;have t0:=H2.cell 0;have t1:=H2.cell 1;have t2:=H2.cell 2;have t3:=H2.cell 3;have t4:=H2.cell 4;have g0:=H0.thaw 0;have g1:=H0.thaw 1;have g2:=H0.thaw 2;have g3:=H0.thaw 3;have g4:=H0.thaw 4;simp only[zeroDat,dvals,List.getElem?_cons_zero,List.getElem?_cons_succ,List.set_cons_zero,Int.cast_ofNat_Int] at r0 r1 r2 r3 r4 t0 t1 t2 t3 t4 y5;replace M2:=hide M2;replace F2:=hide F2;replace E0:=hide E0;replace E2:=hide E2;replace G0:=hide G0;replace G2:=hide G2;replace H0:=hide H0;replace H2:=hide H2;clear hP))
 have L5:=Blk.five H0.out (.int .u8 91) (.int .i64 dm) (.string dtx) (.slice a1 m1 c1) (.slice a2 m2 c2)
 have q0:=L5.cell 0
 have q1:=L5.cell 1
 have q2:=L5.cell 2
 have q3:=L5.cell 3
 have q4:=L5.cell 4
 simp only[List.getElem?_cons_zero,List.getElem?_cons_succ] at q0 q1 q2 q3 q4
 have hF:=Fr.five (World.setCell (World.setCell (World.setCell (World.setCell (World.setCell (World.setCell w2 ⟨w.heap.size+1+1,0,none⟩ (.int .u8 (dk:Int))) ⟨w.heap.size+1+1,1,none⟩ (.int .i64 dm)) ⟨w.heap.size+1+1,2,none⟩ (.string dtx)) ⟨w.heap.size+1+1,3,none⟩ (.slice a1 m1 c1)) ⟨w.heap.size+1+1,4,none⟩ (.slice a2 m2 c2)) ⟨w.heap.size+1+1,0,none⟩ (.int .u8 91)) (w.heap.size) (.int .u8 91) (.int .i64 dm) (.string dtx) (.slice a1 m1 c1) (.slice a2 m2 c2)
 generalize (((((World.setCell (World.setCell (World.setCell (World.setCell (World.setCell (World.setCell (World.setCell w2 ⟨w.heap.size+1+1,0,none⟩ (.int .u8 (dk:Int))) ⟨w.heap.size+1+1,1,none⟩ (.int .i64 dm)) ⟨w.heap.size+1+1,2,none⟩ (.string dtx)) ⟨w.heap.size+1+1,3,none⟩ (.slice a1 m1 c1)) ⟨w.heap.size+1+1,4,none⟩ (.slice a2 m2 c2)) ⟨w.heap.size+1+1,0,none⟩ (.int .u8 91)) ⟨w.heap.size,0,none⟩ (.int .u8 91)).setCell ⟨w.heap.size,1,none⟩ (.int .i64 dm)).setCell ⟨w.heap.size,2,none⟩ (.string dtx)).setCell ⟨w.heap.size,3,none⟩ (.slice a1 m1 c1)).setCell ⟨w.heap.size,4,none⟩ (.slice a2 m2 c2))=W5 at *
 refine bodyPost_ret (v:=.agg (dvals 91 dm dtx (.slice a1 m1 c1) (.slice a2 m2 c2)).toArray) (by simp[results,Tryz.results34,go_sem,q0,q1,q2,q3,q4,dvals]) rfl ?_
 rw[hPOST.out]
 have F6:Fr w2 (World.setCell (World.setCell (World.setCell (World.setCell (World.setCell (World.setCell w2 ⟨w.heap.size+1+1,0,none⟩ (.int .u8 (dk:Int))) ⟨w.heap.size+1+1,1,none⟩ (.int .i64 dm)) ⟨w.heap.size+1+1,2,none⟩ (.string dtx)) ⟨w.heap.size+1+1,3,none⟩ (.slice a1 m1 c1)) ⟨w.heap.size+1+1,4,none⟩ (.slice a2 m2 c2)) ⟨w.heap.size+1+1,0,none⟩ (.int .u8 91)) (fun g=>g=w.heap.size+2):=(Fr.five w2 (w.heap.size+2) (.int .u8 (dk:Int)) (.int .i64 dm) (.string dtx) (.slice a1 m1 c1) (.slice a2 m2 c2)).setCell ⟨w.heap.size+2,0,none⟩ (.int .u8 91) (fun _=>rfl)
 have M6:=M2.out.own (F6.mono (fun _ _ e=>by omega))
 rcases hJ2.out with⟨d,hr,rfl,hdv⟩|⟨hr,rfl⟩
 ·rcases hJ.out with⟨_,hb,rfl,rfl⟩|⟨_,_,rfl⟩
  ·refine dat_good M6 (((hdv.fr F6 (fun g hg e=>by omega)).mono (fun g _ hg=>by omega)).recast 91) hF ?_
   simp only[rdT]
   rw[rdWrap_list hb]
   rw[if_neg (by decide)] at hr
   exact congrArg (Option.map _) hr
  ·cases hr
 ·refine dat_bad M6 ⟨_,_,_,rfl⟩ ⟨_,_,_,rfl⟩ hF ?_
  simp only[rdT]
  rcases hJ.out with⟨_,hb,rfl,rfl⟩|⟨hb,_,rfl⟩
  ·rw[rdWrap_list hb]
   rw[if_neg (by decide)] at hr
   exact congrArg (Option.map _) hr
  ·unfold rdWrap
   rw[if_neg (by simpa using hb)]
set_option maxHeartbeats 4000000 in
set_option maxRecDepth 100000 in
theorem dat_wrap123 {s:ByteArray}{env:Nat→Option PB}{pl:Bool}{ts:List TR}{f p i:Nat}{t:PT}(hR:∀ j,i<j→j≤s.size→DatOK s env pl ts f t j):DatOK s env pl ts (f+1) (.wrap 123 p t) i:=by
 intro w P bl bz k M hk
 obtain⟨kj,hk,hkt⟩:=hk
 obtain⟨g,m,cap,sv,z0,hkm,z1,z2,ho,hoP⟩:=M.Z.type hk
 simp only[Int.cast_ofNat_Int] at z1
 obtain⟨POST,hPOST⟩:∃ Q,Hid (Q=DatPost w bl s bz pl (rdT s env pl (f+1) (.wrap 123 p t) i)):=⟨_,rfl⟩
 rw[← hPOST.out]
 have hl1:=M.lt
 have hl2:=cell_lt z0
 have hl3:=cell_lt z1
 have c3:=M.L.c3
 have c2:=M.L.c2
 have hjl:=M.jl
 have hsl:=M.sl
 obtain⟨h0,sc,rfl⟩:=own_form ho (by simp)
 have hx0:=own_cell ho rfl (k:=0) (x:=.int .i64 (kj:Int)) rfl
 have hl4:=cell_lt hx0
 have hPh:P h0:=hoP h0 rfl
 have hPl:=M.Plt h0 hPh
 have hnh:h0≠bl:=fun e=>M.nP (e▸hPh)
 have M0:=hide (dw_M M 123 (.slice (some ⟨h0,0,none⟩) 1 sc))
 have B0:=hide (dw_0 w 123 (.slice (some ⟨h0,0,none⟩) 1 sc))
 have B1:=hide (dw_1 w 123 (.slice (some ⟨h0,0,none⟩) 1 sc))
 have B2:=hide (dw_2 w 123 (.slice (some ⟨h0,0,none⟩) 1 sc))
 have hx1:=hide (show(dw w 123 (.slice (some ⟨h0,0,none⟩) 1 sc)).cell? ⟨h0,0,none⟩=some (.int .i64 (kj:Int)) from cell_alloc3 hx0 _ _ _)
 have hdl:=hide (show(dw w 123 (.slice (some ⟨h0,0,none⟩) 1 sc)).heap.size=w.heap.size+3 by simp[dw])
 have d2:=fun X Y Z=>cell_alloc3 c2 X Y Z
 have hkm':(k:Int)<(m:Int):=by omega
 replace M:=hide M
 replace ho:=hide ho
 replace hoP:=hide hoP
 replace hk:=hide hk
 replace hkt:=hide hkt
 replace hR:=hide hR
 go_enter Tryz.func34,Tryz.ntmps34
 go_wp2_with (first
  |(go_at_call 59;refine(leat_any 123 M0.out.L hsl hjl rfl (by decide)).mono ?_;rintro e w1 ⟨rfl,hE⟩;obtain⟨j1,bad1,M1,F1,hJ⟩:=LEat.any (by decide) M0.out hE;have D0:=F1.blk B0.out (by omega);have D1:=F1.blk B1.out (by omega);have D2:=F1.blk B2.out (by omega);have u1:=D1.cell 1;have x1:=(World.cell?_of_block (a:=⟨h0,0,none⟩) (F1.block h0 (by rw[hdl.out];omega) hnh)).trans hx1.out;simp only[List.getElem?_cons_zero,List.getElem?_cons_succ] at u1;have hs1:=F1.size;rw[hdl.out] at hs1;replace M1:=hide M1;replace F1:=hide F1;replace D0:=hide D0;replace D1:=hide D1;replace D2:=hide D2;clear hE)
  |(go_at_call 63;refine(list_any (f:=f) 125 M1.out.here hkt.out rfl (by decide) (fun hb j h1 h2=>hR.out j (by rcases hJ.out with⟨_,_,h,_⟩|⟨_,_,h⟩;omega;rw[h] at hb;cases hb) h2)).mono ?_;intro e w2 hP;obtain⟨dk,dm,dtx,a1,m1,c1,a2,m2,c2,j2,bad2,rfl,M2,F2,hJ2⟩:=DatPost.any M1.out hP;have E0:=F2.blk D0.out (by omega);have E2:=F2.blk D2.out (by omega);have y0:=E2.cell 0;have z5:=E2.thaw 0;have y1:=E2.cell 1;have z6:=E2.thaw 1;have y2:=E2.cell 2;have z7:=E2.thaw 2;have y3:=E2.cell 3;have z8:=E2.thaw 3;have y4:=E2.cell 4;have z9:=E2.thaw 4;simp only[dvals,List.getElem?_cons_zero,List.getElem?_cons_succ,Int.cast_ofNat_Int] at y0 y1 y2 y3 y4;have G2:=Blk.five E2 (.int .u8 (dk:Int)) (.int .i64 dm) (.string dtx) (.slice a1 m1 c1) (.slice a2 m2 c2);have G0:=(Fr.five w2 (w.heap.size+2) (.int .u8 (dk:Int)) (.int .i64 dm) (.string dtx) (.slice a1 m1 c1) (.slice a2 m2 c2)).blk E0 (by omega);have y5:=G2.cell 0;have y6:=G2.thaw 0;have H2:=Blk.set G2 0 (.int .u8 123);have H0:=Blk.other G0 (a:=⟨w.heap.size+2,0,none⟩) (.int .u8 123) (by simp);have r0:=H0.cell 0;have r1:=H0.cell 1;have r2:=H0.cell 2;have r3:=H0.cell 3;have r4:=H0.cell 4;have t0:=H2.cell 0;have t1:=H2.cell 1;have t2:=H2.cell 2;have t3:=H2.cell 3;have t4:=H2.cell 4;have g0:=H0.thaw 0;have g1:=H0.thaw 1;have g2:=H0.thaw 2;have g3:=H0.thaw 3;have g4:=H0.thaw 4;simp only[zeroDat,dvals,List.getElem?_cons_zero,List.getElem?_cons_succ,List.set_cons_zero,Int.cast_ofNat_Int] at r0 r1 r2 r3 r4 t0 t1 t2 t3 t4 y5;replace M2:=hide M2;replace F2:=hide F2;replace E0:=hide E0;replace E2:=hide E2;replace G0:=hide G0;replace G2:=hide G2;replace H0:=hide H0;replace H2:=hide H2;clear hP))
 have L5:=Blk.five H0.out (.int .u8 123) (.int .i64 dm) (.string dtx) (.slice a1 m1 c1) (.slice a2 m2 c2)
 have q0:=L5.cell 0
 have q1:=L5.cell 1
 have q2:=L5.cell 2
 have q3:=L5.cell 3
 have q4:=L5.cell 4
 simp only[List.getElem?_cons_zero,List.getElem?_cons_succ] at q0 q1 q2 q3 q4
 have hF:=Fr.five (World.setCell (World.setCell (World.setCell (World.setCell (World.setCell (World.setCell w2 ⟨w.heap.size+1+1,0,none⟩ (.int .u8 (dk:Int))) ⟨w.heap.size+1+1,1,none⟩ (.int .i64 dm)) ⟨w.heap.size+1+1,2,none⟩ (.string dtx)) ⟨w.heap.size+1+1,3,none⟩ (.slice a1 m1 c1)) ⟨w.heap.size+1+1,4,none⟩ (.slice a2 m2 c2)) ⟨w.heap.size+1+1,0,none⟩ (.int .u8 123)) (w.heap.size) (.int .u8 123) (.int .i64 dm) (.string dtx) (.slice a1 m1 c1) (.slice a2 m2 c2)
 generalize (((((World.setCell (World.setCell (World.setCell (World.setCell (World.setCell (World.setCell (World.setCell w2 ⟨w.heap.size+1+1,0,none⟩ (.int .u8 (dk:Int))) ⟨w.heap.size+1+1,1,none⟩ (.int .i64 dm)) ⟨w.heap.size+1+1,2,none⟩ (.string dtx)) ⟨w.heap.size+1+1,3,none⟩ (.slice a1 m1 c1)) ⟨w.heap.size+1+1,4,none⟩ (.slice a2 m2 c2)) ⟨w.heap.size+1+1,0,none⟩ (.int .u8 123)) ⟨w.heap.size,0,none⟩ (.int .u8 123)).setCell ⟨w.heap.size,1,none⟩ (.int .i64 dm)).setCell ⟨w.heap.size,2,none⟩ (.string dtx)).setCell ⟨w.heap.size,3,none⟩ (.slice a1 m1 c1)).setCell ⟨w.heap.size,4,none⟩ (.slice a2 m2 c2))=W5 at *
 refine bodyPost_ret (v:=.agg (dvals 123 dm dtx (.slice a1 m1 c1) (.slice a2 m2 c2)).toArray) (by simp[results,Tryz.results34,go_sem,q0,q1,q2,q3,q4,dvals]) rfl ?_
 rw[hPOST.out]
 have F6:Fr w2 (World.setCell (World.setCell (World.setCell (World.setCell (World.setCell (World.setCell w2 ⟨w.heap.size+1+1,0,none⟩ (.int .u8 (dk:Int))) ⟨w.heap.size+1+1,1,none⟩ (.int .i64 dm)) ⟨w.heap.size+1+1,2,none⟩ (.string dtx)) ⟨w.heap.size+1+1,3,none⟩ (.slice a1 m1 c1)) ⟨w.heap.size+1+1,4,none⟩ (.slice a2 m2 c2)) ⟨w.heap.size+1+1,0,none⟩ (.int .u8 123)) (fun g=>g=w.heap.size+2):=(Fr.five w2 (w.heap.size+2) (.int .u8 (dk:Int)) (.int .i64 dm) (.string dtx) (.slice a1 m1 c1) (.slice a2 m2 c2)).setCell ⟨w.heap.size+2,0,none⟩ (.int .u8 123) (fun _=>rfl)
 have M6:=M2.out.own (F6.mono (fun _ _ e=>by omega))
 rcases hJ2.out with⟨d,hr,rfl,hdv⟩|⟨hr,rfl⟩
 ·rcases hJ.out with⟨_,hb,rfl,rfl⟩|⟨_,_,rfl⟩
  ·refine dat_good M6 (((hdv.fr F6 (fun g hg e=>by omega)).mono (fun g _ hg=>by omega)).recast 123) hF ?_
   simp only[rdT]
   rw[rdWrap_list hb]
   rw[if_neg (by decide)] at hr
   exact congrArg (Option.map _) hr
  ·cases hr
 ·refine dat_bad M6 ⟨_,_,_,rfl⟩ ⟨_,_,_,rfl⟩ hF ?_
  simp only[rdT]
  rcases hJ.out with⟨_,hb,rfl,rfl⟩|⟨hb,_,rfl⟩
  ·rw[rdWrap_list hb]
   rw[if_neg (by decide)] at hr
   exact congrArg (Option.map _) hr
  ·unfold rdWrap
   rw[if_neg (by simpa using hb)]
open Go.RowKit
section
variable {w W W':World} {P:Nat→Prop} {bl:Nat} {s:ByteArray} {bz:Nat} {pl:Bool} {j:Nat} {ts:List TR} {env:Nat→Option PB} {k:Nat} {n:Int} {tx:ByteArray} {vk vs:Value} {d:DT} {r:Option (DT×Nat)}
theorem dat_good' (b0:Nat) (hb:w.heap.size≤b0) (M:DM w P bl s bz pl j false ts env W) (hD:DVal W (fun g=>w.heap.size≤g∧g≠b0) d (dvals k n tx vk vs)) (hF:Fr W W' (fun g=>g=b0)) (hr:r=some (d,j)) :
 DatPost w bl s bz pl r (.returned (.agg (dvals k n tx vk vs).toArray)) W':=by
 have M':=M.own (hF.mono (fun _ _ e=>by omega))
 have hD':=(hD.fr hF (fun g hg=>hg.2)).mono (Q:=fun g=>w.heap.size≤g) (fun g _ hg=>hg.1)
 refine⟨k,n,tx,vk,vs,rfl,?_,?_,M'.fr,?_⟩
 ·generalize hv:dvals k n tx vk vs=v at hD
  cases hD with
  | mk X hk hkP hs hsP hd=>
   simp only[dvals,List.cons.injEq,and_true] at hv
   obtain⟨_,_,_,rfl,rfl⟩:=hv
   exact own_slice hk
 ·generalize hv:dvals k n tx vk vs=v at hD
  cases hD with
  | mk X hk hkP hs hsP hd=>
   simp only[dvals,List.cons.injEq,and_true] at hv
   obtain⟨_,_,_,rfl,rfl⟩:=hv
   exact own_slice hs
 ·subst hr
  exact⟨M.jl,M'.L,hD'⟩
theorem dat_bad' (b0:Nat) (hb:w.heap.size≤b0) (M:DM w P bl s bz pl j true ts env W) (h1:∃ a m c,vk=.slice a m c) (h2:∃ a m c,vs=.slice a m c) (hF:Fr W W' (fun g=>g=b0)) (hr:r=none) :
 DatPost w bl s bz pl r (.returned (.agg (dvals k n tx vk vs).toArray)) W':=by
 have M':=M.own (hF.mono (fun _ _ e=>by omega))
 refine⟨k,n,tx,vk,vs,rfl,h1,h2,M'.fr,?_⟩
 subst hr
 exact⟨j,M.jl,M'.L⟩
end
theorem DVal.one {w:World}{P:Nat→Prop}{d:DT}{v:List Value}(h:DVal w P d v) (g:Nat) (hg:P g) (ho:w.ownsRow 0 37 5 (.slice (some ⟨g,0,none⟩) 1 1) 1 v) (k:Nat) (n:Int) (tx:ByteArray) :
 DVal w P (.mk k n tx [] [d]) (dvals k n tx (.slice none 0 0) (.slice (some ⟨g,0,none⟩) 1 1)):=by
 refine .mk (fun _=>v) (World.ownsRow_nil _ _ _ _) (fun g e=>by simp[Value.ownBlock] at e) ?_ (fun g' e=>?_) (fun i e he=>?_)
 ·simpa[List.range_succ] using ho
 ·simp only[Value.ownBlock,Option.some.injEq] at e;subst e;exact hg
 ·cases i with
  | zero=>simp only[List.getElem?_cons_zero,Option.some.injEq] at he;subst he;exact h
  | succ i=>simp at he
def bw (w:World) (sv:Value):World:=
 ((w.alloc (.cells #[.int .u8 40,sv] 77)).alloc (.cells zeroDat.toArray 37)).alloc (.cells (dvals 40 0 noB (.slice none 0 0) (.slice none 0 0)).toArray 37)
theorem bw_0 (w:World) (sv:Value):Blk (bw w sv) w.heap.size [.int .u8 40,sv] 77:=((Blk.new w _ _).alloc _).alloc _
theorem bw_1 (w:World) (sv:Value):Blk (bw w sv) (w.heap.size+1) zeroDat 37:=by
 have:=(Blk.new (w.alloc (.cells #[.int .u8 40,sv] 77)) zeroDat.toArray 37).alloc (.cells (dvals 40 0 noB (.slice none 0 0) (.slice none 0 0)).toArray 37)
 simpa[bw] using this
theorem bw_2 (w:World) (sv:Value):Blk (bw w sv) (w.heap.size+2) (dvals 40 0 noB (.slice none 0 0) (.slice none 0 0)) 37:=by
 have:=Blk.new ((w.alloc (.cells #[.int .u8 40,sv] 77)).alloc (.cells zeroDat.toArray 37)) (dvals 40 0 noB (.slice none 0 0) (.slice none 0 0)).toArray 37
 simpa[bw] using this
theorem bw_M {w:World}{P:Nat→Prop}{bl:Nat}{s:ByteArray}{bz:Nat}{pl:Bool}{j:Nat}{bad:Bool}{ts:List TR}{env:Nat→Option PB}(M:DM w P bl s bz pl j bad ts env w) (sv:Value):DM w P bl s bz pl j bad ts env (bw w sv):=((M.alloc _).alloc _).alloc _
def oneR (n:Int):Option (DT×Nat)→Option (DT×Nat)
 | none=>none
 | some (d,j)=>some (.mk 40 n noB [] [d],j)
set_option maxHeartbeats 4000000 in
set_option maxRecDepth 100000 in
theorem branch_plain {w:World}{P:Nat→Prop}{bl:Nat}{s:ByteArray}{bz:Nat}{i:Nat}{ts:List TR}{env:Nat→Option PB}{f:Nat}{t:PT}{h0 sn sc kj:Nat}(M:DM w P bl s bz true i false ts env w) (hx0:w.cell? ⟨h0,0,none⟩=some (.int .i64 (kj:Int))) (hsn:0<sn) (hkt:isT ts kj t) (hR:DatOK s env true ts f t i) :
 Calls Tryz.prog 64 #[.pointer (some ⟨bl,0,none⟩),.agg #[.int .u8 40,.slice (some ⟨h0,0,none⟩) sn sc]] w (DatPost w bl s bz true (oneR 0 (rdT s env true f t i))):=by
 obtain⟨POST,hPOST⟩:∃ Q,Hid (Q=DatPost w bl s bz true (oneR 0 (rdT s env true f t i))):=⟨_,rfl⟩
 rw[← hPOST.out]
 have hl1:=M.lt
 have hl2:=cell_lt hx0
 have hsl:=M.sl
 have hjl:=M.jl
 have c4:=M.L.c4
 have d4:=fun X Y Z=>cell_alloc3 c4 X Y Z
 have dx:=fun X Y Z=>cell_alloc3 hx0 X Y Z
 have M0:=hide (bw_M M (.slice (some ⟨h0,0,none⟩) sn sc))
 have B0:=bw_0 w (.slice (some ⟨h0,0,none⟩) sn sc)
 have b1:=B0.cell 1
 simp only[bw,zeroDat,dvals,noB,List.getElem?_cons_zero,List.getElem?_cons_succ,Int.cast_ofNat_Int] at b1
 have B1:=hide (bw_1 w (.slice (some ⟨h0,0,none⟩) sn sc))
 have B2:=hide (bw_2 w (.slice (some ⟨h0,0,none⟩) sn sc))
 have hdl:=hide (show(bw w (.slice (some ⟨h0,0,none⟩) sn sc)).heap.size=w.heap.size+3 by simp[bw])
 clear B0
 replace M:=hide M
 replace hkt:=hide hkt
 replace hR:=hide hR
 go_enter Tryz.func64,Tryz.ntmps64
 go_wp2_with (go_at_call 34;refine(hR.out _ P bl bz kj M0.out.here hkt.out).mono ?_;intro e w2 hP;obtain⟨dk,dm,dtx,a1,m1,c1,a2,m2,c2,j2,bad2,rfl,M2,F2,hJ2⟩:=DatPost.any M0.out hP;have hs2:=F2.size;rw[hdl.out] at hs2;have E1:=F2.blk B1.out (by omega);have E2:=F2.blk B2.out (by omega);have M4:=(M2.alloc (.cells #[.int .u8 (dk:Int),.int .i64 dm,.string dtx,.slice a1 m1 c1,.slice a2 m2 c2] 37)).alloc (.cells #[.int .u8 (dk:Int),.int .i64 dm,.string dtx,.slice a1 m1 c1,.slice a2 m2 c2] 37);have J1:=(E1.alloc (.cells #[.int .u8 (dk:Int),.int .i64 dm,.string dtx,.slice a1 m1 c1,.slice a2 m2 c2] 37)).alloc (.cells #[.int .u8 (dk:Int),.int .i64 dm,.string dtx,.slice a1 m1 c1,.slice a2 m2 c2] 37);have J2:=(E2.alloc (.cells #[.int .u8 (dk:Int),.int .i64 dm,.string dtx,.slice a1 m1 c1,.slice a2 m2 c2] 37)).alloc (.cells #[.int .u8 (dk:Int),.int .i64 dm,.string dtx,.slice a1 m1 c1,.slice a2 m2 c2] 37);have y4:=J2.cell 4;have y5:=J2.thaw 4;have K2:=Blk.set J2 4 (.slice (some ⟨w2.heap.size+1,0,none⟩) 1 1);have K1:=Blk.other J1 (a:=⟨w.heap.size+1+1,4,none⟩) (.slice (some ⟨w2.heap.size+1,0,none⟩) 1 1) (by simp);have r0:=K1.cell 0;have r1:=K1.cell 1;have r2:=K1.cell 2;have r3:=K1.cell 3;have r4:=K1.cell 4;have t0:=K2.cell 0;have t1:=K2.cell 1;have t2:=K2.cell 2;have t3:=K2.cell 3;have t4:=K2.cell 4;have g0:=K1.thaw 0;have g1:=K1.thaw 1;have g2:=K1.thaw 2;have g3:=K1.thaw 3;have g4:=K1.thaw 4;simp only[zeroDat,dvals,List.getElem?_cons_zero,List.getElem?_cons_succ,List.set_cons_zero,List.set_cons_succ,Int.cast_ofNat_Int] at r0 r1 r2 r3 r4 t0 t1 t2 t3 t4 y4 y5 g0 g1 g2 g3 g4;replace M2:=hide M2;replace F2:=hide F2;replace E1:=hide E1;replace E2:=hide E2;replace M4:=hide M4;replace J1:=hide J1;replace J2:=hide J2;replace K1:=hide K1;replace K2:=hide K2;clear hP)
 have L5:=Blk.five K1.out (.int .u8 40) (.int .i64 0) (.string noB) (.slice none 0 0) (.slice (some ⟨w2.heap.size+1,0,none⟩) 1 1)
 have q0:=L5.cell 0
 have q1:=L5.cell 1
 have q2:=L5.cell 2
 have q3:=L5.cell 3
 have q4:=L5.cell 4
 simp only[List.getElem?_cons_zero,List.getElem?_cons_succ] at q0 q1 q2 q3 q4
 have hF:=Fr.five (World.setCell ((w2.alloc (.cells #[.int .u8 (dk:Int),.int .i64 dm,.string dtx,.slice a1 m1 c1,.slice a2 m2 c2] 37)).alloc (.cells #[.int .u8 (dk:Int),.int .i64 dm,.string dtx,.slice a1 m1 c1,.slice a2 m2 c2] 37)) ⟨w.heap.size+1+1,4,none⟩ (.slice (some ⟨w2.heap.size+1,0,none⟩) 1 1)) (w.heap.size+1) (.int .u8 40) (.int .i64 0) (.string noB) (.slice none 0 0) (.slice (some ⟨w2.heap.size+1,0,none⟩) 1 1)
 generalize (((((World.setCell (World.setCell ((w2.alloc (.cells #[.int .u8 (dk:Int),.int .i64 dm,.string dtx,.slice a1 m1 c1,.slice a2 m2 c2] 37)).alloc (.cells #[.int .u8 (dk:Int),.int .i64 dm,.string dtx,.slice a1 m1 c1,.slice a2 m2 c2] 37)) ⟨w.heap.size+1+1,4,none⟩ (.slice (some ⟨w2.heap.size+1,0,none⟩) 1 1)) ⟨w.heap.size+1,0,none⟩ (.int .u8 40)).setCell ⟨w.heap.size+1,1,none⟩ (.int .i64 0)).setCell ⟨w.heap.size+1,2,none⟩ (.string noB)).setCell ⟨w.heap.size+1,3,none⟩ (.slice none 0 0)).setCell ⟨w.heap.size+1,4,none⟩ (.slice (some ⟨w2.heap.size+1,0,none⟩) 1 1))=W5 at *
 refine bodyPost_ret (v:=.agg (dvals 40 0 noB (.slice none 0 0) (.slice (some ⟨w2.heap.size+1,0,none⟩) 1 1)).toArray) (by simp[results,Tryz.results64,go_sem,q0,q1,q2,q3,q4,dvals]) rfl ?_
 rw[hPOST.out]
 have M5:=M4.out.put ⟨w.heap.size+1+1,4,none⟩ (.slice (some ⟨w2.heap.size+1,0,none⟩) 1 1) (by show w.heap.size≤w.heap.size+1+1;omega)
 rcases hJ2.out with⟨d,hr,rfl,hdv⟩|⟨hr,rfl⟩
 ·have hfr:Fr w2 (World.setCell ((w2.alloc (.cells #[.int .u8 (dk:Int),.int .i64 dm,.string dtx,.slice a1 m1 c1,.slice a2 m2 c2] 37)).alloc (.cells #[.int .u8 (dk:Int),.int .i64 dm,.string dtx,.slice a1 m1 c1,.slice a2 m2 c2] 37)) ⟨w.heap.size+1+1,4,none⟩ (.slice (some ⟨w2.heap.size+1,0,none⟩) 1 1)) (fun g=>g=w.heap.size+2):=((((Fr.refl w2 (fun g=>g=w.heap.size+2)).alloc _).alloc _).setCell _ _ (fun _=>rfl))
  have hrow:((w2.alloc (.cells #[.int .u8 (dk:Int),.int .i64 dm,.string dtx,.slice a1 m1 c1,.slice a2 m2 c2] 37)).alloc (.cells #[.int .u8 (dk:Int),.int .i64 dm,.string dtx,.slice a1 m1 c1,.slice a2 m2 c2] 37)).ownsRow 0 37 5 (.slice (some ⟨w2.heap.size+1,0,none⟩) 1 1) 1 (dvals dk dm dtx (.slice a1 m1 c1) (.slice a2 m2 c2)):=by
   have:=World.ownsRow_lit (base:=0) (e:=37) (size:=5) (w2.alloc (.cells #[.int .u8 (dk:Int),.int .i64 dm,.string dtx,.slice a1 m1 c1,.slice a2 m2 c2] 37)) #[.int .u8 (dk:Int),.int .i64 dm,.string dtx,.slice a1 m1 c1,.slice a2 m2 c2] 1 (Nat.zero_le _) (by simp[maxLen]) rfl
   have e:(w2.alloc (.cells #[.int .u8 (dk:Int),.int .i64 dm,.string dtx,.slice a1 m1 c1,.slice a2 m2 c2] 37)).heap.size=w2.heap.size+1:=by simp
   rw[e] at this
   exact this
  have hrow':=ownsRow_fr hrow ((Fr.refl _ (fun g=>g=w.heap.size+2)).setCell ⟨w.heap.size+1+1,4,none⟩ (.slice (some ⟨w2.heap.size+1,0,none⟩) 1 1) (fun _=>rfl)) (fun g hg e=>by simp only[Value.ownBlock,Option.some.injEq] at hg;omega)
  refine dat_good' (w.heap.size+1) (by omega) M5 (DVal.one ((hdv.fr hfr (fun g hg e=>by rw[hdl.out] at hg;omega)).mono (fun g _ hg=>⟨by rw[hdl.out] at hg;omega,by rw[hdl.out] at hg;omega⟩)) (w2.heap.size+1) ⟨by omega,by omega⟩ hrow' 40 0 noB) hF ?_
  rw[hr];rfl
 ·exact dat_bad' (w.heap.size+1) (by omega) M5 ⟨_,_,_,rfl⟩ ⟨_,_,_,rfl⟩ hF (by rw[hr];rfl)
open Go.RowKit
def BrOK (s:ByteArray) (env:Nat→Option PB) (pl:Bool) (ts:List TR) (f:Nat) (l:List PT) (i:Nat):Prop:=
 ∀ (w:World) (P:Nat→Prop) (bl bz:Nat) (js:List Nat) (h0 sn sc:Nat),DM w P bl s bz pl i false ts env w→isTs ts js l→w.ownsRow 0 3 1 (.slice (some ⟨h0,0,none⟩) sn sc) js.length (js.map fun (n:Nat)=>Value.int .i64 (n:Int))→P h0→
  Calls Tryz.prog 64 #[.pointer (some ⟨bl,0,none⟩),.agg #[.int .u8 40,.slice (some ⟨h0,0,none⟩) sn sc]] w (DatPost w bl s bz pl (rdBranch (rdT s env pl f) s pl l i))
theorem own_n {w:World}{base:Nat}{e:TypeId}{size:Nat}{n:Nat}{xs:List Value}{a:Option Addr}{m c:Nat}(h:w.ownsRow base e size (.slice a m c) n xs):m=n:=by
 rcases h.2 with⟨h1,h0⟩|⟨g,cap,_,h1,_⟩
 ·cases h1;exact h0.symm
 ·cases h1;rfl
theorem br_plain {s:ByteArray}{env:Nat→Option PB}{ts:List TR}{f:Nat}{l:List PT}{i:Nat}(hl:l≠[]) (hR:∀ t∈l,DatOK s env true ts f t i):BrOK s env true ts f l i:=by
 intro w P bl bz js h0 sn sc M hjs ho _
 cases l with
 | nil=>exact absurd rfl hl
 | cons t r=>
  obtain⟨j,q,rfl,hj,_⟩:=hjs
  have hx0:=own_cell ho (g:=h0) (cap:=sc) (by rw[own_n ho]) (k:=0) (x:=.int .i64 (j:Int)) rfl
  have hn:=own_n ho
  have h:=branch_plain (sn:=sn) (sc:=sc) M hx0 (by rw[hn];simp) hj (hR t (by simp))
  have e:rdBranch (rdT s env true f) s true (t::r) i=oneR 0 (rdT s env true f t i):=by
   unfold rdBranch oneR
   rw[if_pos rfl]
   rfl
  rw[e]
  exact h
set_option maxHeartbeats 4000000 in
set_option maxRecDepth 100000 in
theorem dat_alts {s:ByteArray}{env:Nat→Option PB}{pl:Bool}{ts:List TR}{f p i:Nat}{l:List PT}(hne:l≠[]) (hB:BrOK s env pl ts f l i):DatOK s env pl ts (f+1) (.alts p l) i:=by
 intro w P bl bz k M hk
 obtain⟨js,hk,hkt⟩:=hk
 obtain⟨g,m,cap,sv,z0,hkm,z1,z2,ho,hoP⟩:=M.Z.type hk
 simp only[Int.cast_ofNat_Int] at z1
 obtain⟨POST,hPOST⟩:∃ Q,Hid (Q=DatPost w bl s bz pl (rdT s env pl (f+1) (.alts p l) i)):=⟨_,rfl⟩
 rw[← hPOST.out]
 have hjn:0<js.length:=by rw[isTs_len hkt];exact List.length_pos_iff.2 hne
 have hl1:=M.lt
 have hl2:=cell_lt z0
 have hl3:=cell_lt z1
 have c3:=M.L.c3
 have c2:=M.L.c2
 have hjl:=M.jl
 have hsl:=M.sl
 obtain⟨h0,sc,rfl⟩:=own_form ho hjn
 have hPh:P h0:=hoP h0 rfl
 obtain⟨sn,hsn⟩:∃ n,n=js.length:=⟨_,rfl⟩
 simp only[← hsn] at z2 ho
 replace hsn:=hide hsn
 have M0:=hide (dw_M M 40 (.slice (some ⟨h0,0,none⟩) sn sc))
 have B0:=hide (dw_0 w 40 (.slice (some ⟨h0,0,none⟩) sn sc))
 have B1:=dw_1 w 40 (.slice (some ⟨h0,0,none⟩) sn sc)
 have u0:=B1.cell 0
 have u1:=B1.cell 1
 simp only[dw,zeroDat,dvals,noB,List.getElem?_cons_zero,List.getElem?_cons_succ,Int.cast_ofNat_Int] at u0 u1
 have ho1:=hide (ownsRow_fr ho ((((Fr.refl w (fun _=>False)).alloc (.cells zeroDat.toArray 37)).alloc (.cells #[.int .u8 40,.slice (some ⟨h0,0,none⟩) sn sc] 77)).alloc (.cells (dvals 40 0 noB (.slice none 0 0) (.slice none 0 0)).toArray 37)) (fun _ _ f=>f))
 have hdl:=hide (show(dw w 40 (.slice (some ⟨h0,0,none⟩) sn sc)).heap.size=w.heap.size+3 by simp[dw])
 have d2:=fun X Y Z=>cell_alloc3 c2 X Y Z
 have hkm':(k:Int)<(m:Int):=by omega
 clear B1
 replace M:=hide M
 replace ho:=hide ho
 replace hoP:=hide hoP
 replace hk:=hide hk
 replace hkt:=hide hkt
 replace hB:=hide hB
 go_enter Tryz.func34,Tryz.ntmps34
 go_wp2_with (go_at_call 64;refine(hB.out _ P bl bz js h0 sn sc M0.out.here hkt.out (by rw[← hsn.out];exact ho1.out) hPh).mono ?_;intro e w2 hP;obtain⟨dk,dm,dtx,a1,m1,c1,a2,m2,c2,j2,bad2,rfl,M2,F2,hJ2⟩:=DatPost.any M0.out hP;have D0:=F2.blk B0.out (by omega);have r0:=D0.cell 0;have r1:=D0.cell 1;have r2:=D0.cell 2;have r3:=D0.cell 3;have r4:=D0.cell 4;have g0:=D0.thaw 0;have g1:=D0.thaw 1;have g2:=D0.thaw 2;have g3:=D0.thaw 3;have g4:=D0.thaw 4;simp only[zeroDat,dvals,List.getElem?_cons_zero,List.getElem?_cons_succ,Int.cast_ofNat_Int] at r0 r1 r2 r3 r4;replace M2:=hide M2;replace F2:=hide F2;replace D0:=hide D0;clear hP)
 have L5:=Blk.five D0.out (.int .u8 (dk:Int)) (.int .i64 dm) (.string dtx) (.slice a1 m1 c1) (.slice a2 m2 c2)
 have q0:=L5.cell 0
 have q1:=L5.cell 1
 have q2:=L5.cell 2
 have q3:=L5.cell 3
 have q4:=L5.cell 4
 simp only[List.getElem?_cons_zero,List.getElem?_cons_succ] at q0 q1 q2 q3 q4
 have hF:=Fr.five w2 (w.heap.size) (.int .u8 (dk:Int)) (.int .i64 dm) (.string dtx) (.slice a1 m1 c1) (.slice a2 m2 c2)
 generalize (((((World.setCell w2 ⟨w.heap.size,0,none⟩ (.int .u8 (dk:Int))).setCell ⟨w.heap.size,1,none⟩ (.int .i64 dm)).setCell ⟨w.heap.size,2,none⟩ (.string dtx)).setCell ⟨w.heap.size,3,none⟩ (.slice a1 m1 c1)).setCell ⟨w.heap.size,4,none⟩ (.slice a2 m2 c2))=W5 at *
 refine bodyPost_ret (v:=.agg (dvals dk dm dtx (.slice a1 m1 c1) (.slice a2 m2 c2)).toArray) (by simp[results,Tryz.results34,go_sem,q0,q1,q2,q3,q4,dvals]) rfl ?_
 rw[hPOST.out]
 rcases hJ2.out with⟨d,hr,rfl,hdv⟩|⟨hr,rfl⟩
 ·exact dat_good M2.out (hdv.mono (fun g _ hg=>by rw[hdl.out] at hg;omega)) hF (by simp only[rdT];exact hr)
 ·exact dat_bad M2.out ⟨_,_,_,rfl⟩ ⟨_,_,_,rfl⟩ hF (by simp only[rdT];exact hr)
end Go.Proofs.YtiifagiebikmdaaGreatDoor
