import Derived.Test.YtiifagiebikmdaaGreatDoorW02
import Derived.Deep.LoopGhost
namespace Go.Proofs.YtiifagiebikmdaaGreatDoor
open Go.RowKit
theorem u_Use:Tryz.prog.underlying 64=some (.slice 68):=by kernel_rfl
theorem i_Use:(Tryz.prog.info? 68).map (fun i=>(i.zero,i.size,i.bytes))=some (some (.agg #[.int .u8 0,.int .i64 0]),2,16):=by kernel_rfl
theorem useCells_snoc (us:List (Nat×Nat)) (c i:Nat):useCells (us++[(c,i)])=useCells us++[.int .u8 (c:Int),.int .i64 (i:Int)]:=by simp[useCells]
theorem RAt.incI {w:World}{br:Nat}{s:ByteArray}{bz i:Nat}{b:Bool}{u:Value}{wr mx:Int}(h:RAt w br s bz ⟨i,b,u,wr,mx⟩):RAt (w.setCell ⟨br,1,none⟩ (.int .i64 ((i:Int)+1))) br s bz ⟨i+1,b,u,wr,mx⟩:=RAt.setI h (i+1)
theorem Rep.used {w w' w'':World}{X:Nat→Prop}{br bz B:Nat}{s:ByteArray}{i:Nat}{wr mx:Int}{ts:List TR}{us:List (Nat×Nat)}{zs:List Value}{tv u u':Value}{c:Nat}
 (R:Rep w X br bz B s i false wr mx ts us zs tv u) (hi:i<s.size) (ho:w'.ownsRow B 68 2 u' (us.length+1) (useCells us++[.int .u8 (c:Int),.int .i64 (i:Int)]))
 (hf:Fr w w' (fun x=>u.ownBlock=some x)) (hat:u'.ownBlock=u.ownBlock∨∃ g,u'.ownBlock=some g∧w.heap.size≤g) (hF:Fr w' w'' (· = br)) (h1:RAt w'' br s bz ⟨i+1,false,u',wr,mx⟩) :
 Rep w'' X br bz B s (i+1) false wr mx ts (us++[(c,i)]) zs tv u'∧Step w w'' br bz tv u tv u':=by
 have hnz:=own_ne R.uses R.zB
 have hz:=hf.blk R.z hnz
 have hG:Fr w w'' (fun x=>x=br∨u.ownBlock=some x):=(hf.mono (fun _ _ e=>.inr e)).trans hF (fun _ _ e=>.inl e)
 have hS:Step w w'' br bz tv u tv u':=⟨hG.mono (fun _ _ e=>e.elim .inl (fun e=>.inr (.inr (.inr e)))),.inl rfl,hat⟩
 refine⟨⟨h1,hF.blk hz (Ne.symm R.rz),?_,?_,?_,R.rB,R.zB,Nat.le_trans R.hB hG.size,R.rz,hi,R.sl,Nat.le_succ_of_le R.tl,by rw[List.length_append];exact Nat.succ_le_succ R.ul,fun g hg=>?_⟩,hS⟩
 ·obtain⟨xs,hx,hk⟩:=R.tys
  refine⟨xs,ownsRow_fr hx hG (fun g hg e=>?_),fun k t ht=>?_⟩
  ·rcases e with e|e
   ·exact own_ne hx R.rB (e▸hg)
   ·exact R.apart g hg e
  ·obtain⟨sv,a,b,d,d'⟩:=hk k t ht
   exact⟨sv,a,b,hS.subs d R.rB R.zB,d'⟩
 ·rw[useCells_snoc,List.length_append]
  exact ownsRow_fr ho hF (fun g hg e=>own_ne ho R.rB (e▸hg))
 ·intro g hg e
  rcases hat with q|⟨x,q,hx⟩
  ·exact R.apart g hg (q▸e)
  ·rw[q] at e;cases e
   obtain⟨xs,hx',_⟩:=R.tys
   have:=hx'.lt _ hg
   omega
 ·obtain⟨a1,a2,a3,a4,a5⟩:=R.av g hg
  refine⟨Nat.lt_of_lt_of_le a1 hG.size,a2,a3,a4,fun e=>?_⟩
  rcases hat with q|⟨x,q,hx⟩
  ·exact a5 (q▸e)
  ·rw[q] at e;cases e;omega
set_option maxHeartbeats 2000000 in
theorem typ_name {s:ByteArray}{i:Nat}(h:65≤bt s i∧bt s i≤70):TypOK s i:=by
 intro w X br bz B wr mx ts us zs tv u R
 have hil:i<s.size:=bt_pos (by omega)
 have hsl:=R.sl
 have hul:=R.ul
 have hPT:=pT_name h
 generalize hc:bt s i=c at *
 have fin:Hid (∀ (e:Ending) (w':World),(e=.returned (.int .i64 (ts.length:Int))∧∃ tv' u',Rep w' X br bz B s (i+1) false wr mx (ts++[⟨c,[]⟩]) (us++[(c,i)]) zs tv' u'∧Step w w' br bz tv u tv' u')→TypPost w X br bz B s i wr mx ts us zs tv u e w'):=by
  rintro e w' ⟨rfl,tv',u',h1,h2⟩
  unfold TypPost
  rw[hPT]
  refine⟨by simp[flat],tv',u',?_,h2⟩
  have hb:isBase c=false:=by simp[isBase];omega
  simpa[mix,flat,usesOf,hb] using h1
 generalize TypPost w X br bz B s i wr mx ts us zs tv u=POST at *
 clear hPT
 have n1:((c:Int)==110)=false:=by simp;omega
 have n2:((c:Int)==116)=false:=by simp;omega
 have n3:((c:Int)==105)=false:=by simp;omega
 have n4:((c:Int)==108)=false:=by simp;omega
 have n5:((c:Int)==115)=false:=by simp;omega
 have n6:((c:Int)==91)=false:=by simp;omega
 have n7:((c:Int)==123)=false:=by simp;omega
 have n8:((c:Int)==40)=false:=by simp;omega
 have n9:(decide ((65:Int)≤(c:Int))&&decide ((c:Int)≤70))=true:=by simp;omega
 have h:Hid (65≤c∧c≤70):=h
 obtain⟨ti,hi1,hi2,hi3,hi4⟩:=info_parts i_Use
 go_enter Tryz.func42,Tryz.ntmps42
 go_wp2_with (first
  |(go_at_call 39;refine(peek_rep R hc).mono ?_;rintro e w1 ⟨rfl,hw⟩;have R1:=R.still hw)
  |(go_at_call 38;refine(within_any _ _ _ _).mono ?_;rintro e w2 ⟨rfl,rfl⟩;rw[n9]))
 have c1:=R1.here.c1
 have c4:=R1.here.c4
 have hX:∀ W,Fr w2 W (fun _=>False)→W.ownsRow B 68 2 u us.length (useCells us):=fun W hf=>ownsRow_fr R1.uses hf (fun _ _=>id)
 refine wp_regionC 15 (fun W=>W.cell? ⟨br,4,none⟩=some u∧W.cell? ⟨br,1,none⟩=some (.int .i64 (i:Int))) (by kernel_rfl) ?_
 refine wpAnyC_take 0 ?v0 rfl (by kernel_rfl) (fun _ _ _ h=>h) (by rfl) ?y0 ?_
 case y0=>(intro W hW;obtain⟨q0,q1⟩:=hW;go_simp;rfl)
 refine wpAnyC_take 1 ?v1 rfl (by kernel_rfl) (fun _ _ _ h=>h) (by rfl) ?y1 ?_
 case y1=>(intro W hW;obtain⟨q0,q1⟩:=hW;go_simp;rfl)
 refine wpAnyC_take 2 ?v2 rfl (by kernel_rfl) (fun _ _ _ h=>h) (by rfl) ?y2 ?_
 case y2=>(intro W hW;obtain⟨q0,q1⟩:=hW;go_simp;rfl)
 refine wpAnyC_take 3 ?v3 rfl (by kernel_rfl) (fun _ _ _ h=>h) (by rfl) ?y3 ?_
 case y3=>(intro W hW;obtain⟨q0,q1⟩:=hW;go_simp;rfl)
 refine wpAnyC_take 4 ?v4 rfl (by kernel_rfl) (fun _ _ _ h=>h) (by rfl) ?y4 ?_
 case y4=>(intro W hW;obtain⟨q0,q1⟩:=hW;go_simp;rfl)
 refine wpAnyC_take 5 ?v5 rfl (by kernel_rfl) (fun _ _ _ h=>h) (by rfl) ?y5 ?_
 case y5=>(intro W hW;obtain⟨q0,q1⟩:=hW;go_simp;rfl)
 refine wpAnyC_take 6 ?v6 rfl (by kernel_rfl) (fun _ _ _ h=>h) (by rfl) ?y6 ?_
 case y6=>(intro W hW;obtain⟨q0,q1⟩:=hW;go_simp;rfl)
 refine wpAnyC_take 7 ?v7 rfl (by kernel_rfl) (fun _ _ _ h=>h) (by rfl) ?y7 ?_
 case y7=>(intro W hW;obtain⟨q0,q1⟩:=hW;go_simp;rfl)
 refine wpAnyC_take 8 ?v8 rfl (by kernel_rfl) (fun _ _ _ h=>h) (by rfl) ?y8 ?_
 case y8=>(intro W hW;obtain⟨q0,q1⟩:=hW;go_simp;rfl)
 refine wpAnyC_take 9 ?v9 rfl (by kernel_rfl) (fun _ _ _ h=>h) (by rfl) ?y9 ?_
 case y9=>(intro W hW;obtain⟨q0,q1⟩:=hW;go_simp;rfl)
 refine wpAnyC_take 10 ?v10 rfl (by kernel_rfl) (fun _ _ _ h=>h) (by rfl) ?y10 ?_
 case y10=>(intro W hW;obtain⟨q0,q1⟩:=hW;go_simp;rfl)
 refine wpAnyC_one 11 rfl (by kernel_rfl) (fun _=>⟨c4,c1⟩) (fun K hK=>?_)
 go_simp
 refine hK _ _ ?_
 clear hK K
 have c4a:(w2.alloc (.cells #[.int .u8 (c:Int),.int .i64 (i:Int)] 68)).cell? ⟨br,4,none⟩=some u:=Blk.cellAlloc R1.here 4 _
 have c1a:(w2.alloc (.cells #[.int .u8 (c:Int),.int .i64 (i:Int)] 68)).cell? ⟨br,1,none⟩=some (.int .i64 (i:Int)):=Blk.cellAlloc R1.here 1 _
 refine wpAnyC_one 12 rfl (by kernel_rfl) (fun _=>⟨c4a,c1a⟩) (fun K hK=>?_)
 refine step_append_own_at rfl (.tmp 79) (.tmp 86) 64 rfl B 68 ti _ 2 16 u_Use hi1 hi2 hi3 hi4 rfl (by decide) u us.length (useCells us) (by simp[Act.eval]) (hX _ (((Fr.refl w2 _).alloc _).drew)) _ 1 1 [.int .u8 (c:Int),.int .i64 (i:Int)] (by simp[Act.eval];rfl) (by simp) (news_new _ _ _ _ (by simp)) (by simp[Value.oneCell']) (by simp[maxLen];omega) (by omega) (by have:=R1.hB;simp;omega) ?_
 intro u' w3 ho hgr hat
 refine hK _ _ ?_
 clear hK K
 have hF:Fr w2 w3 (fun x=>u.ownBlock=some x):=Fr.grown (((Fr.refl w2 _).alloc _).drew) hgr (fun k e _=>e)
 have hat':u'.ownBlock=u.ownBlock∨∃ g,u'.ownBlock=some g∧w2.heap.size≤g:=hat.imp id (fun e=>⟨_,e,by simp⟩)
 have h3:RAt w3 br s bz ⟨i,false,u,wr,mx⟩:=hF.blk R1.here (own_ne R1.uses R1.rB)
 have c4':=h3.c4
 have c1':=h3.c1
 have f4':=h3.thaw 4
 have f1':=h3.thaw 1
 have h4:RAt (w3.setCell ⟨br,4,none⟩ u') br s bz ⟨i,false,u',wr,mx⟩:=RAt.setU h3 u'
 have R2:=R1.used hil ho hF hat' (((Fr.refl w3 (· = br)).setCell ⟨br,4,none⟩ u' (fun _=>rfl)).setCell ⟨br,1,none⟩ (.int .i64 ((i:Int)+1)) (fun _=>rfl)) h4.incI
 obtain⟨g,cap,rfl⟩:=own_form ho (by omega)
 clear hgr hat h3 h4
 refine wpAnyC_one 13 rfl (by kernel_rfl) (fun _=>⟨c4',c1'⟩) (fun K hK=>?_)
 go_simp
 refine hK _ _ ?_
 clear hK K
 refine wpAnyC_one 14 rfl (by kernel_rfl) (fun _=>⟨c4',c1'⟩) (fun K hK=>?_)
 go_simp
 refine hK _ _ ?_
 clear hK K
 refine wpAnyC_one 15 rfl (by kernel_rfl) (fun _=>⟨c4',c1'⟩) (fun K hK=>?_)
 go_simp
 refine hK _ _ ?_
 clear hK K
 refine wpAnyC_done (by kernel_rfl) (fun hm=>absurd hm (by decide)) ?_ _
 go_wp2_with (go_at_call 70;refine(lay_rep R2.1 (subs_nil _ _ _ _) (fun _ _=>nofun) (by have:=R1.tl;omega)).mono ?_;rintro e w4 ⟨rfl,hL⟩)
 try go_ret
 obtain⟨tv',r,st⟩:=hL
 exact fin.out _ _ ⟨rfl,tv',_,r,((Step.ofStill hw).trans R2.2).trans st⟩
open Go.RowKit
def EatRep (w:World) (X:Nat→Prop) (br bz B:Nat) (s:ByteArray) (i:Nat) (wr mx:Int) (ts:List TR) (us:List (Nat×Nat)) (zs:List Value) (tv u:Value) (c:Nat) (w':World):Prop:=
 (if bt s i=c then Rep w' X br bz B s (i+1) false wr mx ts us zs tv u else Rep w' X br bz B s i true wr mx ts us zs tv u)∧Step w w' br bz tv u tv u
theorem eat_rep {w:World}{X:Nat→Prop}{br bz B:Nat}{s:ByteArray}{i:Nat}{wr mx:Int}{ts:List TR}{us:List (Nat×Nat)}{zs:List Value}{tv u:Value}{c:Nat}(R:Rep w X br bz B s i false wr mx ts us zs tv u) (hc:0<c) :
 Calls Tryz.prog 40 #[.pointer (some ⟨br,0,none⟩),.int .u8 (c:Int)] w fun e w'=>e=.returned (.tuple #[])∧EatRep w X br bz B s i wr mx ts us zs tv u c w':=by
 have h1:=R.il
 have h2:=R.sl
 refine(eat_any R.here R.sl (by simp only;omega)).mono ?_
 rintro e w' ⟨rfl,ha,hf⟩
 refine⟨rfl,?_⟩
 unfold EatRep
 unfold RV.eat at ha
 simp only[pk_bt] at ha
 by_cases hb:bt s i=c
 ·rw[if_pos (by omega)] at ha
  rw[if_pos hb]
  exact R.move hf ha (by omega) (bt_pos (by omega))
 ·rw[if_neg (by omega)] at ha
  rw[if_neg hb]
  exact R.move hf ha (by omega) h1
theorem eat_rep' {w:World}{X:Nat→Prop}{br bz B:Nat}{s:ByteArray}{i:Nat}{wr mx:Int}{ts:List TR}{us:List (Nat×Nat)}{zs:List Value}{tv u:Value}{c:Int}(d:Nat) (R:Rep w X br bz B s i false wr mx ts us zs tv u) (hd:c=(d:Int)) (hc:0<d) :
 Calls Tryz.prog 40 #[.pointer (some ⟨br,0,none⟩),.int .u8 c] w fun e w'=>e=.returned (.tuple #[])∧EatRep w X br bz B s i wr mx ts us zs tv u d w':=by
 subst hd;exact eat_rep R hc
theorem subs_one {w:World}{X:Nat→Prop}{br bz B:Nat}{s:ByteArray}{i:Nat}{bad:Bool}{wr mx:Int}{ts:List TR}{us:List (Nat×Nat)}{zs:List Value}{tv u:Value}(R:Rep w X br bz B s i bad wr mx ts us zs tv u) (v:Nat) :
 SubsAt (w.alloc (.cells #[.int .i64 (v:Int)] 3)) B tv u (.slice (some ⟨w.heap.size,0,none⟩) 1 1) [v]:=by
 refine⟨World.ownsRow_lit w #[.int .i64 (v:Int)] 1 R.hB (by simp[maxLen]) rfl,fun g hg=>?_⟩
 simp only[Value.ownBlock,Option.some.injEq] at hg
 obtain⟨xs,hx,_⟩:=R.tys
 exact⟨fun e=>by have:=hx.lt g e;omega,fun e=>by have:=R.uses.lt g e;omega⟩
theorem new_not {w:World}{X:Nat→Prop}{br bz B:Nat}{s:ByteArray}{i:Nat}{bad:Bool}{wr mx:Int}{ts:List TR}{us:List (Nat×Nat)}{zs:List Value}{tv u:Value}(R:Rep w X br bz B s i bad wr mx ts us zs tv u){g n c:Nat}(hg:X g) :
 (Value.slice (some ⟨w.heap.size,0,none⟩) n c).ownBlock≠some g:=by
 have:=(R.av g hg).1
 simp only[Value.ownBlock,ne_eq,Option.some.injEq]
 omega
set_option maxHeartbeats 2000000 in
theorem typ_wrap {s:ByteArray}{i:Nat}(h:bt s i=91∨bt s i=123) (hT:TypOK s (i+1)):TypOK s i:=by
 intro w X br bz B wr mx ts us zs tv u R
 have hil:i<s.size:=bt_pos (by omega)
 have hsl:=R.sl
 have htl:=R.tl
 have hPT:=pT_wrap h
 generalize hc:bt s i=c at *
 cases hp:pT s (i+1) with
 | error k=>
  have fin:Hid (∀ (e:Ending) (w':World),(∃ v:Nat,e=.returned (.int .i64 (v:Int)))→(∃ mx' ts' us' tv' u',Rep w' X br bz B s k true wr mx' ts' us' zs tv' u'∧ts'.length+i≤k+ts.length∧Step w w' br bz tv u tv' u')→TypPost w X br bz B s i wr mx ts us zs tv u e w'):=by
   intro e w' h1 h2
   unfold TypPost
   rw[hPT,hp]
   exact⟨h1,h2⟩
  have hT':Hid (∀ (w:World),Rep w X br bz B s (i+1) false wr mx ts us zs tv u→Calls Tryz.prog 42 #[.pointer (some ⟨br,0,none⟩)] w fun e w'=>(∃ v:Nat,e=.returned (.int .i64 (v:Int)))∧Hid (∃ mx' ts' us' tv' u',Rep w' X br bz B s k true wr mx' ts' us' zs tv' u'∧ts'.length+(i+1)≤k+ts.length∧Step w w' br bz tv u tv' u')):=by
   intro w R
   refine(hT w X br bz B wr mx ts us zs tv u R).mono ?_
   intro e w' hh
   unfold TypPost at hh
   rw[hp] at hh
   exact hh
  generalize TypPost w X br bz B s i wr mx ts us zs tv u=POST at *
  clear hPT hT hp
  rcases h with rfl|rfl
  all_goals
   go_enter Tryz.func42,Tryz.ntmps42
   go_wp2_with (first
    |(go_at_call 39;refine(peek_rep R hc).mono ?_;rintro e w1 ⟨rfl,hw⟩;have R1:=R.still hw;have c1:=R1.here.c1;have f1:=R1.here.thaw 1)
    |(go_at_call 42;refine(hT'.out _ (R1.inc hil).1).mono ?_;rintro e w2 ⟨⟨v,rfl⟩,hR2⟩;obtain⟨mx2,ts2,us2,tv2,u2,R2,hl2,st2⟩:=hR2.out;have c2:=R2.here.c2)
    |(go_at_call 70;refine(lay_rep (R2.alloc _).1 (subs_one R2 v) (fun g hg=>new_not R2 hg) (by omega)).mono ?_;rintro e w3 ⟨rfl,hL⟩))
   try go_ret
   obtain⟨tv',r,st⟩:=hL
   exact fin.out _ _ ⟨_,rfl⟩ ⟨_,_,_,_,_,r,by simp;omega,((((Step.ofStill hw).trans (R1.inc hil).2).trans st2).trans (R2.alloc _).2).trans st⟩
 | ok q=>
  obtain⟨t,j⟩:=q
  have hcnt:=pT_count hp ts.length
  have hjb:=(pT_bounds (s:=s) (i:=i+1) hil).1 t j hp
  have hT':Hid (∀ (w:World),Rep w X br bz B s (i+1) false wr mx ts us zs tv u→Calls Tryz.prog 42 #[.pointer (some ⟨br,0,none⟩)] w fun e w'=>e=.returned (.int .i64 ((ts.length+(flat ts.length t).length-1:Nat):Int))∧Hid (∃ tv' u',Rep w' X br bz B s j false wr (mix t mx) (ts++flat ts.length t) (us++usesOf t) zs tv' u'∧Step w w' br bz tv u tv' u')):=by
   intro w R
   refine(hT w X br bz B wr mx ts us zs tv u R).mono ?_
   intro e w' hh
   unfold TypPost at hh
   rw[hp] at hh
   exact hh
  by_cases hj:bt s j=closing c
  ·have fin:Hid (∀ (e:Ending) (w':World),e=.returned (.int .i64 (((ts++flat ts.length t).length:Nat):Int))→(∃ tv' u',Rep w' X br bz B s (j+1) false wr (mix t mx) ((ts++flat ts.length t)++[⟨c,[ts.length+(flat ts.length t).length-1]⟩]) (us++usesOf t) zs tv' u'∧Step w w' br bz tv u tv' u')→TypPost w X br bz B s i wr mx ts us zs tv u e w'):=by
    intro e w' h1 h2
    unfold TypPost
    rw[hPT,hp]
    simp only[hj,if_true]
    refine⟨by rw[h1];simp[flat],?_⟩
    simpa[flat,mix,usesOf] using h2
   generalize TypPost w X br bz B s i wr mx ts us zs tv u=POST at *
   generalize hN:ts.length+(flat ts.length t).length-1=N at *
   have hlen:(ts++flat ts.length t).length<j+1:=by simp;omega
   generalize ts++flat ts.length t=TS at *
   generalize us++usesOf t=US at *
   generalize mix t mx=MX at *
   clear hPT hT hp hcnt hN
   rcases h with rfl|rfl
   all_goals
    simp[closing] at hj
    go_enter Tryz.func42,Tryz.ntmps42
    go_wp2_with (first
     |(go_at_call 39;refine(peek_rep R hc).mono ?_;rintro e w1 ⟨rfl,hw⟩;have R1:=R.still hw;have c1:=R1.here.c1;have f1:=R1.here.thaw 1)
     |(go_at_call 42;refine(hT'.out _ (R1.inc hil).1).mono ?_;rintro e w2 ⟨rfl,hR2⟩;obtain⟨tv2,u2,R2,st2⟩:=hR2.out;have c2:=R2.here.c2)
     |(go_at_call 40;refine(eat_rep' (bt s j) R2 (by omega) (by omega)).mono ?_;rintro e w3 ⟨rfl,hE,st3⟩;rw[if_pos rfl] at hE)
     |(go_at_call 70;refine(lay_rep (hE.alloc _).1 (subs_one hE N) (fun g hg=>new_not hE hg) hlen).mono ?_;rintro e w4 ⟨rfl,hL⟩))
    try go_ret
    obtain⟨tv',r,st⟩:=hL
    exact fin.out _ _ rfl ⟨_,_,r,(((((Step.ofStill hw).trans (R1.inc hil).2).trans st2).trans st3).trans (hE.alloc _).2).trans st⟩
  ·have fin:Hid (∀ (e:Ending) (w':World),(∃ v:Nat,e=.returned (.int .i64 (v:Int)))→(∃ mx' ts' us' tv' u',Rep w' X br bz B s j true wr mx' ts' us' zs tv' u'∧ts'.length+i≤j+ts.length∧Step w w' br bz tv u tv' u')→TypPost w X br bz B s i wr mx ts us zs tv u e w'):=by
    intro e w' h1 h2
    unfold TypPost
    rw[hPT,hp]
    simp only[hj,if_false]
    exact⟨h1,h2⟩
   generalize TypPost w X br bz B s i wr mx ts us zs tv u=POST at *
   generalize hN:ts.length+(flat ts.length t).length-1=N at *
   have hlen:(ts++flat ts.length t).length<j:=by simp;omega
   have hlen2:(ts++flat ts.length t).length+1+i≤j+ts.length:=by simp;omega
   generalize ts++flat ts.length t=TS at *
   generalize us++usesOf t=US at *
   generalize mix t mx=MX at *
   clear hPT hT hp hcnt hN
   obtain⟨d,hd⟩:∃ d,d=closing c:=⟨_,rfl⟩
   rw[← hd] at hj
   rcases h with rfl|rfl
   all_goals
    simp[closing] at hd
    have hd:Hid (d=_):=hd
    go_enter Tryz.func42,Tryz.ntmps42
    go_wp2_with (first
     |(go_at_call 39;refine(peek_rep R hc).mono ?_;rintro e w1 ⟨rfl,hw⟩;have R1:=R.still hw;have c1:=R1.here.c1;have f1:=R1.here.thaw 1)
     |(go_at_call 42;refine(hT'.out _ (R1.inc hil).1).mono ?_;rintro e w2 ⟨rfl,hR2⟩;obtain⟨tv2,u2,R2,st2⟩:=hR2.out;have c2:=R2.here.c2)
     |(go_at_call 40;refine(eat_rep' d R2 (by rw[hd.out];rfl) (by rw[hd.out];decide)).mono ?_;rintro e w3 ⟨rfl,hE,st3⟩;rw[if_neg hj] at hE)
     |(go_at_call 70;refine(lay_rep (hE.alloc _).1 (subs_one hE N) (fun g hg=>new_not hE hg) hlen).mono ?_;rintro e w4 ⟨rfl,hL⟩))
    try go_ret
    obtain⟨tv',r,st⟩:=hL
    exact fin.out _ _ ⟨_,rfl⟩ ⟨_,_,_,_,_,r,by rw[List.length_append];exact hlen2,(((((Step.ofStill hw).trans (R1.inc hil).2).trans st2).trans st3).trans (hE.alloc _).2).trans st⟩
open Go.RowKit
theorem own_slice {w:World}{base size n:Nat}{e:TypeId}{v:Value}{xs:List Value}(h:w.ownsRow base e size v n xs):∃ a n c,v=.slice a n c:=by
 rcases h.2 with⟨rfl,_⟩|⟨g,cap,_,rfl,_⟩
 ·exact⟨_,_,_,rfl⟩
 ·exact⟨_,_,_,rfl⟩
def AltsAny (w:World) (X:Nat→Prop) (br bz B:Nat) (s:ByteArray) (wr:Int) (zs:List Value) (tv u:Value) (Good:Nat→Bool→Int→List TR→List (Nat×Nat)→List Nat→Prop) (sv:Value) (w':World):Prop:=
 ∃ J b MX TS US L tv' u',Good J b MX TS US L∧Rep w' X br bz B s J b wr MX TS US zs tv' u'∧SubsAt w' B tv' u' sv L∧(∀ g,X g→sv.ownBlock≠some g)∧TS.length<J∧Step w w' br bz tv u tv' u'
set_option maxHeartbeats 2000000 in
theorem paren_walk {s:ByteArray}{i:Nat}(hc:bt s i=40) (Good:Nat→Bool→Int→List TR→List (Nat×Nat)→List Nat→Prop) (POST:Ending→World→Prop)
 {w:World} {X:Nat→Prop} {br bz B:Nat} {wr mx:Int} {ts:List TR} {us:List (Nat×Nat)} {zs:List Value} {tv u:Value} (R:Rep w X br bz B s i false wr mx ts us zs tv u)
 (hA:Hid (∀ (w:World),Rep w X br bz B s (i+1) false wr mx ts us zs tv u→Calls Tryz.prog 71 #[.pointer (some ⟨br,0,none⟩)] w fun e w'=>∃ sv,e=.returned (.agg #[.int .u8 40,sv])∧AltsAny w X br bz B s wr zs tv u Good sv w'))
 (fin:Hid (∀ (w':World) (J:Nat) (b:Bool) (MX:Int) (TS:List TR) (US:List (Nat×Nat)) (L:List Nat) (tv' u':Value),Good J b MX TS US L→Rep w' X br bz B s J b wr MX (TS++[⟨40,L⟩]) US zs tv' u'→Step w w' br bz tv u tv' u'→POST (.returned (.int .i64 (TS.length:Int))) w')) :
 Calls Tryz.prog 42 #[.pointer (some ⟨br,0,none⟩)] w POST:=by
 have hil:i<s.size:=bt_pos (by omega)
 have hsl:=R.sl
 go_enter Tryz.func42,Tryz.ntmps42
 go_wp2_with (first
  |(go_at_call 39;refine(peek_rep R hc).mono ?_;rintro e w1 ⟨rfl,hw⟩;have R1:=R.still hw;have c1:=R1.here.c1;have f1:=R1.here.thaw 1)
  |(go_at_call 71;refine(hA.out _ (R1.inc hil).1).mono ?_;rintro e w2 ⟨sv,rfl,hAny⟩;obtain⟨J,b,MX,TS,US,L,tv2,u2,good,R2,hs2,hX2,hl2,st2⟩:=hAny;obtain⟨sa,sn,sc,rfl⟩:=own_slice hs2.1)
  |(go_at_call 70;refine(lay_rep (R2.alloc _).1 ((R2.alloc _).2.subs hs2 R2.rB R2.zB) hX2 hl2).mono ?_;rintro e w3 ⟨rfl,hL⟩))
 try go_ret
 obtain⟨tv',r,st⟩:=hL
 exact fin.out _ _ _ _ _ _ _ _ _ good r (((((Step.ofStill hw).trans (R1.inc hil).2).trans st2).trans (R2.alloc _).2).trans st)
theorem typ_paren {s:ByteArray}{i:Nat}(hc:bt s i=40) (hA:AltsOK s (i+1)):TypOK s i:=by
 intro w X br bz B wr mx ts us zs tv u R
 have hil:i<s.size:=bt_pos (by omega)
 have htl:=R.tl
 have hPT:=pT_alts hc
 cases hp:pA s (i+1) with
 | error k=>
  refine paren_walk hc (fun J b _ TS _ _=>J=k∧b=true∧TS.length+(i+1)≤k+ts.length) _ R ?_ ?_
  ·intro w R
   refine(hA w X br bz B wr mx ts us zs tv u R).mono ?_
   rintro e w' ⟨sv,tv',u',rfl,st,hh⟩
   rw[hp] at hh
   obtain⟨mx',ts',us',l,r,hl,hs,hx⟩:=hh
   exact⟨sv,rfl,k,true,mx',ts',us',l,tv',u',⟨rfl,rfl,hl⟩,r,hs,hx,by omega,st⟩
  ·rintro w' J b MX TS US L tv' u' ⟨rfl,rfl,hl⟩ r st
   unfold TypPost
   rw[hPT,hp]
   exact⟨⟨_,rfl⟩,_,_,_,_,_,r,by rw[List.length_append];simp only[List.length_cons,List.length_nil];omega,st⟩
 | ok q=>
  obtain⟨ds,j⟩:=q
  have hcnt:=pA_count hp ts.length
  by_cases hj:bt s j=41
  ·refine paren_walk hc (fun J b MX TS US L=>J=j+1∧b=false∧MX=mixs [] ds mx∧TS=ts++flats ts.length ds∧US=us++usesAll ds∧L=nums ts.length ds) _ R ?_ ?_
   ·intro w R
    refine(hA w X br bz B wr mx ts us zs tv u R).mono ?_
    rintro e w' ⟨sv,tv',u',rfl,st,hh⟩
    rw[hp] at hh
    simp only[hj,if_true] at hh
    exact⟨sv,rfl,j+1,false,_,_,_,_,tv',u',⟨rfl,rfl,rfl,rfl,rfl,rfl⟩,hh.1,hh.2.1,hh.2.2,by rw[List.length_append];omega,st⟩
   ·rintro w' J b MX TS US L tv' u' ⟨rfl,rfl,rfl,rfl,rfl,rfl⟩ r st
    unfold TypPost
    rw[hPT,hp]
    simp only[hj,if_true]
    refine⟨by simp[flat],tv',u',?_,st⟩
    simpa[flat,mix,usesOf] using r
  ·refine paren_walk hc (fun J b _ TS _ _=>J=j∧b=true∧TS.length+(i+1)≤j+ts.length) _ R ?_ ?_
   ·intro w R
    refine(hA w X br bz B wr mx ts us zs tv u R).mono ?_
    rintro e w' ⟨sv,tv',u',rfl,st,hh⟩
    rw[hp] at hh
    simp only[hj,if_false] at hh
    obtain⟨mx',ts',us',l,r,hl,hs,hx⟩:=hh
    exact⟨sv,rfl,j,true,mx',ts',us',l,tv',u',⟨rfl,rfl,hl⟩,r,hs,hx,by omega,st⟩
   ·rintro w' J b MX TS US L tv' u' ⟨rfl,rfl,hl⟩ r st
    unfold TypPost
    rw[hPT,hp]
    simp only[hj,if_false]
    exact⟨⟨_,rfl⟩,_,_,_,_,_,r,by rw[List.length_append];simp only[List.length_cons,List.length_nil];omega,st⟩
open Go.RowKit
structure Mid (w:World) (X:Nat→Prop) (br bz B:Nat) (s:ByteArray) (j:Nat) (wg MX:Int) (TS:List TR) (US:List (Nat×Nat)) (zs:List Value) (tv u tv2 u2 sv:Value) (L:List Nat) (W:World):Prop where
 R:Rep W (fun g=>X g∨g=w.heap.size∨g=w.heap.size+1∨sv.ownBlock=some g) br bz B s j false wg MX TS US zs tv2 u2
 b2:Blk W w.heap.size [.int .u8 0,.slice none 0 0] 77
 b3:Blk W (w.heap.size+1) [.int .u8 40,sv] 77
 ss:SubsAt W B tv2 u2 sv L
 sn:∀ g,sv.ownBlock=some g→w.heap.size+2≤g
 st:Step w W br bz tv u tv2 u2
def AltInv (w:World) (X:Nat→Prop) (br bz B:Nat) (s:ByteArray) (i:Nat) (wr mx:Int) (ts:List TR) (us:List (Nat×Nat)) (zs:List Value) (tv u:Value) (n:Nat) (kv mv:Value) (W:World):Prop:=
 ∃ (ds:List PT) (i':Nat) (more:Bool) (kb:ByteArray) (sv tv' u':Value),
  kv=.string kb∧mv=.bool more∧kb.data.toList.map UInt8.toNat=ds.map PT.kind∧i+(flats ts.length ds).length≤i'∧ds.length≤i'∧
  Mid w X br bz B s i' wr (mixs [] ds mx) (ts++flats ts.length ds) (us++usesAll ds) zs tv u tv' u' sv (nums ts.length ds) W∧
  s.size+1-i'≤n∧(more=true→pA s i=ahead ds (pA s i'))∧(more=false→pA s i=.ok (ds,i'))
theorem Rep.offS {w:World}{X:Nat→Prop}{br bz B:Nat}{s:ByteArray}{i:Nat}{bad:Bool}{wr mx:Int}{ts:List TR}{us:List (Nat×Nat)}{zs:List Value}{tv u:Value}(R:Rep w X br bz B s i bad wr mx ts us zs tv u){g:Nat}(hg:X g) :
 ¬ (g=br∨g=bz∨tv.ownBlock=some g∨u.ownBlock=some g):=by
 obtain⟨_,a,b,c,d⟩:=R.av g hg
 rintro(h|h|h|h)
 ·exact a h
 ·exact b h
 ·exact c h
 ·exact d h
section
variable {w W W':World} {X:Nat→Prop} {br bz B:Nat} {s:ByteArray} {j:Nat} {wg MX:Int} {TS:List TR} {US:List (Nat×Nat)} {zs:List Value} {tv u tv2 u2 sv:Value} {L:List Nat}
theorem Mid.call (M:Mid w X br bz B s j wg MX TS US zs tv u tv2 u2 sv L W){j':Nat}{MX':Int}{TS':List TR}{US':List (Nat×Nat)}{tv3 u3:Value}
 (R':Rep W' (fun g=>X g∨g=w.heap.size∨g=w.heap.size+1∨sv.ownBlock=some g) br bz B s j' false wg MX' TS' US' zs tv3 u3) (st:Step W W' br bz tv2 u2 tv3 u3):Mid w X br bz B s j' wg MX' TS' US' zs tv u tv3 u3 sv L W':=
 ⟨R',st.fr.blk M.b2 (M.R.offS (.inr (.inl rfl))),st.fr.blk M.b3 (M.R.offS (.inr (.inr (.inl rfl)))),st.subs M.ss M.R.rB M.R.zB,M.sn,M.st.trans st⟩
theorem Mid.still (M:Mid w X br bz B s j wg MX TS US zs tv u tv2 u2 sv L W) (h:Still W W'):Mid w X br bz B s j wg MX TS US zs tv u tv2 u2 sv L W':=M.call (M.R.still h) (Step.ofStill h)
theorem Mid.inc (M:Mid w X br bz B s j wg MX TS US zs tv u tv2 u2 sv L W) (h:j<s.size):Mid w X br bz B s (j+1) wg MX TS US zs tv u tv2 u2 sv L (W.setCell ⟨br,1,none⟩ (.int .i64 ((j:Int)+1))):=M.call (M.R.inc h).1 (M.R.inc h).2
theorem Mid.setMx (M:Mid w X br bz B s j wg MX TS US zs tv u tv2 u2 sv L W) (m:Int):Mid w X br bz B s j wg m TS US zs tv u tv2 u2 sv L (W.setCell ⟨br,6,none⟩ (.int .i64 m)):=M.call (M.R.setMx m).1 (M.R.setMx m).2
theorem Mid.grow (M:Mid w X br bz B s j wg MX TS US zs tv u tv2 u2 sv L W){a b:Obj}{w5:World}{v5:Value}{N:Nat}(hg:((W.alloc a).alloc b).grownBy w5 sv.ownBlock)
 (ho:w5.ownsRow B 3 1 v5 (L.length+1) ((L.map fun (n:Nat)=>Value.int .i64 (n:Int))++[.int .i64 (N:Int)])) (hl:v5.ownBlock=sv.ownBlock∨v5.ownBlock=some ((W.alloc a).alloc b).heap.size) :
 Mid w X br bz B s j wg MX TS US zs tv u tv2 u2 v5 (L++[N]) (w5.setCell ⟨w.heap.size+1,1,none⟩ v5):=by
 have hF:Fr W w5 (fun g=>sv.ownBlock=some g):=Fr.grown (((Fr.refl W _).alloc a).alloc b) hg (fun k e _=>e)
 have l2:=M.b2.lt
 have l3:=M.b3.lt
 have n2:∀ g,sv.ownBlock=some g→g≠w.heap.size:=fun g hg e=>by have:=M.sn g hg;omega
 have n3:∀ g,sv.ownBlock=some g→g≠w.heap.size+1:=fun g hg e=>by have:=M.sn g hg;omega
 have hv:∀ g,v5.ownBlock=some g→w.heap.size+2≤g∧(sv.ownBlock=some g∨W.heap.size≤g):=fun g hg'=>by
  rcases hl with e|e
  ·exact⟨M.sn g (e▸hg'),.inl (e▸hg')⟩
  ·rw[e] at hg'
   simp only[Option.some.injEq] at hg'
   have:((W.alloc a).alloc b).heap.size=W.heap.size+2:=by simp
   exact⟨by omega,.inr (by omega)⟩
 have B2:=hF.blk M.b2 (fun e=>n2 _ e rfl)
 have B3:=hF.blk M.b3 (fun e=>n3 _ e rfl)
 have hG:Fr w5 (w5.setCell ⟨w.heap.size+1,1,none⟩ v5) (fun g=>g=w.heap.size+1):=(Fr.refl w5 (fun g=>g=w.heap.size+1)).setCell ⟨w.heap.size+1,1,none⟩ v5 (fun _=>rfl)
 have B2':=hG.blk B2 (by omega)
 have B3':Blk (w5.setCell ⟨w.heap.size+1,1,none⟩ v5) (w.heap.size+1) [.int .u8 40,v5] 77:=B3.set 1 v5
 have ho':=ownsRow_fr ho hG (fun g hg' e=>by have:=hv g hg';omega)
 have hH:Fr W (w5.setCell ⟨w.heap.size+1,1,none⟩ v5) (fun g=>X g∨g=w.heap.size∨g=w.heap.size+1∨sv.ownBlock=some g):=
  (hF.mono (fun _ _ e=>.inr (.inr (.inr e)))).trans hG (fun _ _ e=>.inr (.inr (.inl e)))
 have hst:Fr W (w5.setCell ⟨w.heap.size+1,1,none⟩ v5) (fun g=>sv.ownBlock=some g∨g=w.heap.size+1):=(hF.mono (fun _ _ e=>.inl e)).trans hG (fun _ _ e=>.inr e)
 have hlt:∀ g,v5.ownBlock=some g→g<(w5.setCell ⟨w.heap.size+1,1,none⟩ v5).heap.size:=fun g hg'=>(ho'.lt g hg').2
 refine⟨(M.R.out hH).fewer (fun g hg'=>?_),B2',B3',⟨by simpa using ho',fun g hg'=>?_⟩,fun g hg'=>(hv g hg').1,M.st.out hst (fun g hg'=>?_)⟩
 ·rcases hg' with e|e|e|e
  ·exact .inl (.inl e)
  ·exact .inl (.inr (.inl e))
  ·exact .inl (.inr (.inr (.inl e)))
  ·rcases(hv g e).2 with q|q
   ·exact .inl (.inr (.inr (.inr q)))
   ·exact .inr ⟨q,hlt g e⟩
 ·rcases(hv g hg').2 with q|q
  ·exact M.ss.2 g q
  ·obtain⟨xs,hx,_⟩:=M.R.tys
   exact⟨fun e=>by have:=hx.lt g e;omega,fun e=>by have:=M.R.uses.lt g e;omega⟩
 ·rcases hg' with e|e
  ·have:=M.sn g e;omega
  ·omega
theorem Mid.growCell (M:Mid w X br bz B s j wg MX TS US zs tv u tv2 u2 sv L W){a b:Obj}{w5:World}(hg:((W.alloc a).alloc b).grownBy w5 sv.ownBlock):w5.cell? ⟨w.heap.size+1,1,none⟩=some sv∧w5.frozen? ⟨w.heap.size+1,1,none⟩=false:=by
 have hF:Fr W w5 (fun g=>sv.ownBlock=some g):=Fr.grown (((Fr.refl W _).alloc a).alloc b) hg (fun k e _=>e)
 have B3:=hF.blk M.b3 (fun e=>by have:=M.sn _ e;omega)
 exact⟨B3.cell 1,B3.thaw 1⟩
end
theorem alt_start {w:World}{X:Nat→Prop}{br bz B:Nat}{s:ByteArray}{i:Nat}{wg mx:Int}{ts:List TR}{us:List (Nat×Nat)}{zs:List Value}{tv u:Value}(R:Rep w X br bz B s i false wg mx ts us zs tv u) :
 AltInv w X br bz B s i wg mx ts us zs tv u (s.size+1) (.string ⟨#[]⟩) (.bool true) ((w.alloc (.cells #[.int .u8 0,.slice none 0 0] 77)).alloc (.cells #[.int .u8 40,.slice none 0 0] 77)):=by
 have h1:=R.out (((Fr.refl w X).alloc (.cells #[.int .u8 0,.slice none 0 0] 77)).alloc (.cells #[.int .u8 40,.slice none 0 0] 77))
 refine⟨[],i,true,⟨#[]⟩,.slice none 0 0,tv,u,rfl,rfl,rfl,by simp[flats],Nat.zero_le _,⟨?_,(Blk.new w _ _).alloc _,?_,subs_nil _ _ _ _,fun g hg=>by simp[Value.ownBlock] at hg,⟨((Fr.refl w _).alloc _).alloc _,.inl rfl,.inl rfl⟩⟩,by omega,fun _=>(ahead_nil _).symm,fun h=>by cases h⟩
 ·have h2:=h1.fewer (Y:=fun g=>X g∨g=w.heap.size∨g=w.heap.size+1∨(Value.slice none 0 0).ownBlock=some g) (fun g hg=>by
   rcases hg with hg|hg|hg|hg
   ·exact .inl hg
   ·exact .inr (by simp;omega)
   ·exact .inr (by simp;omega)
   ·simp[Value.ownBlock] at hg)
  simpa[mixs,flats,usesAll] using h2
 ·have:=Blk.new (w.alloc (.cells #[.int .u8 0,.slice none 0 0] 77)) #[.int .u8 40,.slice none 0 0] 77
  simpa using this
theorem Fr.two (w:World) (b o1 o2:Nat) (v1 v2:Value):Fr w ((w.setCell ⟨b,o1,none⟩ v1).setCell ⟨b,o2,none⟩ v2) (fun g=>g=b):=
 ((Fr.refl w (fun g=>g=b)).setCell ⟨b,o1,none⟩ v1 (fun _=>rfl)).setCell ⟨b,o2,none⟩ v2 (fun _=>rfl)
theorem alt_end {w wr w3 w4:World}{X:Nat→Prop}{br bz B:Nat}{s:ByteArray}{i i':Nat}{wg mx:Int}{ts:List TR}{us:List (Nat×Nat)}{zs:List Value}{tv u tv' u' sv:Value}{ds:List PT}(R:Rep w X br bz B s i false wg mx ts us zs tv u)
 (hpA:pA s i=.ok (ds,i'))
 (hE:if bt s i'=41 then Rep w3 (fun g=>X g∨g=w.heap.size∨g=w.heap.size+1∨sv.ownBlock=some g) br bz B s (i'+1) false wg (mixs [] ds mx) (ts++flats ts.length ds) (us++usesAll ds) zs tv' u'
  else Rep w3 (fun g=>X g∨g=w.heap.size∨g=w.heap.size+1∨sv.ownBlock=some g) br bz B s i' true wg (mixs [] ds mx) (ts++flats ts.length ds) (us++usesAll ds) zs tv' u')
 (hst:Step w wr br bz tv u tv' u') (st3:Step wr w3 br bz tv' u' tv' u') (hss:SubsAt wr B tv' u' sv (nums ts.length ds)) (hsn:∀ g,sv.ownBlock=some g→w.heap.size+2≤g) (hF:Fr w3 w4 (fun g=>g=w.heap.size)) :
 AltsPost w X br bz B s i wg mx ts us zs tv u (.returned (.agg #[.int .u8 40,sv])) w4:=by
 have hS:SubsAt w4 B tv' u' sv (nums ts.length ds):=by
  have h1:=st3.subs hss R.rB R.zB
  exact⟨ownsRow_fr h1.1 hF (fun g hg e=>by have:=hsn g hg;omega),h1.2⟩
 have hX:∀ g,X g→sv.ownBlock≠some g:=fun g hg e=>by have:=hsn g e;have:=(R.av g hg).1;omega
 refine⟨sv,tv',u',rfl,(hst.trans st3).out hF (fun g hg=>by omega),?_⟩
 rw[hpA]
 simp only
 by_cases hb:bt s i'=41
 ·rw[if_pos hb] at hE⊢
  exact⟨(hE.out (hF.mono (fun _ _ e=>.inr (.inl e)))).fewer (fun g hg=>.inl (.inl hg)),hS,hX⟩
 ·rw[if_neg hb] at hE⊢
  have hc:=pA_count hpA ts.length
  exact⟨_,_,_,_,(hE.out (hF.mono (fun _ _ e=>.inr (.inl e)))).fewer (fun g hg=>.inl (.inl hg)),by rw[List.length_append];omega,hS,hX⟩
theorem alt_err {w wr w3 w4:World}{X:Nat→Prop}{br bz B:Nat}{s:ByteArray}{i k:Nat}{wg mx mx2:Int}{ts ts2:List TR}{us us2:List (Nat×Nat)}{zs:List Value}{tv u tv' u' tv2 u2 sv:Value}{l:List Nat}(R:Rep w X br bz B s i false wg mx ts us zs tv u)
 (hpA:pA s i=.error k) (R2:Rep w3 (fun g=>X g∨g=w.heap.size∨g=w.heap.size+1∨sv.ownBlock=some g) br bz B s k true wg mx2 ts2 us2 zs tv2 u2) (hl:ts2.length+i≤k+ts.length)
 (hst:Step w wr br bz tv u tv' u') (st3:Step wr w3 br bz tv' u' tv2 u2) (hss:SubsAt wr B tv' u' sv l) (hsn:∀ g,sv.ownBlock=some g→w.heap.size+2≤g) (hF:Fr w3 w4 (fun g=>g=w.heap.size)) :
 AltsPost w X br bz B s i wg mx ts us zs tv u (.returned (.agg #[.int .u8 40,sv])) w4:=by
 have hS:SubsAt w4 B tv2 u2 sv l:=by
  have h1:=st3.subs hss R.rB R.zB
  exact⟨ownsRow_fr h1.1 hF (fun g hg e=>by have:=hsn g hg;omega),h1.2⟩
 have hX:∀ g,X g→sv.ownBlock≠some g:=fun g hg e=>by have:=hsn g e;have:=(R.av g hg).1;omega
 refine⟨sv,tv2,u2,rfl,(hst.trans st3).out hF (fun g hg=>by omega),?_⟩
 rw[hpA]
 exact⟨_,_,_,_,(R2.out (hF.mono (fun _ _ e=>.inr (.inl e)))).fewer (fun g hg=>.inl (.inl hg)),hl,hS,hX⟩
theorem kind_cell {w:World}{X:Nat→Prop}{br bz B:Nat}{s:ByteArray}{i:Nat}{bad:Bool}{wr mx:Int}{ts fl:List TR}{us:List (Nat×Nat)}{zs:List Value}{tv u:Value}{N c:Nat}(R:Rep w X br bz B s i bad wr mx (ts++fl) us zs tv u)
 (hN:N=ts.length+fl.length-1) (hp:0<fl.length) (hk:(fl[fl.length-1]?).map TR.kind=some c) :
 ∃ g cap,N+1≤cap∧w.cell? ⟨g,N*2,none⟩=some (.int .u8 (c:Int))∧w.cell? ⟨bz,0,none⟩=some (.slice (some ⟨g,0,none⟩) (N+1) cap):=by
 obtain⟨xs,hx,hk'⟩:=R.tys
 have hl:(ts++fl).length=N+1:=by rw[List.length_append];omega
 rw[hl] at hx
 obtain⟨g,cap,rfl⟩:=own_form hx (by omega)
 cases ht:fl[fl.length-1]? with
 | none=>rw[ht] at hk;cases hk
 | some t=>
  rw[ht] at hk
  simp only[Option.map_some,Option.some.injEq] at hk
  obtain⟨sv,a,b,d,d'⟩:=hk' N t (by rw[List.getElem?_append_right (by omega),show N-ts.length=fl.length-1 by omega];exact ht)
  refine⟨g,cap,?_,?_,?_⟩
  ·rcases hx.2 with⟨h,_⟩|⟨_,_,_,h,_,_,hc,_⟩
   ·cases h
   ·cases h;exact hc
  ·rw[hx.cellAt _ (by omega),Nat.mul_comm,a,hk]
  ·rw[R.z.cell];rfl
theorem u_bytes:Tryz.prog.underlying 99=some (.slice 5):=by kernel_rfl
theorem u_byte:Tryz.prog.underlying 5=some (.int .u8):=by kernel_rfl
theorem u_string:Tryz.prog.underlying 9=some .string:=by kernel_rfl
theorem u_ints:Tryz.prog.underlying 75=some (.slice 3):=by kernel_rfl
theorem i_int:(Tryz.prog.info? 3).map (fun i=>(i.zero,i.size,i.bytes))=some (some (.int .i64 0),1,8):=by kernel_rfl
theorem conv_one (W:World) (g:Nat) (c:Int) (hg:W.heap.size=g) :
 (convert 99 9 (.slice (some ⟨g,0,none⟩) 1 1)).run Tryz.prog (W.alloc (.cells #[.int .u8 c] 5))=.ok (.string ⟨#[UInt8.ofNat c.toNat]⟩) (W.alloc (.cells #[.int .u8 c] 5)):=by
 subst hg
 rw[run_convert_bytes_string _ _ _ _ _ _ _ u_bytes u_byte u_string]
 have hl:=run_loadCells_list (P:=Tryz.prog) (W.alloc (.cells #[.int .u8 c] 5)) ⟨W.heap.size,0,none⟩ ([c].map (Value.int .u8)) (news_new W #[.int .u8 c] 5 _ rfl)
 rw[run_bytesToString _ _ 1 1 [c] (by simpa using hl)]
 rfl
theorem plc_mem (s:ByteArray) (c:Nat):0≤plc s c↔c∈s.data.toList.map UInt8.toNat:=by
 unfold plc
 cases h:s.data.toList.findIdx? (fun b=>b.toNat==c) with
 | none=>
  rw[List.findIdx?_eq_none_iff] at h
  constructor
  ·intro h;simp at h
  ·intro hm
   obtain⟨b,hb,rfl⟩:=List.mem_map.1 hm
   have:=h b hb
   simp at this
 | some k=>
  rw[List.findIdx?_eq_some_iff_getElem] at h
  obtain⟨hk,hb,_⟩:=h
  constructor
  ·intro _
   exact List.mem_map.2 ⟨_,List.getElem_mem hk,by simpa using hb⟩
  ·intro _;simp
theorem pT_kind {s:ByteArray}{i:Nat}{t:PT}{j:Nat}(h:pT s i=.ok (t,j)):t.kind=bt s i:=by
 rw[pT_eq] at h
 unfold stepT at h
 split at h
 ·simp only[Except.ok.injEq,Prod.mk.injEq] at h;obtain⟨rfl,rfl⟩:=h;rfl
 ·split at h
  ·split at h
   ·simp at h
   ·split at h
    ·simp only[Except.ok.injEq,Prod.mk.injEq] at h;obtain⟨rfl,rfl⟩:=h;rfl
    ·simp at h
  ·split at h
   ·rename_i h40
    split at h
    ·simp at h
    ·split at h
     ·simp only[Except.ok.injEq,Prod.mk.injEq] at h;obtain⟨rfl,rfl⟩:=h;exact h40.symm
     ·simp at h
   ·split at h
    ·simp only[Except.ok.injEq,Prod.mk.injEq] at h;obtain⟨rfl,rfl⟩:=h;rfl
    ·simp at h
theorem kb_snoc {kb:ByteArray}{l:List Nat}{c:Nat}(h:kb.data.toList.map UInt8.toNat=l) (hc:c<256):(kb++⟨#[UInt8.ofNat c]⟩:ByteArray).data.toList.map UInt8.toNat=l++[c]:=by
 subst h
 have:(kb++⟨#[UInt8.ofNat c]⟩:ByteArray).data=kb.data++#[UInt8.ofNat c]:=by simp[ByteArray.data_append]
 rw[this]
 simp
 omega
theorem mix_set {kb:ByteArray}{ds:List PT}{t:PT}{i':Nat}{mx MX:Int}(hkb:kb.data.toList.map UInt8.toNat=ds.map PT.kind) (hpl:t.place=i') (hMX:mix t (mixs [] ds mx)=MX) (h:(t.kind=40∨0≤plc kb t.kind)∧(MX<0∨(i':Int)<MX)) :
 (i':Int)=mixOne (ds.map PT.kind) t (mix t (mixs [] ds mx)):=by
 rw[hMX,mixOne,hpl,← hkb]
 simp only[← plc_mem]
 rw[if_pos h]
theorem mix_keep {kb:ByteArray}{ds:List PT}{t:PT}{i':Nat}{mx MX:Int}(hkb:kb.data.toList.map UInt8.toNat=ds.map PT.kind) (hpl:t.place=i') (hMX:mix t (mixs [] ds mx)=MX) (h:¬ ((t.kind=40∨0≤plc kb t.kind)∧(MX<0∨(i':Int)<MX))) :
 MX=mixOne (ds.map PT.kind) t (mix t (mixs [] ds mx)):=by
 rw[hMX,mixOne,hpl,← hkb]
 simp only[← plc_mem]
 rw[if_neg h]
theorem alt_next {w W:World}{X:Nat→Prop}{br bz B:Nat}{s:ByteArray}{i i' j:Nat}{wg mx MX:Int}{ts:List TR}{us:List (Nat×Nat)}{zs:List Value}{tv u tv2 u2 sv:Value}{ds:List PT}{t:PT}{kb:ByteArray}{N:Nat}(n:Nat) (more:Bool) (j':Nat)
 (hp:pT s i'=.ok (t,j)) (hi:i'≤s.size) (hkb:kb.data.toList.map UInt8.toNat=ds.map PT.kind) (hfl:i+(flats ts.length ds).length≤i') (hdl:ds.length≤i')
 (hpA:pA s i=ahead ds (pA s i')) (hN:N=(ts++flats ts.length ds).length+(flat (ts++flats ts.length ds).length t).length-1)
 (hMX:MX=mixOne (ds.map PT.kind) t (mix t (mixs [] ds mx)))
 (M:Mid w X br bz B s j' wg MX ((ts++flats ts.length ds)++flat (ts++flats ts.length ds).length t) ((us++usesAll ds)++usesOf t) zs tv u tv2 u2 sv (nums ts.length ds++[N]) W)
 (hn:s.size+1-j'≤n) (hm:(more=true∧j'=j+1∧bt s j=44)∨(more=false∧j'=j∧bt s j≠44)) :
 AltInv w X br bz B s i wg mx ts us zs tv u n (.string (kb++⟨#[UInt8.ofNat t.kind]⟩)) (.bool more) W:=by
 have hb:=(pT_bounds hi).1 t j hp
 have hc:=pT_count hp (ts.length+(flats ts.length ds).length)
 have hk:t.kind<256:=by rw[pT_kind hp];exact bt_lt _ _
 have hS:=pA_step s i' hi
 rw[hp] at hS
 simp only at hS
 have hfs:=flats_snoc ts.length ds t
 have hns:=nums_snoc ts.length ds t
 rw[List.length_append] at M hN
 refine⟨ds++[t],j',more,_,sv,tv2,u2,rfl,rfl,by rw[kb_snoc hkb hk,List.map_append];rfl,by rw[hfs,List.length_append];omega,by rw[List.length_append];simp only[List.length_cons,List.length_nil];omega,?_,hn,fun hmt=>?_,fun hmf=>?_⟩
 ·rw[hfs,hns,usesAll_snoc,mixs_snoc,← List.append_assoc,← List.append_assoc,← hN,List.nil_append,← hMX]
  exact M
 ·rcases hm with⟨_,rfl,h44⟩|⟨h,_⟩
  ·rw[hpA,hS,if_pos h44,ahead_ahead]
  ·rw[hmt] at h;cases h
 ·rcases hm with⟨h,_⟩|⟨_,rfl,h44⟩
  ·rw[hmf] at h;cases h
  ·rw[hpA,hS,if_neg h44];rfl
end Go.Proofs.YtiifagiebikmdaaGreatDoor
