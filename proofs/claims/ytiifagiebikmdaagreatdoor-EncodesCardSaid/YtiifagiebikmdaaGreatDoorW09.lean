import Derived.Test.YtiifagiebikmdaaGreatDoorW08
namespace Go.Proofs.YtiifagiebikmdaaGreatDoor
open Go.RowKit
structure WM (w:World) (X:Nat→Prop) (br bz B:Nat) (s:ByteArray) (tv0 u0:Value) (ds:List PD) (j:Nat) (bad:Bool) (wg MX:Int) (TS:List TR) (US:List (Nat×Nat)) (Xk:Nat→Prop) (zs:List Value) (tv u:Value) (W:World):Prop where
 R:Rep W Xk br bz B s j bad wg MX TS US zs tv u
 D:DefsAt W Xk B s zs ds
 XX:∀ g,X g→Xk g
 st:Step w W br bz tv0 u0 tv u
def WInv (w:World) (X:Nat→Prop) (br bz B:Nat) (s:ByteArray) (wr mx:Int) (tv0 u0:Value) (m:Nat) (nv:Value) (W:World):Prop:=
 ∃ n:Nat,nv=.int .i64 (n:Int)∧n≤6∧7-n≤m∧
  ((∃ ds j Xk zs tv u,ds.length=n∧WM w X br bz B s tv0 u0 ds j false (accW [] ds wr) (accM ds mx) (accT 0 ds) (accU ds) Xk zs tv u W∧pDefsN s 6 0=aheadD ds (pDefsN s (6-n) j))∨
   (∃ k Xk zs tv u wg MX TS US,Rep W Xk br bz B s k true wg MX TS US zs tv u∧Step w W br bz tv0 u0 tv u∧(∀ g,X g→Xk g)∧pSchema s=.error k))
def WholePost (w:World) (X:Nat→Prop) (br bz B:Nat) (s:ByteArray) (wr mx:Int) (tv0 u0:Value) (W:World):Prop:=
 match pSchema s with
 | .error k=>∃ Xk zs tv u wg MX TS US,Rep W Xk br bz B s k true wg MX TS US zs tv u∧Step w W br bz tv0 u0 tv u∧(∀ g,X g→Xk g)
 | .ok (ds,t)=>∃ Xk zs tv u,WM w X br bz B s tv0 u0 ds s.size false (accW [] ds wr) (mix t (accM ds mx)) (accT 0 ds++flat (accT 0 ds).length t) (accU ds++usesOf t) Xk zs tv u W∧
  zs[30]?=some (.int .i64 (((accT 0 ds).length+(flat (accT 0 ds).length t).length-1:Nat):Int))
theorem WM.still {w:World}{X Xk:Nat→Prop}{br bz B:Nat}{s:ByteArray}{tv0 u0 tv u:Value}{ds:List PD}{j:Nat}{bad:Bool}{wg MX:Int}{TS:List TR}{US:List (Nat×Nat)}{zs:List Value}{W W':World}(M:WM w X br bz B s tv0 u0 ds j bad wg MX TS US Xk zs tv u W) (h:Still W W'):WM w X br bz B s tv0 u0 ds j bad wg MX TS US Xk zs tv u W':=
 ⟨M.R.still h,M.D.step M.R (Step.ofStill h),M.XX,M.st.still h⟩
theorem whole_err {w W:World}{X Xk:Nat→Prop}{br bz B:Nat}{s:ByteArray}{wr mx:Int}{tv0 u0 tv u:Value}{k:Nat}{zs:List Value}{wg MX:Int}{TS:List TR}{US:List (Nat×Nat)}(h:pSchema s=.error k) (R:Rep W Xk br bz B s k true wg MX TS US zs tv u) (st:Step w W br bz tv0 u0 tv u) (hX:∀ g,X g→Xk g) :
 WholePost w X br bz B s wr mx tv0 u0 W:=by
 unfold WholePost;rw[h];exact⟨_,_,_,_,_,_,_,_,R,st,hX⟩
theorem pSchema_typ {s:ByteArray}{ds:List PD}{i:Nat}(h:pDefsN s 6 0=.ok (ds,i)):pSchema s=match pT s i with | .error k=>.error k | .ok (t,j)=>if j<s.size then .error j else .ok (ds,t):=by
 unfold pSchema;rw[h];rfl
theorem pSchema_err {s:ByteArray}{k:Nat}(h:pDefsN s 6 0=.error k):pSchema s=.error k:=by unfold pSchema;rw[h]
theorem whole_ok {w W:World}{X Xk:Nat→Prop}{br bz B:Nat}{s:ByteArray}{wr mx:Int}{tv0 u0 tv u:Value}{j':Nat}{zs:List Value}{ds:List PD}{t:PT}(h:pSchema s=if j'<s.size then .error j' else .ok (ds,t)) (hlt:¬ j'<s.size) (hle:j'≤s.size)
 (M:WM w X br bz B s tv0 u0 ds j' false (accW [] ds wr) (mix t (accM ds mx)) (accT 0 ds++flat (accT 0 ds).length t) (accU ds++usesOf t) Xk zs tv u W)
 (hz:zs[30]?=some (.int .i64 (((accT 0 ds).length+(flat (accT 0 ds).length t).length-1:Nat):Int))):WholePost w X br bz B s wr mx tv0 u0 W:=by
 have e:j'=s.size:=by omega
 subst e
 unfold WholePost
 rw[h,if_neg hlt]
 exact⟨_,_,_,_,M,hz⟩
theorem WM.call {w:World}{X Xk:Nat→Prop}{br bz B:Nat}{s:ByteArray}{tv0 u0 tv u tv' u':Value}{ds:List PD}{j j':Nat}{bad bad':Bool}{wg MX wg' MX':Int}{TS TS':List TR}{US US':List (Nat×Nat)}{zs:List Value}{W W':World}(M:WM w X br bz B s tv0 u0 ds j bad wg MX TS US Xk zs tv u W)
 (R':Rep W' Xk br bz B s j' bad' wg' MX' TS' US' zs tv' u') (st:Step W W' br bz tv u tv' u'):WM w X br bz B s tv0 u0 ds j' bad' wg' MX' TS' US' Xk zs tv' u' W':=
 ⟨R',M.D.step M.R st,M.XX,M.st.trans st⟩
theorem DefsAt.wider {W:World}{X Y:Nat→Prop}{B:Nat}{s:ByteArray}{zs:List Value}{ds:List PD}(h:DefsAt W X B s zs ds) (hY:∀ g,X g→Y g):DefsAt W Y B s zs ds:=by
 refine⟨h.1,fun k hk=>?_⟩
 obtain⟨so,fv,sb,o,n,cnt,xs,h1,h2,h3,h4⟩:=h.2 k hk
 exact⟨so,fv,sb,o,n,cnt,xs,h1,h2,fun g hg=>hY g (h3 g hg),h4⟩
def held (W:World) (v0 v1 v2 v3 v4:Value):World:=W.alloc (.cells #[v0,v1,v2,v3,v4] 44)
theorem held_fr (W:World) (v0 v1 v2 v3 v4:Value) (S:Nat→Prop):Fr W (held W v0 v1 v2 v3 v4) S:=(Fr.refl W S).alloc _
theorem held_blk (W:World) (v0 v1 v2 v3 v4:Value):Blk (held W v0 v1 v2 v3 v4) W.heap.size [v0,v1,v2,v3,v4] 44:=
 Blk.new W #[v0,v1,v2,v3,v4] 44
theorem held_size (W:World) (v0 v1 v2 v3 v4:Value):W.heap.size<(held W v0 v1 v2 v3 v4).heap.size:=(held_blk W v0 v1 v2 v3 v4).lt
theorem WM.held {w:World}{X Xk:Nat→Prop}{br bz B:Nat}{s:ByteArray}{tv0 u0 tv u tv' u':Value}{ds:List PD}{j j':Nat}{bad bad':Bool}{wg MX wg' MX':Int}{TS TS':List TR}{US US':List (Nat×Nat)}{zs:List Value}{W W':World}{fv:Value}(M:WM w X br bz B s tv0 u0 ds j bad wg MX TS US Xk zs tv u W)
 (st:Step W W' br bz tv u tv' u') (R':Rep W' (fun g=>Xk g∨fv.ownBlock=some g) br bz B s j' bad' wg' MX' TS' US' zs tv' u') (v0 v1 v2 v3 v4:Value) :
 WM w X br bz B s tv0 u0 ds j' bad' wg' MX' TS' US' (fun g=>(Xk g∨fv.ownBlock=some g)∨g=W'.heap.size) zs tv' u' (held W' v0 v1 v2 v3 v4):=by
 have hs:=held_size W' v0 v1 v2 v3 v4
 have R5:=(R'.out (held_fr W' v0 v1 v2 v3 v4 _)).fewer (Y:=fun g=>(Xk g∨fv.ownBlock=some g)∨g=W'.heap.size) (fun g hg=>by
  rcases hg with e|e
  ·exact .inl e
  ·exact .inr ⟨by omega,by omega⟩)
 have S5:Step W' (Go.Proofs.YtiifagiebikmdaaGreatDoor.held W' v0 v1 v2 v3 v4) br bz tv' u' tv' u':=⟨held_fr W' v0 v1 v2 v3 v4 _,.inl rfl,.inl rfl⟩
 have D4:=M.D.step M.R st
 exact⟨R5,(D4.wider (fun g h=>.inl h)).step R' S5 |>.wider (fun g h=>.inl h),fun g h=>.inl (.inl (M.XX g h)),(M.st.trans st).trans S5⟩
theorem defs_next {s:ByteArray}{ds:List PD}{n j c:Nat}(h:pDefsN s 6 0=aheadD ds (pDefsN s (6-n) j)) (hn:n<6) (hc:bt s j=c) (hin:(65≤c∧c≤70)∧j+1<s.size) :
 pDefsN s 6 0=if bt s (j+1)=61 then (match pDefn s (j+2) with | .error k=>.error k | .ok (pb,e)=>if bt s e=59 then aheadD (ds++[⟨c,j,pb⟩]) (pDefsN s (6-(n+1)) (e+1)) else .error e) else .error (j+1):=by
 rw[h,show 6-n=(6-(n+1))+1 by omega,pDefs_step,hc,if_pos ⟨by simp only[isName,Bool.and_eq_true,decide_eq_true_eq];exact hin.1,hin.2⟩]
 rfl
def OutS (s:ByteArray) (e j:Nat) (bad:Bool):Prop:=(bad=false∧bt s e=59∧j=e+1)∨(bad=true∧bt s e≠59∧j=e)
theorem eat_outS {w W:World}{X:Nat→Prop}{br bz B:Nat}{s:ByteArray}{i:Nat}{wr mx:Int}{ts:List TR}{us:List (Nat×Nat)}{zs:List Value}{tv u:Value}(h:EatRep w X br bz B s i wr mx ts us zs tv u 59 W) :
 ∃ j bad,Rep W X br bz B s j bad wr mx ts us zs tv u∧Step w W br bz tv u tv u∧OutS s i j bad:=by
 obtain⟨h,st⟩:=h
 by_cases e:bt s i=59
 ·rw[if_pos e] at h;exact⟨_,_,h,st,.inl ⟨rfl,e,rfl⟩⟩
 ·rw[if_neg e] at h;exact⟨_,_,h,st,.inr ⟨rfl,e,rfl⟩⟩
def laid (W:World) (bz k:Nat) (v0 v1 v2 v3 v4:Value):World:=
 ((((W.setCell ⟨bz,1+k*5,none⟩ v0).setCell ⟨bz,1+k*5+1,none⟩ v1).setCell ⟨bz,1+k*5+2,none⟩ v2).setCell ⟨bz,1+k*5+3,none⟩ v3).setCell ⟨bz,1+k*5+4,none⟩ v4
theorem Rep.laid {w:World}{X:Nat→Prop}{br bz B:Nat}{s:ByteArray}{i:Nat}{bad:Bool}{wr mx:Int}{ts:List TR}{us:List (Nat×Nat)}{zs:List Value}{tv u:Value}(R:Rep w X br bz B s i bad wr mx ts us zs tv u) (k:Nat) (v0 v1 v2 v3 v4:Value) :
 Rep (laid w bz k v0 v1 v2 v3 v4) X br bz B s i bad wr mx ts us (set5 zs (5*k) v0 v1 v2 v3 v4) tv u∧Step w (Go.Proofs.YtiifagiebikmdaaGreatDoor.laid w bz k v0 v1 v2 v3 v4) br bz tv u tv u:=by
 have h:=R.setDef (5*k) v0 v1 v2 v3 v4
 unfold Go.Proofs.YtiifagiebikmdaaGreatDoor.laid
 rw[show 1+k*5=5*k+1 by omega,show 5*k+1+2=5*k+2+1 by omega,show 5*k+1+3=5*k+3+1 by omega,show 5*k+1+4=5*k+4+1 by omega]
 exact h
section
variable {w W:World} {X Xk:Nat→Prop} {br bz B:Nat} {s:ByteArray} {wr mx:Int} {tv0 u0 tv u:Value} {ds:List PD} {j j6 e2 c k n:Nat} {bad6:Bool} {pb:PB} {zs:List Value}
theorem whole_round (hst:pDefsN s 6 0=if bt s e2=59 then aheadD (ds++[⟨c,j,pb⟩]) (pDefsN s (6-(n+1)) (e2+1)) else .error e2) (hO:OutS s e2 j6 bad6) (hlen:ds.length=n) (hn:n<6)
 (M:WM w X br bz B s tv0 u0 (ds++[⟨c,j,pb⟩]) j6 bad6 (accW [] (ds++[⟨c,j,pb⟩]) wr) (accM (ds++[⟨c,j,pb⟩]) mx) (accT 0 (ds++[⟨c,j,pb⟩])) (accU (ds++[⟨c,j,pb⟩])) Xk zs tv u W) :
 WInv w X br bz B s wr mx tv0 u0 (6-n) (.int .i64 ((n:Int)+1)) W:=by
 refine⟨n+1,by simp,by omega,by omega,?_⟩
 rcases hO with⟨rfl,h59,rfl⟩|⟨rfl,h59,rfl⟩
 ·rw[if_pos h59] at hst
  exact .inl ⟨_,_,_,_,_,_,by simp[hlen],M,hst⟩
 ·rw[if_neg h59] at hst
  exact .inr ⟨_,_,_,_,_,_,_,_,_,M.R,M.st,M.XX,pSchema_err hst⟩
theorem whole_again {x:PB×Nat}(hc:c=65+k) (hlk:look 0 (65+k) ds=some x)
 (M:WM w X br bz B s tv0 u0 ds j6 bad6 (firstOf j (pb.wr (accW [] ds wr))) (pb.mx (accM ds mx)) (accT 0 ds++pb.ts (accT 0 ds).length) (accU ds++pb.us) Xk zs tv u W) :
 WM w X br bz B s tv0 u0 (ds++[⟨c,j,pb⟩]) j6 bad6 (accW [] (ds++[⟨c,j,pb⟩]) wr) (accM (ds++[⟨c,j,pb⟩]) mx) (accT 0 (ds++[⟨c,j,pb⟩])) (accU (ds++[⟨c,j,pb⟩])) Xk zs tv u W:=by
 have hm:c∈[]++ds.map PD.letter:=by
  by_cases h:c∈ds.map PD.letter
  ·simpa using h
  ·rw[hc,← look_none 0,hlk] at h;cases h
 refine⟨?_,M.D.again (d:=⟨c,j,pb⟩) hc hlk (fun _ h=>h),M.XX,M.st⟩
 rw[accW_snoc,if_pos hm,accM_snoc,accT_snoc,accU_snoc,Nat.zero_add]
 exact M.R
theorem whole_new {so o nn:Int}{fv:Value}{sb:ByteArray}{cnt:Nat}{xs:List Value}(hk6:k<6) (hc:c=65+k) (hlk:look 0 (65+k) ds=none)
 (M:WM w X br bz B s tv0 u0 ds j6 bad6 (pb.wr (accW [] ds wr)) (pb.mx (accM ds mx)) (accT 0 ds++pb.ts (accT 0 ds).length) (accU ds++pb.us) Xk zs tv u W)
 (own:W.ownsRow B 80 10 fv cnt xs) (hfv:∀ g,fv.ownBlock=some g→Xk g) (hI:DefIs s (accT 0 ds).length pb so cnt xs sb o nn) :
 WM w X br bz B s tv0 u0 (ds++[⟨c,j,pb⟩]) j6 bad6 (accW [] (ds++[⟨c,j,pb⟩]) wr) (accM (ds++[⟨c,j,pb⟩]) mx) (accT 0 (ds++[⟨c,j,pb⟩])) (accU (ds++[⟨c,j,pb⟩])) Xk (set5 zs (5*k) (.int .u8 so) fv (.string sb) (.int .i64 o) (.int .i64 nn)) tv u (laid W bz k (.int .u8 so) fv (.string sb) (.int .i64 o) (.int .i64 nn)):=by
 have hm:c∉[]++ds.map PD.letter:=by
  rw[hc,List.nil_append];exact(look_none 0 _ _).1 hlk
 obtain⟨R,st⟩:=M.R.laid k (.int .u8 so) fv (.string sb) (.int .i64 o) (.int .i64 nn)
 refine⟨?_,DefsAt.add (d:=⟨c,j,pb⟩) (M.D.step M.R st) hk6 hc hlk (fun _ h=>h) (ownsRow_fr own st.fr (fun g hg=>M.R.offS (hfv g hg))) hfv hI,M.XX,M.st.trans st⟩
 rw[accW_snoc,if_neg hm,accM_snoc,accT_snoc,accU_snoc,Nat.zero_add]
 exact R
end
set_option maxHeartbeats 16000000 in
set_option maxRecDepth 100000 in
theorem whole_rep {w:World}{X:Nat→Prop}{br bz B:Nat}{s:ByteArray}{wg mx:Int}{zs:List Value}{tv u:Value}(R:Rep w X br bz B s 0 false wg mx [] [] zs tv u) (hD:DefsAt w X B s zs []) :
 Calls Tryz.prog 23 #[.pointer (some ⟨br,0,none⟩)] w fun e w'=>e=.returned (.tuple #[])∧WholePost w X br bz B s wg mx tv u w':=by
 have hsl:=R.sl
 have start:WInv w X br bz B s wg mx tv u 7 (.int .i64 0) w:=⟨0,rfl,by omega,by omega,.inl ⟨[],0,X,zs,tv,u,rfl,⟨R,hD,fun _ h=>h,Step.refl _ _ _ _ _⟩,(aheadD_nil _).symm⟩⟩
 replace start:=hide start
 obtain⟨POST,hPOST⟩:∃ P,Hid (P=fun (e:Ending) (w':World)=>e=.returned (.tuple #[])∧WholePost w X br bz B s wg mx tv u w'):=⟨_,rfl⟩
 rw[← hPOST.out]
 go_enter Tryz.func23,Tryz.ntmps23
 go_wp2_with fail
 go_loopg [2] 7 (fun m nv W=>WInv w X br bz B s wg mx tv u m nv W)
 case atStart=>exact start.out
 case round=>
  clear start
  obtain⟨n,rfl,hn6,hnm,hA|hC⟩:=hrel
  ·obtain⟨ds,j,Xk,zs',tv',u',hlen,M,hdefs⟩:=hA
   have c0:=M.R.here.c0
   have c1:=M.R.here.c1
   have c2:=M.R.here.c2
   have hjl:=M.R.il
   obtain⟨c,hc⟩:∃ c,bt s j=c:=⟨_,rfl⟩
   have hcl:c<256:=by rw[← hc];exact bt_lt _ _
   by_cases hin:n<6∧(65≤c∧c≤70)∧j+1<s.size
   ·obtain⟨hn,hcr,hj1⟩:=hin
    have hst:=defs_next hdefs hn hc ⟨hcr,hj1⟩
    clear hdefs
    replace hst:=hide hst
    replace M:=hide M
    replace hc:=hide hc
    have hpk:Hid (∀ q,Calls Tryz.prog 39 #[.pointer (some ⟨br,0,none⟩)] (wr.drewN q) fun e w'=>e=.returned (.int .u8 (c:Int))∧∃ m,w'=(wr.drewN q).drewN m):=fun q=>peek_rep (M.out.R.still (Still.drewN wr q)) hc.out
    have hwi:Hid (∀ (q:Nat) (b:Bool),(decide ((65:Int)≤(c:Int))&&decide ((c:Int)≤70))=b→Calls Tryz.prog 38 #[.int .u8 (c:Int),.int .u8 65,.int .u8 70] (wr.drewN q) fun e w'=>e=.returned (.bool b)∧w'=wr.drewN q):=fun q b hb=>by rw[← hb];exact within_any _ _ _ _
    have n9:=hide (show(decide ((65:Int)≤(c:Int))&&decide ((c:Int)≤70))=true by simp;omega)
    have h1:(n:Int)<6:=by omega
    have h3:(j:Int)+1<(s.size:Int):=by omega
    have hjs:j<s.size:=by omega
    go_wp2_with fail
    go_quiet (first|(go_at_call 39;exact Calls.quiet_of (hpk.out _))|(go_at_call 38;exact Calls.quiet_of_same (hwi.out _ _ n9.out)))
    go_wp2_with fail
    have M1:=M.out.still (Still.drewN wr nq)
    generalize wr.drewN nq=W1 at M1⊢
    clear c0 c1 c2 hpk hwi
    replace M1:=hide M1
    by_cases h61:bt s (j+1)=61
    ·rw[if_pos h61] at hst
     go_wp2_with (first
      |(go_at_call 39;refine(peek_rep M1.out.R hc.out).mono ?_;rintro e w2 ⟨rfl,hw2⟩;have M2:=M1.out.still hw2;have c12:=M2.R.here.c1;have f12:=M2.R.here.thaw 1;replace M2:=hide M2)
      |(go_at_call 40;refine(eat_rep' 61 (M2.out.R.inc hjs).1 rfl (by decide)).mono ?_;rintro e w3 ⟨rfl,hE,st3⟩;rw[if_pos h61] at hE;have M3:=(M2.out.call (M2.out.R.inc hjs).1 (M2.out.R.inc hjs).2).call hE st3;have c23:=M3.R.here.c2;clear hE st3;replace M3:=hide M3))
     have hD:=hide (definition_rep M3.out.R)
     cases hpd:pDefn s (j+2) with
     | error k=>
      rw[hpd] at hst
      replace hpd:=hide hpd
      clear c23
      go_wp2_with (go_at_call 41;refine hD.out.mono ?_;rintro e w4 ⟨so,fv,sb,o,nn,cnt,xs,tv4,u4,rfl,st4,own4,av4,hm4⟩;simp only[dcells];rw[hpd.out] at hm4;obtain⟨sa,sn,sc,rfl⟩:=own_slice own4;obtain⟨wg4,MX4,TS4,US4,RR⟩:=hm4;have M5:=M3.out.held st4 RR (.int .u8 so) (.slice sa sn sc) (.string sb) (.int .i64 o) (.int .i64 nn);have c25:=M5.R.here.c2;unfold held at c25;have own5:=ownsRow_fr own4 (held_fr w4 (.int .u8 so) (.slice sa sn sc) (.string sb) (.int .i64 o) (.int .i64 nn) (fun _=>False)) (fun _ _ h=>h);have B5:=held_blk w4 (.int .u8 so) (.slice sa sn sc) (.string sb) (.int .i64 o) (.int .i64 nn);replace M5:=hide M5;replace own5:=hide own5;replace B5:=hide B5;clear st4 own4 av4;clear RR)
      first|go_end0|refine bodyPost_ret (results_none rfl _ _ _) rfl ?_
      rw[hPOST.out]
      exact⟨rfl,whole_err (pSchema_err hst.out) M5.out.R M5.out.st M5.out.XX⟩
     | ok q=>
      obtain⟨pb,e2⟩:=q
      rw[hpd] at hst
      replace hpd:=hide hpd
      clear c23
      go_wp2_with (go_at_call 41;refine hD.out.mono ?_;rintro e w4 ⟨so,fv,sb,o,nn,cnt,xs,tv4,u4,rfl,st4,own4,av4,hm4⟩;simp only[dcells];rw[hpd.out] at hm4;obtain⟨sa,sn,sc,rfl⟩:=own_slice own4;obtain⟨hI4,RR⟩:=hm4;have M5:=M3.out.held st4 RR (.int .u8 so) (.slice sa sn sc) (.string sb) (.int .i64 o) (.int .i64 nn);have c25:=M5.R.here.c2;unfold held at c25;have own5:=ownsRow_fr own4 (held_fr w4 (.int .u8 so) (.slice sa sn sc) (.string sb) (.int .i64 o) (.int .i64 nn) (fun _=>False)) (fun _ _ h=>h);have B5:=held_blk w4 (.int .u8 so) (.slice sa sn sc) (.string sb) (.int .i64 o) (.int .i64 nn);replace M5:=hide M5;replace own5:=hide own5;replace B5:=hide B5;clear st4 own4 av4;clear RR;replace hI4:=hide hI4)
      refine(eat_rep' 59 M5.out.R rfl (by decide)).mono ?_
      rintro e w6 ⟨rfl,hE⟩
      obtain⟨j6,bad6,hE,st6,hO⟩:=eat_outS hE
      have M6:=M5.out.call hE st6
      have B6:=st6.fr.blk B5.out (M5.out.R.offS (.inr rfl))
      have own6:=ownsRow_fr own5.out st6.fr (fun g hg=>M5.out.R.offS (.inl (.inr hg)))
      clear hE st6 c25 own5 B5 M5
      obtain⟨k,hk⟩:∃ k:Nat,c=65+k:=⟨c-65,by omega⟩
      have hk5:(c:Int)-65=(k:Int):=by omega
      have hk6:k<6:=by omega
      have hk7:(k:Int)<6:=by omega
      obtain⟨so',fv',sb',o',n',cnt',xs',hz,_,_,hl⟩:=M6.D.2 k hk6
      have z6:w6.cell? ⟨bz,1+k*5,none⟩=some (.int .u8 so'):=by
       rw[M6.R.z.cell,show 1+k*5=(5*k+0)+1 by omega,List.getElem?_cons_succ];exact hz 0 (by omega)
      have c36:=M6.R.here.c3
      have b0:=B6.cell 0
      have b1:=B6.cell 1
      have b2:=B6.cell 2
      have b3:=B6.cell 3
      have b4:=B6.cell 4
      simp only[List.getElem?_cons_zero,List.getElem?_cons_succ] at b0 b1 b2 b3 b4
      generalize w4.heap.size=bd at *
      clear hz
      replace M6:=hide M6
      replace B6:=hide B6
      replace own6:=hide own6
      replace hO:=hide hO
      replace hk:=hide hk
      cases hlk:look 0 (65+k) ds with
      | none=>
       rw[hlk] at hl
       obtain⟨hl,_⟩:=hl
       subst hl
       replace hlk:=hide hlk
       have zz:∀ p,p<5→∃ v,w6.cell? ⟨bz,1+k*5+p,none⟩=some v:=fun p hp=>by
        have h31:=M6.out.D.1
        rw[M6.out.R.z.cell,show 1+k*5+p=(5*k+p)+1 by omega,List.getElem?_cons_succ]
        exact⟨_,List.getElem?_eq_getElem (by omega)⟩
       obtain⟨y1,z61⟩:=zz 1 (by omega)
       obtain⟨y2,z62⟩:=zz 2 (by omega)
       obtain⟨y3,z63⟩:=zz 3 (by omega)
       obtain⟨y4,z64⟩:=zz 4 (by omega)
       have t0:=M6.out.R.z.thaw (1+k*5)
       have t1:=M6.out.R.z.thaw (1+k*5+1)
       have t2:=M6.out.R.z.thaw (1+k*5+2)
       have t3:=M6.out.R.z.thaw (1+k*5+3)
       have t4:=M6.out.R.z.thaw (1+k*5+4)
       clear zz
       go_wp2_with fail
       refine wp_regionC 9 (fun W=>W.cell? ⟨br,3,none⟩=some (.pointer (some ⟨bz,0,none⟩))∧W.cell? ⟨bd,0,none⟩=some (.int .u8 so)∧W.cell? ⟨bd,1,none⟩=some (.slice sa sn sc)∧W.cell? ⟨bd,2,none⟩=some (.string sb)∧W.cell? ⟨bd,3,none⟩=some (.int .i64 o)∧W.cell? ⟨bd,4,none⟩=some (.int .i64 nn)) (by kernel_rfl) ?_
       refine wpAnyC_take 0 ?bv0 rfl (by kernel_rfl) (fun _ _ _ h=>h) (by rfl) ?by0 ?_
       case by0=>(rintro W ⟨hW,hW0,hW1,hW2,hW3,hW4⟩;go_simp <;> rfl)
       refine wpAnyC_take 1 ?bv1 rfl (by kernel_rfl) (fun _ _ _ h=>h) (by rfl) ?by1 ?_
       case by1=>(rintro W ⟨hW,hW0,hW1,hW2,hW3,hW4⟩;go_simp <;> rfl)
       refine wpAnyC_take 2 ?bv2 rfl (by kernel_rfl) (fun _ _ _ h=>h) (by rfl) ?by2 ?_
       case by2=>(rintro W ⟨hW,hW0,hW1,hW2,hW3,hW4⟩;go_simp <;> rfl)
       refine wpAnyC_take 3 ?bv3 rfl (by kernel_rfl) (fun _ _ _ h=>h) (by rfl) ?by3 ?_
       case by3=>(rintro W ⟨hW,hW0,hW1,hW2,hW3,hW4⟩;go_simp <;> rfl)
       refine wpAnyC_take 4 ?bv4 rfl (by kernel_rfl) (fun _ _ _ h=>h) (by rfl) ?by4 ?_
       case by4=>(rintro W ⟨hW,hW0,hW1,hW2,hW3,hW4⟩;go_simp <;> rfl)
       refine wpAnyC_take 5 ?bv5 rfl (by kernel_rfl) (fun _ _ _ h=>h) (by rfl) ?by5 ?_
       case by5=>(rintro W ⟨hW,hW0,hW1,hW2,hW3,hW4⟩;go_simp <;> rfl)
       refine wpAnyC_one 6 rfl (by kernel_rfl) (fun _=>⟨c36,b0,b1,b2,b3,b4⟩) (fun K hK=>?_)
       go_simp
       refine hK _ _ ?_
       clear hK K
       refine wpAnyC_one 7 rfl (by kernel_rfl) (fun _=>⟨c36,b0,b1,b2,b3,b4⟩) (fun K hK=>?_)
       go_simp
       refine hK _ _ ?_
       clear hK K
       refine wpAnyC_one 8 rfl (by kernel_rfl) (fun _=>⟨c36,b0,b1,b2,b3,b4⟩) (fun K hK=>?_)
       go_simp
       refine hK _ _ ?_
       clear hK K
       refine wpAnyC_one 9 rfl (by kernel_rfl) (fun _=>⟨c36,b0,b1,b2,b3,b4⟩) (fun K hK=>?_)
       go_simp
       refine hK _ _ ?_
       clear hK K
       refine wpAnyC_done (by kernel_rfl) (fun hm=>absurd hm (by decide)) ?_ _
       go_wp2_with fail
       go_roundg (6-n)
       case measure=>omega
       case rel=>exact whole_round hst.out hO.out hlen hn (whole_new hk6 hk.out hlk.out (M6.out.still (Still.drew w6)) (ownsRow_fr own6.out ((Fr.refl w6 (fun _=>False)).still (Still.drew w6)) (fun _ _ h=>h)) (fun g hg=>.inl (.inr hg)) hI4.out)
      | some x=>
       rw[hlk] at hl
       have hso:=hl.sort
       replace hl:=hide hl
       replace hlk:=hide hlk
       go_wp2_with (go_at_call 24;refine(wrong_rep M6.out.R).mono ?_;rintro e w7 ⟨rfl,hW,st7⟩)
       go_roundg (6-n)
       case measure=>omega
       case rel=>exact whole_round hst.out hO.out hlen hn (whole_again hk.out hlk.out (M6.out.call hW st7))
    ·rw[if_neg h61] at hst
     go_wp2_with (first
      |(go_at_call 39;refine(peek_rep M1.out.R hc.out).mono ?_;rintro e w2 ⟨rfl,hw2⟩;have M2:=M1.out.still hw2;have c12:=M2.R.here.c1;have f12:=M2.R.here.thaw 1;replace M2:=hide M2)
      |(go_at_call 40;refine(eat_rep' 61 (M2.out.R.inc hjs).1 rfl (by decide)).mono ?_;rintro e w3 ⟨rfl,hE,st3⟩;rw[if_neg h61] at hE;have M3:=(M2.out.call (M2.out.R.inc hjs).1 (M2.out.R.inc hjs).2).call hE st3;have c23:=M3.R.here.c2;clear hE st3;replace M3:=hide M3))
     first|go_end0|refine bodyPost_ret (results_none rfl _ _ _) rfl ?_
     rw[hPOST.out]
     exact⟨rfl,whole_err (pSchema_err hst.out) M3.out.R M3.out.st M3.out.XX⟩
   ·have hend:pDefsN s 6 0=.ok (ds,j):=by
     rw[hdefs]
     by_cases hn:n=6
     ·subst hn
      simp[pDefsN,aheadD]
     ·rw[show 6-n=(5-n)+1 by omega,pDefs_step,if_neg (fun h=>hin ⟨by omega,by have:=h.1;rw[hc] at this;simp only[isName,Bool.and_eq_true,decide_eq_true_eq] at this;exact this,h.2⟩)]
    replace hend:=hide hend
    replace M:=hide M
    replace hc:=hide hc
    have hpk:Hid (∀ q,Calls Tryz.prog 39 #[.pointer (some ⟨br,0,none⟩)] (wr.drewN q) fun e w'=>e=.returned (.int .u8 (c:Int))∧∃ m,w'=(wr.drewN q).drewN m):=fun q=>peek_rep (M.out.R.still (Still.drewN wr q)) hc.out
    have hwi:Hid (∀ (q:Nat) (b:Bool),(decide ((65:Int)≤(c:Int))&&decide ((c:Int)≤70))=b→Calls Tryz.prog 38 #[.int .u8 (c:Int),.int .u8 65,.int .u8 70] (wr.drewN q) fun e w'=>e=.returned (.bool b)∧w'=wr.drewN q):=fun q b hb=>by rw[← hb];exact within_any _ _ _ _
    clear hdefs
    obtain⟨b9,n9⟩:∃ b,(decide ((65:Int)≤(c:Int))&&decide ((c:Int)≤70))=b:=⟨_,rfl⟩
    have hthree:decide ((n:Int)<6)=false∨((n:Int)<6∧b9=false)∨((n:Int)<6∧b9=true∧decide ((j:Int)+1<(s.size:Int))=false):=by
     by_cases h1:n<6
     ·by_cases h2:65≤c∧c≤70
      ·exact .inr (.inr ⟨by omega,by rw[← n9];simp;omega,decide_eq_false (by omega)⟩)
      ·exact .inr (.inl ⟨by omega,by rw[← n9];simp;omega⟩)
     ·exact .inl (decide_eq_false (by omega))
    have hsc:=hide (pSchema_typ hend.out)
    have hzl:=M.out.D.1
    obtain⟨rt,hrt⟩:∃ v,zs'[30]?=some v:=⟨_,List.getElem?_eq_getElem (by omega)⟩
    replace n9:=hide n9
    replace hin:=hide hin
    clear c2 hnm
    have c2:=M.out.R.here.c2
    rcases hthree with h1|⟨h1,h2⟩|⟨h1,h2,h3⟩
    all_goals try subst h2
    all_goals
     go_wp2_with fail
     go_quiet (first|(go_at_call 39;exact Calls.quiet_of (hpk.out _))|(go_at_call 38;exact Calls.quiet_of_same (hwi.out _ _ n9.out)))
     go_wp2_with fail
     have M1:=M.out.still (Still.drewN wr nq)
     generalize wr.drewN nq=W1 at M1⊢
     clear c0 c1 c2
     have c3:=M1.R.here.c3
     have hT:=hide (typ_ok M1.R.il _ _ _ _ _ _ _ _ _ _ _ _ (M1.R.still (Still.drew W1)))
     cases hp:pT s j with
     | error k=>
      rw[hp] at hsc
      replace hp:=hide hp
      refine wp_regionC 8 (fun W=>W.cell? ⟨br,3,none⟩=some (.pointer (some ⟨bz,0,none⟩))) (by kernel_rfl) ?_
      refine wpAnyC_take 0 ?v0 rfl (by kernel_rfl) (fun _ _ _ h=>h) (by rfl) ?y0 ?_
      case y0=>(intro W hW;go_simp <;> rfl)
      refine wpAnyC_take 1 ?v1 rfl (by kernel_rfl) (fun _ _ _ h=>h) (by rfl) ?y1 ?_
      case y1=>(intro W hW;go_simp <;> rfl)
      refine wpAnyC_take 2 ?v2 rfl (by kernel_rfl) (fun _ _ _ h=>h) (by rfl) ?y2 ?_
      case y2=>(intro W hW;go_simp <;> rfl)
      refine wpAnyC_take 3 ?v3 rfl (by kernel_rfl) (fun _ _ _ h=>h) (by rfl) ?y3 ?_
      case y3=>(intro W hW;go_simp <;> rfl)
      refine wpAnyC_take 4 ?v4 rfl (by kernel_rfl) (fun _ _ _ h=>h) (by rfl) ?y4 ?_
      case y4=>(intro W hW;go_simp <;> rfl)
      refine wpAnyC_one 5 rfl (by kernel_rfl) (fun _=>c3) (fun K hK=>?_)
      go_simp
      refine hT.out.mono ?_
      intro e w8 hh
      unfold TypPost at hh
      rw[hp.out] at hh
      obtain⟨⟨v,rfl⟩,mx8,ts8,us8,tv8,u8,R8,hl8,st8⟩:=hh
      refine hK _ _ ?_
      clear hK K
      have c38:=R8.here.c3
      have z38:w8.cell? ⟨bz,31,none⟩=some rt:=by rw[R8.z.cell];exact hrt
      have g38:=R8.z.thaw 31
      have S9:=hide ((M1.st.still (Still.drew W1)).trans (st8.trans (R8.setZ 30 (.int .i64 (v:Int))).2))
      have R9:=(R8.setZ 30 (.int .i64 (v:Int))).1
      have hXX:=M1.XX
      refine wpAnyC_one 6 rfl (by kernel_rfl) (fun _=>c38) (fun K hK=>?_)
      go_simp
      refine hK _ _ ?_
      clear hK K
      refine wpAnyC_one 7 rfl (by kernel_rfl) (fun _=>c38) (fun K hK=>?_)
      go_simp
      refine hK _ _ ?_
      clear hK K
      refine wpAnyC_one 8 rfl (by kernel_rfl) (fun _=>c38) (fun K hK=>?_)
      go_simp
      refine hK _ _ ?_
      clear hK K
      refine wpAnyC_done (by kernel_rfl) (fun hm=>absurd hm (by decide)) ?_ _
      have c09:=R9.here.c0
      have c19:=R9.here.c1
      have c29:=R9.here.c2
      have f29:=R9.here.thaw 2
      by_cases hlt:k<s.size
      ·have hlt':(k:Int)<(s.size:Int):=by omega
       go_wp2_with fail
       go_quiet (fail)
       go_wp2_with fail
       first|go_end0|refine bodyPost_ret (results_none rfl _ _ _) rfl ?_
       rw[hPOST.out]
       refine⟨rfl,?_⟩
       have key:=fun (W:World) (hW:Still (w8.setCell ⟨bz,30+1,none⟩ (.int .i64 (v:Int))) W)=>whole_err (wr:=wg) (mx:=mx) hsc.out (R9.still hW).spoil.1 ((S9.out.still hW).trans (R9.still hW).spoil.2) hXX
       exact key _ (by first|exact Still.drewN _ _|exact(Still.drewN _ _).trans (Still.drewN _ _)|exact((Still.drewN _ _).trans (Still.drewN _ _)).trans (Still.drewN _ _))
      ·have hlt':¬ (k:Int)<(s.size:Int):=by omega
       go_wp2_with fail
       go_quiet (fail)
       go_wp2_with fail
       first|go_end0|refine bodyPost_ret (results_none rfl _ _ _) rfl ?_
       rw[hPOST.out]
       refine⟨rfl,?_⟩
       have key:=fun (W:World) (hW:Still (w8.setCell ⟨bz,30+1,none⟩ (.int .i64 (v:Int))) W)=>whole_err (wr:=wg) (mx:=mx) hsc.out (R9.still hW) (S9.out.still hW) hXX
       exact key _ (by first|exact Still.drewN _ _|exact(Still.drewN _ _).trans (Still.drewN _ _)|exact((Still.drewN _ _).trans (Still.drewN _ _)).trans (Still.drewN _ _))
     | ok q=>
      obtain⟨t,j'⟩:=q
      rw[hp] at hsc
      replace hp:=hide hp
      refine wp_regionC 8 (fun W=>W.cell? ⟨br,3,none⟩=some (.pointer (some ⟨bz,0,none⟩))) (by kernel_rfl) ?_
      refine wpAnyC_take 0 ?v0 rfl (by kernel_rfl) (fun _ _ _ h=>h) (by rfl) ?y0 ?_
      case y0=>(intro W hW;go_simp <;> rfl)
      refine wpAnyC_take 1 ?v1 rfl (by kernel_rfl) (fun _ _ _ h=>h) (by rfl) ?y1 ?_
      case y1=>(intro W hW;go_simp <;> rfl)
      refine wpAnyC_take 2 ?v2 rfl (by kernel_rfl) (fun _ _ _ h=>h) (by rfl) ?y2 ?_
      case y2=>(intro W hW;go_simp <;> rfl)
      refine wpAnyC_take 3 ?v3 rfl (by kernel_rfl) (fun _ _ _ h=>h) (by rfl) ?y3 ?_
      case y3=>(intro W hW;go_simp <;> rfl)
      refine wpAnyC_take 4 ?v4 rfl (by kernel_rfl) (fun _ _ _ h=>h) (by rfl) ?y4 ?_
      case y4=>(intro W hW;go_simp <;> rfl)
      refine wpAnyC_one 5 rfl (by kernel_rfl) (fun _=>c3) (fun K hK=>?_)
      go_simp
      refine hT.out.mono ?_
      intro e w8 hh
      unfold TypPost at hh
      rw[hp.out] at hh
      obtain⟨rfl,tv8,u8,R8,st8⟩:=hh
      refine hK _ _ ?_
      clear hK K
      have c38:=R8.here.c3
      have z38:w8.cell? ⟨bz,31,none⟩=some rt:=by rw[R8.z.cell];exact hrt
      have g38:=R8.z.thaw 31
      obtain⟨v,hv⟩:∃ v:Nat,v=(accT 0 ds).length+(flat (accT 0 ds).length t).length-1:=⟨_,rfl⟩
      rw[← hv]
      replace hv:=hide hv
      have S8:=(M1.st.still (Still.drew W1)).trans st8
      have D8:=(M1.D.step M1.R (Step.ofStill (Still.drew W1))).step (M1.R.still (Still.drew W1)) st8
      have S9:=hide (S8.trans (R8.setZ 30 (.int .i64 (v:Int))).2)
      have D9:=hide ((D8.step R8 (R8.setZ 30 (.int .i64 (v:Int))).2).root (.int .i64 (v:Int)))
      have R9:=(R8.setZ 30 (.int .i64 (v:Int))).1
      have hXX:=M1.XX
      have hr9:=hide (show(zs'.set 30 (.int .i64 (v:Int)))[30]?=some (.int .i64 (v:Int)) by simp[List.getElem?_set];omega)
      refine wpAnyC_one 6 rfl (by kernel_rfl) (fun _=>c38) (fun K hK=>?_)
      go_simp
      refine hK _ _ ?_
      clear hK K
      refine wpAnyC_one 7 rfl (by kernel_rfl) (fun _=>c38) (fun K hK=>?_)
      go_simp
      refine hK _ _ ?_
      clear hK K
      refine wpAnyC_one 8 rfl (by kernel_rfl) (fun _=>c38) (fun K hK=>?_)
      go_simp
      refine hK _ _ ?_
      clear hK K
      refine wpAnyC_done (by kernel_rfl) (fun hm=>absurd hm (by decide)) ?_ _
      have c09:=R9.here.c0
      have c19:=R9.here.c1
      have c29:=R9.here.c2
      have f29:=R9.here.thaw 2
      by_cases hlt:j'<s.size
      ·have hlt':(j':Int)<(s.size:Int):=by omega
       go_wp2_with fail
       go_quiet (fail)
       go_wp2_with fail
       first|go_end0|refine bodyPost_ret (results_none rfl _ _ _) rfl ?_
       rw[hPOST.out]
       refine⟨rfl,?_⟩
       have key:=fun (W:World) (hW:Still (w8.setCell ⟨bz,30+1,none⟩ (.int .i64 (v:Int))) W)=>whole_err (wr:=wg) (mx:=mx) (by rw[hsc.out,if_pos hlt]) (R9.still hW).spoil.1 ((S9.out.still hW).trans (R9.still hW).spoil.2) hXX
       exact key _ (by first|exact Still.drewN _ _|exact(Still.drewN _ _).trans (Still.drewN _ _)|exact((Still.drewN _ _).trans (Still.drewN _ _)).trans (Still.drewN _ _))
      ·have hlt':¬ (j':Int)<(s.size:Int):=by omega
       go_wp2_with fail
       go_quiet (fail)
       go_wp2_with fail
       first|go_end0|refine bodyPost_ret (results_none rfl _ _ _) rfl ?_
       rw[hPOST.out]
       refine⟨rfl,?_⟩
       have key:=fun (W:World) (hW:Still (w8.setCell ⟨bz,30+1,none⟩ (.int .i64 (v:Int))) W)=>whole_ok (wr:=wg) (mx:=mx) (j':=j') hsc.out hlt R9.il ⟨R9.still hW,D9.out.step R9 (Step.ofStill hW),hXX,S9.out.still hW⟩ (hv.out▸hr9.out)
       exact key _ (by first|exact Still.drewN _ _|exact(Still.drewN _ _).trans (Still.drewN _ _)|exact((Still.drewN _ _).trans (Still.drewN _ _)).trans (Still.drewN _ _))
  ·obtain⟨k,Xk,zs',tv',u',wg',MX,TS,US,R1,st1,hX1,hres⟩:=hC
   have c2:=R1.here.c2
   replace hres:=hide hres
   replace R1:=hide R1
   replace st1:=hide st1
   have key:=hide (fun (W:World) (hW:Still wr W)=>whole_err (wr:=wg) (mx:=mx) hres.out (R1.out.still hW) (st1.out.still hW) hX1)
   by_cases hn:n<6
   ·have hn':(n:Int)<6:=by omega
    go_wp2_with fail
    go_quiet (fail)
    go_wp2_with fail
    first|go_end0|refine bodyPost_ret (results_none rfl _ _ _) rfl ?_
    rw[hPOST.out]
    exact⟨rfl,key.out _ (by first|exact Still.drewN _ _|exact(Still.drewN _ _).trans (Still.drewN _ _)|exact((Still.drewN _ _).trans (Still.drewN _ _)).trans (Still.drewN _ _))⟩
   ·have hn':decide ((n:Int)<6)=false:=decide_eq_false (by omega)
    go_wp2_with fail
    go_quiet (fail)
    go_wp2_with fail
    first|go_end0|refine bodyPost_ret (results_none rfl _ _ _) rfl ?_
    rw[hPOST.out]
    exact⟨rfl,key.out _ (by first|exact Still.drewN _ _|exact(Still.drewN _ _).trans (Still.drewN _ _)|exact((Still.drewN _ _).trans (Still.drewN _ _)).trans (Still.drewN _ _))⟩
end Go.Proofs.YtiifagiebikmdaaGreatDoor
