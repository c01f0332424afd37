import Derived.Test.YtiifagiebikmdaaGreatDoorBK36
import Derived.Test.YtiifagiebikmdaaGreatDoorBK13
import Derived.Test.YtiifagiebikmdaaGreatDoorBK26
import Derived.Test.YtiifagiebikmdaaGreatDoorBK28
namespace Go.Proofs.YtiifagiebikmdaaGreatDoor
open Go.RowKit
def FyInv (RES:Except Nat (List DT×Nat×Nat)) (R:PT→Nat→Nat→Except Nat (DT×Nat×Nat)) (fs:List PF) (n:Nat) (w0:World) (P:Nat→Prop) (ss:ByteArray) (ds:List PD) (sv rv:Value) (xs:List Value) (s:ByteArray) (E:WErr) (br:Nat) (cx:List Value) (ct:TypeId) (t:PT) (w:World) (q:Nat) (v6 v14:Value) (W:World):Prop:=
 ∃ (l:List DT) (j nn:Nat),v14=.int .i64 (l.length:Int)∧l.length≤fs.length∧n≤nn∧nn≤300∧302≤q+l.length∧Hid (YL w0 P ss ds sv rv xs s E br j nn cx ct t w v6 l W)∧RES=aheadB l (bFields R ((fs.map PF.ty).drop l.length) j nn)
section
variable {w0 w:World} {P:Nat→Prop} {ss:ByteArray} {ds:List PD} {sv rv:Value} {xs:List Value} {s:ByteArray} {E:WErr} {br i n:Nat}
def recI:Except Nat (List DT×Nat×Nat)→Except Nat (DT×Nat×Nat)
 | .error e=>.error e
 | .ok (l,j,m)=>.ok (.mk 114 0 noB [] l,j,m)
set_option maxHeartbeats 8000000 in
set_option maxRecDepth 100000 in
theorem yrecord_any {fs:List PF}{t:PT}{f:Nat}{pt:Int}{fv:Value}{zs:List Value}(M:YC w0 P ss ds sv rv xs s E br i n w) (hn:n≤300) (hF:FlRow w P ss fs fv zs) (hsm:∀ g∈fs,isSmall g.letter=true) (hlen:fs.length≤300) (hsub:∀ k g,fs[k]?=some g→subTy (envOf ds) t 0 k=g.ty) (hR:∀ g∈fs,∀ j nn,n≤nn→nn≤300→j≤s.size→DatY w0 P ss ds sv rv xs s E br f g.ty j nn) :
 Calls Tryz.prog 131 #[.pointer (some ⟨br,0,none⟩),.agg #[.int .i64 pt,fv]] w (YPost (envOf ds) t w sv rv s E br (recI (bFields (rdB s (envOf ds) f) (fs.map PF.ty) i n))):=by
 obtain⟨POST,hPOST⟩:∃ Q,Hid (Q=YPost (envOf ds) t w sv rv s E br (recI (bFields (rdB s (envOf ds) f) (fs.map PF.ty) i n))):=⟨_,rfl⟩
 rw[← hPOST.out]
 have hsl:=M.hs
 have hbl:=M.lt
 have hnb:=M.brP
 obtain⟨fa,fc,rfl⟩:=own_sl hF.row
 have A:Fr w (w.alloc (.cells #[.int .i64 pt,.slice fa fs.length fc] 211)) (fun _=>False):=(Fr.refl w _).alloc _
 have M0:=M.new A
 have B0:=Blk.new w #[.int .i64 pt,.slice fa fs.length fc] 211
 obtain⟨RES,hRES⟩:∃ r,r=bFields (rdB s (envOf ds) f) (fs.map PF.ty) i n:=⟨_,rfl⟩
 rw[← hRES] at hPOST
 have start:Hid (FyInv RES (rdB s (envOf ds) f) fs n w0 P ss ds sv rv xs s E br [.int .i64 pt,.slice fa fs.length fc] 211 t w 302 (.slice none 0 0) (.int .i64 0) (w.alloc (.cells #[.int .i64 pt,.slice fa fs.length fc] 211))):=hide ⟨[],i,n,rfl,by simp,Nat.le_refl _,hn,by simp,hide ⟨M0,A.mono (fun _ _ f=>f.elim),B0,by simp,hbl,RowT.nil _ _ _ _ _⟩,by rw[aheadB_nil,hRES];rfl⟩
 replace hRES:=hide hRES
 replace hR:=hide hR
 replace hF:=hide hF
 replace hsm:=hide hsm
 replace hsub:=hide hsub
 have hb1:=B0.cell 1
 simp only[List.getElem?_cons_zero,List.getElem?_cons_succ] at hb1
 clear M M0 A B0
 go_enter Tryz.func131,Tryz.ntmps131
 go_wp2_with fail
 go_loopg [6,8,9,10,14] 302 (fun q v6 v8 v9 v10 v14 W=>FyInv RES (rdB s (envOf ds) f) fs n w0 P ss ds sv rv xs s E br [.int .i64 pt,.slice fa fs.length fc] 211 t w q v6 v14 W)
 case atStart=>exact start.out
 case round=>
  clear start hb1
  obtain⟨l,j,nn,rfl,hkc,hnn,hnn3,hq,hQ,hres⟩:=hrel
  obtain⟨Y,hrow,hY⟩:=hQ.out.row
  obtain⟨la,lc,rfl⟩:=own_sl hrow
  by_cases hend:l.length=fs.length
  ·have hlt:¬ (l.length:Int)<(fs.length:Int):=by omega
   have hr:=hide (show RES=.ok (l,j,nn) by rw[hres,List.drop_of_length_le (by simp;omega)];simp[bFields,aheadB])
   have hQr:=hide hQ.out.row
   clear hres hrow hY hend
   go_wp2_with fail
   try go_ret
   rw[hPOST.out,hr.out]
   refine yok ?_ hQ.out.fr hQ.out.M.R hQ.out.M.il
   exact hQr.out.dat (fun g _ hg=>by omega) (fun g e=>by have:=hQr.out;obtain⟨_,a,_⟩:=this;have:=(a.lt g e).1;show w.heap.size≤g;omega) (.inr ⟨rfl,rfl⟩)
  ·have hlt:(l.length:Int)<(fs.length:Int):=by omega
   have hkl:l.length<fs.length:=by omega
   have hd:fs[l.length]?=some fs[l.length]:=List.getElem?_eq_getElem hkl
   have hmem:fs[l.length]∈fs:=List.getElem_mem hkl
   have hdr:(fs.map PF.ty).drop l.length=fs[l.length].ty::(fs.map PF.ty).drop (l.length+1):=by
    rw[List.drop_eq_getElem_cons (by simpa using hkl),List.getElem_map]
   rw[hdr,aheadB_cons] at hres
   generalize fs[l.length]=g0 at hd hmem hres
   have hFr:=hF.out.fr hQ.out.fr (fun g hg e=>hnb (e▸hg))
   obtain⟨gz,cap,hgc⟩:=own_form hFr.row (by omega)
   cases hgc
   obtain⟨T,x,d0,c0,c1,c2,c3,hT,hDf⟩:=hFr.cells hd
   obtain⟨lt,hl0⟩:∃ l,g0.letter=l:=⟨_,rfl⟩
   obtain⟨plq,hplq⟩:∃ q,g0.place=q:=⟨_,rfl⟩
   have hls:isSmall lt=true:=by rw[← hl0];exact hsm.out _ hmem
   rw[hl0] at c1
   rw[hplq] at c0
   have hsb:=hide (hsub.out _ _ hd)
   have A1:=(Fr.refl wr (fun _=>False)).alloc (.cells #[.int .i64 (plq:Int),.int .u8 (lt:Int),.iface T x,.pointer d0] 149)
   have N1:=Blk.new wr #[.int .i64 (plq:Int),.int .u8 (lt:Int),.iface T x,.pointer d0] 149
   have hz1:(wr.alloc (.cells #[.int .i64 (plq:Int),.int .u8 (lt:Int),.iface T x,.pointer d0] 149)).heap.size=wr.heap.size+1:=by simp
   have Q0:=hQ.out.call (A1.blk hQ.out.M.R id) (A1.mono (fun _ _ f=>f.elim)) hQ.out.M.il
   have hC:=hR.out _ hmem j nn hnn hnn3 hQ.out.M.il _ _ Q0.M hnn3 (hT.fr A1 (fun _ _ f=>f))
   have hbB:=hQ.out.bB
   have hlw:=hQ.out.lt
   have hL3:l.length≤300:=by omega
   replace hz1:=hide hz1
   replace N1:=hide N1
   replace Q0:=hide Q0
   clear hT hDf hFr hl0 hplq hdr hend
   cases hrd:rdB s (envOf ds) f g0.ty j nn with
   | error e0=>
    rw[hrd] at hres hC
    have hr:=hide hres
    replace hC:=hide hC
    replace A1:=hide A1
    clear hrow hY hres hd hmem
    go_wp2_with (first
     |(go_at_call 66;refine hC.out.mono ?_;rintro e w1 ⟨v1,ev1,rfl,hf1,hv1,hE1,hR1⟩;subst hv1;obtain⟨eT,ex,rfl⟩:=hE1.iface;have n1:=(hf1.blk N1.out (by omega)).cell 1;simp only[List.getElem?_cons_zero,List.getElem?_cons_succ] at n1;have hz:=hide hf1.size;replace hE1:=hide hE1;replace hf1:=hide hf1;replace hR1:=hide hR1)
     |(go_at_call 152;refine(inField_any hls).mono ?_;rintro e w2 hW2;have hE2:=hide (fun v (he:e=.returned v)=>hE1.out.wrap hW2 (by have:=hz.out;omega) he);obtain⟨g2,tx2,rfl,hg2,hb2,hf2⟩:=hW2;replace hf2:=hide hf2;replace hb2:=hide hb2))
    try go_ret
    rw[hPOST.out,hr.out]
    refine⟨_,_,rfl,(Q0.out.fr.trans hf1.out (fun _ _ e=>e)).trans (hf2.out.mono (fun _ _ f=>f.elim)) (fun _ _ e=>e),rfl,(hE2.out _ rfl).less (by have:=Q0.out.fr.size;omega),?_⟩
    obtain⟨j1,m1,h1,h2⟩:=hR1.out
    exact⟨j1,m1,hf2.out.blk h1 id,h2⟩
   | ok q=>
    obtain⟨d,j1,m1⟩:=q
    rw[hrd] at hres hC
    have hgo:=rdB_goes s (envOf ds) f g0.ty j nn d j1 m1 hQ.out.M.il hnn3 hrd
    have hres':=hide hres
    replace hC:=hide hC
    have hY0:=hide (fun i d (e:l[i]?=some d)=>(hY i d e).fr A1 (fun _ _ f=>f))
    have hrow0:=hide (ownsRow_fr hrow A1 (fun _ _ f=>f))
    replace hrow:=hide hrow
    replace A1:=hide A1
    obtain⟨ti,hi1,hi2,hi3,hi4⟩:=info_parts i_Datum2
    clear hres hY hd hmem
    go_wp2_with (first
     |(go_at_call 66;refine hC.out.mono ?_;rintro e w1 ⟨v1,ev1,rfl,hf1,hv1,hD1,hR1,hj1⟩;subst hv1;obtain⟨dT,dx,rfl⟩:=hD1.iface;have Q1:=Q0.out.call hR1 hf1 hj1;have hb1:=Q1.bB;have hrow1:=hide (ownsRow_fr hrow0.out hf1 (fun g hg e=>by have:=hrow0.out.lt g hg;omega));have hD1':=hide (hD1.mono (Q:=fun g=>w.heap.size+1≤g∧(Value.slice la l.length lc).ownBlock≠some g) (fun g _ hg=>⟨by have:=hz1.out;omega,fun e=>by have:=hrow.out.lt g e;have:=hz1.out;omega⟩));have hY1:=hide (fun i d (e:l[i]?=some d)=>(hY0.out i d e).fr hf1 (fun g hg e=>by have:=hg.1;omega));replace Q1:=hide Q1;clear hD1 hR1 hf1)
     |(at_builtin;go_must (refine wpList_append_own_at _ rfl _ _ 163 rfl (w.heap.size+1) 89 ti _ 1 16 u_DRec hi1 hi2 hi3 hi4 rfl (by decide) (.slice la l.length lc) l.length ((List.range l.length).flatMap fun i=>[Y i]) rfl ?hown _ 1 1 [.iface dT dx] rfl rfl (news_new _ #[.iface dT dx] _ _ ?nn) ?one ?b1 ?b2 ?b3 ?_)
       case hown=>exact World.ownsRow.alloc hrow1.out _
       case nn=>simp
       case one=>simp[Value.oneCell']
       case b1=>unfold maxLen;omega
       case b2=>omega
       case b3=>simp;omega
       intro v5 w5 ho5 hg5 hn5 hl5
       have Q5:=Q1.out.item hY1.out (by rw[hsb.out];exact hD1'.out) hg5 ho5 hl5
       obtain⟨g5,cap5,rfl⟩:=own_form ho5 (by omega)
       clear hg5 hl5 hn5 ho5
       replace Q5:=hide Q5))
    go_roundg (302-(l.length+1))
    case measure=>omega
    case rel=>
     refine⟨l++[d],j1,m1,by simp,by simp;omega,by omega,hgo.2.2.2,by simp;omega,Q5,?_⟩
     rw[hres'.out,List.length_append,List.length_singleton]
end
open Go.RowKit
def bodB (s:ByteArray) (env:Nat→Option PB) (f:Nat) (t:PT) (i n:Nat):Except Nat (DT×Nat×Nat):=
 match t with
 | .leaf c _=>bLeaf (rdB s env f) s env c i n
 | .wrap c _ t=>bWrap (rdB s env f t) s c i n
 | .alts _ ts=>bBranch (rdB s env f) s ts i n
theorem rdB_body (s:ByteArray) (env:Nat→Option PB) (f:Nat) (t:PT) (i n:Nat):rdB s env (f+1) t i n=if 300≤n then .error 7 else bodB s env f t i (n+1):=by
 cases t <;> (rw[rdB];rfl)
theorem bL_full (s:ByteArray) (i:Nat):bNum s (-9223372036854775808) 9223372036854775807 i=bL s i:=by
 unfold bNum
 cases h:bL s i with
 | none=>rfl
 | some q=>
  obtain⟨z,j⟩:=q
  have:=bL_goes h
  simp only
  rw[if_pos ⟨this.2.2.1,this.2.2.2⟩]
def BodY (w0:World) (P:Nat→Prop) (ss:ByteArray) (ds:List PD) (sv rv:Value) (xs:List Value) (s:ByteArray) (E:WErr) (br f:Nat) (t:PT) (i n:Nat):Prop:=
 ∀ (w:World) (v:Value),YC w0 P ss ds sv rv xs s E br i n w→n≤300→TyV w P t v→
  Calls Tryz.prog 91 #[.pointer (some ⟨br,0,none⟩),v] w (YPost (envOf ds) t w sv rv s E br (bodB s (envOf ds) f t i n))
def DefY (w0:World) (P:Nat→Prop) (ss:ByteArray) (ds:List PD) (sv rv:Value) (xs:List Value) (s:ByteArray) (E:WErr) (br f c p:Nat) (b:PB) (i n:Nat):Prop:=
 ∀ (w:World) (v:Value),YC w0 P ss ds sv rv xs s E br i n w→n≤300→BodyV w P ss b v→
  Calls Tryz.prog 91 #[.pointer (some ⟨br,0,none⟩),v] w (YPost (envOf ds) (.leaf c p) w sv rv s E br (bNamed (rdB s (envOf ds) f) s b i n))
section
variable {w0:World} {P:Nat→Prop} {ss:ByteArray} {ds:List PD} {sv rv:Value} {xs:List Value} {s:ByteArray} {E:WErr} {br i n:Nat} {f p:Nat}
set_option maxHeartbeats 4000000 in
set_option maxRecDepth 100000 in
theorem bdy_110:BodY w0 P ss ds sv rv xs s E br f (.leaf 110 p) i n:=by
 intro w v M hn hT
 obtain rfl:v=.iface 198 (.agg #[.int .i64 (p:Int)]):=by
  cases hT with
  | base _ _ h=>rfl
  | name _ _ h=>exact absurd h (by decide)
 obtain⟨POST,hPOST⟩:∃ Q,Hid (Q=YPost (envOf ds) (.leaf 110 p) w sv rv s E br (bodB s (envOf ds) f (.leaf 110 p) i n)):=⟨_,rfl⟩
 rw[← hPOST.out]
 unfold bodB at hPOST
 simp only at hPOST
 unfold bLeaf at hPOST
 have A:Fr w (w.alloc (.cells #[.int .i64 (p:Int)] 198)) (fun _=>False):=(Fr.refl w _).alloc _
 have M0:=M.new A
 rw[if_pos rfl] at hPOST
 replace M0:=hide M0
 replace A:=hide A
 clear M hT
 have a0:=asNothing_yes
 go_enter Tryz.func91,Tryz.ntmps91
 go_wp2_with fail
 try go_ret
 rw[hPOST.out]
 exact yok (DaV.plain .nothing (by decide)) (A.out.mono (fun _ _ f=>f.elim)) M0.out.R M0.out.il
set_option maxHeartbeats 4000000 in
set_option maxRecDepth 100000 in
theorem bdy_116:BodY w0 P ss ds sv rv xs s E br f (.leaf 116 p) i n:=by
 intro w v M hn hT
 obtain rfl:v=.iface 199 (.agg #[.int .i64 (p:Int)]):=by
  cases hT with
  | base _ _ h=>rfl
  | name _ _ h=>exact absurd h (by decide)
 obtain⟨POST,hPOST⟩:∃ Q,Hid (Q=YPost (envOf ds) (.leaf 116 p) w sv rv s E br (bodB s (envOf ds) f (.leaf 116 p) i n)):=⟨_,rfl⟩
 rw[← hPOST.out]
 unfold bodB at hPOST
 simp only at hPOST
 unfold bLeaf at hPOST
 have A:Fr w (w.alloc (.cells #[.int .i64 (p:Int)] 199)) (fun _=>False):=(Fr.refl w _).alloc _
 have M0:=M.new A
 rw[if_neg (by decide),if_pos rfl] at hPOST
 have hC:=hide (ytruth_any (env:=envOf ds) (t:=.leaf 116 p) M0)
 replace A:=hide A
 clear M M0 hT
 have a0:=asNothing_no 199 (by decide)
 have a1:=asTruth_yes
 go_enter Tryz.func91,Tryz.ntmps91
 go_wp2_with (go_at_call 125;refine hC.out.mono ?_;intro e w2 hN;obtain⟨v2,ev2,rfl,hN2⟩:=hN;replace hN2:=hide hN2)
 try go_ret
 rw[hPOST.out]
 exact YPost.pre A.out ⟨v2,ev2,rfl,hN2.out⟩
set_option maxHeartbeats 4000000 in
set_option maxRecDepth 100000 in
theorem bdy_105:BodY w0 P ss ds sv rv xs s E br f (.leaf 105 p) i n:=by
 intro w v M hn hT
 obtain rfl:v=.iface 200 (.agg #[.int .i64 (p:Int)]):=by
  cases hT with
  | base _ _ h=>rfl
  | name _ _ h=>exact absurd h (by decide)
 obtain⟨POST,hPOST⟩:∃ Q,Hid (Q=YPost (envOf ds) (.leaf 105 p) w sv rv s E br (bodB s (envOf ds) f (.leaf 105 p) i n)):=⟨_,rfl⟩
 rw[← hPOST.out]
 unfold bodB at hPOST
 simp only at hPOST
 unfold bLeaf at hPOST
 have A:Fr w (w.alloc (.cells #[.int .i64 (p:Int)] 200)) (fun _=>False):=(Fr.refl w _).alloc _
 have M0:=M.new A
 rw[if_neg (by decide),if_neg (by decide),if_pos rfl] at hPOST
 have hC:=hide (yinteger_any (env:=envOf ds) (t:=.leaf 105 p) (c:=105) (lo:=-2147483648) (up:=2147483647) (.inl rfl) M0)
 replace A:=hide A
 clear M M0 hT
 have a0:=asNothing_no 200 (by decide)
 have a1:=asTruth_no 200 (by decide)
 have a2:=asInt_yes
 go_enter Tryz.func91,Tryz.ntmps91
 go_wp2_with (go_at_call 126;refine hC.out.mono ?_;intro e w2 hN;obtain⟨v2,ev2,rfl,hN2⟩:=hN;replace hN2:=hide hN2)
 try go_ret
 rw[hPOST.out]
 exact YPost.pre A.out ⟨v2,ev2,rfl,hN2.out⟩
set_option maxHeartbeats 4000000 in
set_option maxRecDepth 100000 in
theorem bdy_108:BodY w0 P ss ds sv rv xs s E br f (.leaf 108 p) i n:=by
 intro w v M hn hT
 obtain rfl:v=.iface 201 (.agg #[.int .i64 (p:Int)]):=by
  cases hT with
  | base _ _ h=>rfl
  | name _ _ h=>exact absurd h (by decide)
 obtain⟨POST,hPOST⟩:∃ Q,Hid (Q=YPost (envOf ds) (.leaf 108 p) w sv rv s E br (bodB s (envOf ds) f (.leaf 108 p) i n)):=⟨_,rfl⟩
 rw[← hPOST.out]
 unfold bodB at hPOST
 simp only at hPOST
 unfold bLeaf at hPOST
 have A:Fr w (w.alloc (.cells #[.int .i64 (p:Int)] 201)) (fun _=>False):=(Fr.refl w _).alloc _
 have M0:=M.new A
 rw[if_neg (by decide),if_neg (by decide),if_neg (by decide),if_pos rfl] at hPOST
 have hC:=yinteger_any (env:=envOf ds) (t:=.leaf 108 p) (c:=108) (lo:=-9223372036854775808) (up:=9223372036854775807) (.inr rfl) M0
 rw[bL_full] at hC
 replace hC:=hide hC
 replace A:=hide A
 clear M M0 hT
 have a0:=asNothing_no 201 (by decide)
 have a1:=asTruth_no 201 (by decide)
 have a2:=asInt_no 201 (by decide)
 have a3:=asLong_yes
 go_enter Tryz.func91,Tryz.ntmps91
 go_wp2_with (go_at_call 126;refine hC.out.mono ?_;intro e w2 hN;obtain⟨v2,ev2,rfl,hN2⟩:=hN;replace hN2:=hide hN2)
 try go_ret
 rw[hPOST.out]
 exact YPost.pre A.out ⟨v2,ev2,rfl,hN2.out⟩
set_option maxHeartbeats 4000000 in
set_option maxRecDepth 100000 in
theorem bdy_115:BodY w0 P ss ds sv rv xs s E br f (.leaf 115 p) i n:=by
 intro w v M hn hT
 obtain rfl:v=.iface 202 (.agg #[.int .i64 (p:Int)]):=by
  cases hT with
  | base _ _ h=>rfl
  | name _ _ h=>exact absurd h (by decide)
 obtain⟨POST,hPOST⟩:∃ Q,Hid (Q=YPost (envOf ds) (.leaf 115 p) w sv rv s E br (bodB s (envOf ds) f (.leaf 115 p) i n)):=⟨_,rfl⟩
 rw[← hPOST.out]
 unfold bodB at hPOST
 simp only at hPOST
 unfold bLeaf at hPOST
 have A:Fr w (w.alloc (.cells #[.int .i64 (p:Int)] 202)) (fun _=>False):=(Fr.refl w _).alloc _
 have M0:=M.new A
 rw[if_neg (by decide),if_neg (by decide),if_neg (by decide),if_neg (by decide),if_pos rfl] at hPOST
 have hC:=hide (ytext_any (env:=envOf ds) (t:=.leaf 115 p) M0)
 replace A:=hide A
 clear M M0 hT
 have a0:=asNothing_no 202 (by decide)
 have a1:=asTruth_no 202 (by decide)
 have a2:=asInt_no 202 (by decide)
 have a3:=asLong_no 202 (by decide)
 have a4:=asText_yes
 go_enter Tryz.func91,Tryz.ntmps91
 go_wp2_with (go_at_call 127;refine hC.out.mono ?_;intro e w2 hN;obtain⟨v2,ev2,rfl,hN2⟩:=hN;replace hN2:=hide hN2)
 try go_ret
 rw[hPOST.out]
 exact YPost.pre A.out ⟨v2,ev2,rfl,hN2.out⟩
set_option maxHeartbeats 4000000 in
set_option maxRecDepth 100000 in
theorem bdy_91 {t:PT}(hI:ItoaOK w0) (hR:∀ j nn,n≤nn→nn≤300→j≤s.size→DatY w0 P ss ds sv rv xs s E br f t j nn):BodY w0 P ss ds sv rv xs s E br f (.wrap 91 p t) i n:=by
 intro w v M hn hT
 obtain⟨v2,hv2,rfl⟩:∃ v2,TyV w P t v2∧v=.iface 205 (.agg #[.int .i64 (p:Int),v2]):=by
  cases hT with
  | wrap _ _ h=>exact⟨_,h,rfl⟩
 obtain⟨vT,vx,rfl⟩:=hv2.iface
 obtain⟨POST,hPOST⟩:∃ Q,Hid (Q=YPost (envOf ds) (.wrap 91 p t) w sv rv s E br (bodB s (envOf ds) f (.wrap 91 p t) i n)):=⟨_,rfl⟩
 rw[← hPOST.out]
 unfold bodB at hPOST
 simp only at hPOST
 clear hT
 have A:Fr w (w.alloc (.cells #[.int .i64 (p:Int),.iface vT vx] 205)) (fun _=>False):=(Fr.refl w _).alloc _
 have M0:=M.new A
 have hC:=hide (ylist_any (p:=p) (pt:=(p:Int)) hI M0 hn (hv2.fr A (fun _ _ f=>f)) hR)
 replace A:=hide A
 clear M0 M
 have a0:=asNothing_no 205 (by decide)
 have a1:=asTruth_no 205 (by decide)
 have a2:=asInt_no 205 (by decide)
 have a3:=asLong_no 205 (by decide)
 have a4:=asText_no 205 (by decide)
 have a5:=asList_yes
 go_enter Tryz.func91,Tryz.ntmps91
 go_wp2_with (go_at_call 128;refine hC.out.mono ?_;intro e w2 hN;obtain⟨v2,ev2,rfl,hN2⟩:=hN;replace hN2:=hide hN2)
 try go_ret
 rw[hPOST.out]
 exact YPost.pre A.out ⟨v2,ev2,rfl,hN2.out⟩
set_option maxHeartbeats 4000000 in
set_option maxRecDepth 100000 in
theorem bdy_123 {t:PT}(hI:QuoteOK w0) (hR:∀ j nn,n≤nn→nn≤300→j≤s.size→DatY w0 P ss ds sv rv xs s E br f t j nn):BodY w0 P ss ds sv rv xs s E br f (.wrap 123 p t) i n:=by
 intro w v M hn hT
 obtain⟨v2,hv2,rfl⟩:∃ v2,TyV w P t v2∧v=.iface 206 (.agg #[.int .i64 (p:Int),v2]):=by
  cases hT with
  | wrap _ _ h=>exact⟨_,h,rfl⟩
 obtain⟨vT,vx,rfl⟩:=hv2.iface
 obtain⟨POST,hPOST⟩:∃ Q,Hid (Q=YPost (envOf ds) (.wrap 123 p t) w sv rv s E br (bodB s (envOf ds) f (.wrap 123 p t) i n)):=⟨_,rfl⟩
 rw[← hPOST.out]
 unfold bodB at hPOST
 simp only at hPOST
 clear hT
 have A:Fr w (w.alloc (.cells #[.int .i64 (p:Int),.iface vT vx] 206)) (fun _=>False):=(Fr.refl w _).alloc _
 have M0:=M.new A
 have hC:=hide (ymap_any (p:=p) (pt:=(p:Int)) hI M0 hn (hv2.fr A (fun _ _ f=>f)) hR)
 replace A:=hide A
 clear M0 M
 have a0:=asNothing_no 206 (by decide)
 have a1:=asTruth_no 206 (by decide)
 have a2:=asInt_no 206 (by decide)
 have a3:=asLong_no 206 (by decide)
 have a4:=asText_no 206 (by decide)
 have a5:=asList_no 206 (by decide)
 have a6:=asMap_yes
 go_enter Tryz.func91,Tryz.ntmps91
 go_wp2_with (go_at_call 129;refine hC.out.mono ?_;intro e w2 hN;obtain⟨v2,ev2,rfl,hN2⟩:=hN;replace hN2:=hide hN2)
 try go_ret
 rw[hPOST.out]
 exact YPost.pre A.out ⟨v2,ev2,rfl,hN2.out⟩
set_option maxHeartbeats 4000000 in
set_option maxRecDepth 100000 in
theorem bdy_40 {l:List PT}(hI:ItoaOK w0) (hl:l.length≤4000) (hR:∀ t∈l,∀ j,j≤s.size→DatY w0 P ss ds sv rv xs s E br f t j n):BodY w0 P ss ds sv rv xs s E br f (.alts p l) i n:=by
 intro w v M hn hT
 obtain⟨X,bv,ho,hP,hX,rfl⟩:∃ (X:Nat→Value) (bv:Value),w.ownsRow 0 83 1 bv l.length ((List.range l.length).map X)∧(∀ g,bv.ownBlock=some g→P g)∧(∀ i t,l[i]?=some t→TyV w P t (X i))∧v=.iface 220 (.agg #[.int .i64 (p:Int),bv]):=by
  cases hT with
  | alts _ X ho hP h=>exact⟨X,_,ho,hP,h,rfl⟩
 obtain⟨ba,bc,rfl⟩:=own_sl ho
 obtain⟨POST,hPOST⟩:∃ Q,Hid (Q=YPost (envOf ds) (.alts p l) w sv rv s E br (bodB s (envOf ds) f (.alts p l) i n)):=⟨_,rfl⟩
 rw[← hPOST.out]
 unfold bodB at hPOST
 simp only at hPOST
 clear hT
 have A:Fr w (w.alloc (.cells #[.int .i64 (p:Int),.slice ba l.length bc] 220)) (fun _=>False):=(Fr.refl w _).alloc _
 have M0:=M.new A
 have hC:=hide (yunion_any (p:=p) (pt:=(p:Int)) hI M0 hn hl (ownsRow_fr ho A (fun _ _ f=>f)) hP (fun i t e=>(hX i t e).fr A (fun _ _ f=>f)) hR)
 replace A:=hide A
 clear M0 M ho hX hR hP
 have a0:=asNothing_no 220 (by decide)
 have a1:=asTruth_no 220 (by decide)
 have a2:=asInt_no 220 (by decide)
 have a3:=asLong_no 220 (by decide)
 have a4:=asText_no 220 (by decide)
 have a5:=asList_no 220 (by decide)
 have a6:=asMap_no 220 (by decide)
 have a7:=asUnion_yes
 go_enter Tryz.func91,Tryz.ntmps91
 go_wp2_with (go_at_call 130;refine hC.out.mono ?_;intro e w2 hN;obtain⟨v2,ev2,rfl,hN2⟩:=hN;replace hN2:=hide hN2)
 try go_ret
 rw[hPOST.out]
 exact YPost.pre A.out ⟨v2,ev2,rfl,hN2.out⟩
set_option maxHeartbeats 4000000 in
set_option maxRecDepth 100000 in
theorem def_recd {c:Nat}{fs:List PF}(hb:envOf ds c=some (.recd fs)) (hsm:∀ g∈fs,isSmall g.letter=true) (hlen:fs.length≤300) (hR:∀ g∈fs,∀ j nn,n≤nn→nn≤300→j≤s.size→DatY w0 P ss ds sv rv xs s E br f g.ty j nn):DefY w0 P ss ds sv rv xs s E br f c p (.recd fs) i n:=by
 intro w v M hn hT
 obtain⟨p2,sv2,zs,ho,hP,h,rfl⟩:∃ (p:Nat) (sv2:Value) (zs:List Value),w.ownsRow 0 149 4 sv2 fs.length zs∧(∀ g,sv2.ownBlock=some g→P g)∧FldsV w P ss fs zs∧v=.iface 211 (.agg #[.int .i64 (p:Int),sv2]):=by
  cases hT with
  | recd p ho hP h=>exact⟨p,_,_,ho,hP,h,rfl⟩
 obtain⟨fa,fc,rfl⟩:=own_sl ho
 obtain⟨POST,hPOST⟩:∃ Q,Hid (Q=YPost (envOf ds) (.leaf c p) w sv rv s E br (bNamed (rdB s (envOf ds) f) s (.recd fs) i n)):=⟨_,rfl⟩
 rw[← hPOST.out]
 have hr:bNamed (rdB s (envOf ds) f) s (.recd fs) i n=recI (bFields (rdB s (envOf ds) f) (fs.map PF.ty) i n):=by
  unfold bNamed
  simp only
  cases bFields (rdB s (envOf ds) f) (fs.map PF.ty) i n with
  | error e=>rfl
  | ok q=>rfl
 rw[hr] at hPOST
 clear hT hr
 have A:Fr w (w.alloc (.cells #[.int .i64 (p2:Int),.slice fa fs.length fc] 211)) (fun _=>False):=(Fr.refl w _).alloc _
 have M0:=M.new A
 have F0:FlRow w P ss fs (.slice fa fs.length fc) zs:=⟨ho,hP,h⟩
 have hC:=hide (yrecord_any (t:=.leaf c p) (pt:=(p2:Int)) M0 hn (F0.fr A (fun _ _ f=>f)) hsm hlen (fun k g e=>by simp[subTy,hb,List.getD_eq_getElem?_getD,e]) hR)
 replace A:=hide A
 clear M0 M ho h F0 hsm hR hb
 have a0:=asNothing_no 211 (by decide)
 have a1:=asTruth_no 211 (by decide)
 have a2:=asInt_no 211 (by decide)
 have a3:=asLong_no 211 (by decide)
 have a4:=asText_no 211 (by decide)
 have a5:=asList_no 211 (by decide)
 have a6:=asMap_no 211 (by decide)
 have a7:=asUnion_no 211 (by decide)
 have a8:=asName_no 211 (by decide)
 have a9:=asRecord_yes
 go_enter Tryz.func91,Tryz.ntmps91
 go_wp2_with (go_at_call 131;refine hC.out.mono ?_;intro e w2 hN;obtain⟨v2,ev2,rfl,hN2⟩:=hN;replace hN2:=hide hN2)
 try go_ret
 rw[hPOST.out]
 exact YPost.pre A.out ⟨v2,ev2,rfl,hN2.out⟩
set_option maxHeartbeats 4000000 in
set_option maxRecDepth 100000 in
theorem def_enum {c:Nat}{l:List (Nat×Nat)}{o:Option (Nat×Nat)}(hb:envOf ds c=some (.enum l o)) (hsm:∀ q∈l,isSmall q.1=true) (hlen:l.length≤300):DefY w0 P ss ds sv rv xs s E br f c p (.enum l o) i n:=by
 intro w v M hn hT
 obtain⟨p2,sv2,u,ho,hP,hu,rfl⟩:∃ (p:Nat) (sv2 u:Value),w.ownsRow 0 146 2 sv2 l.length (symCells l)∧(∀ g,sv2.ownBlock=some g→P g)∧UnkV w P o u∧v=.iface 216 (.agg #[.int .i64 (p:Int),sv2,u]):=by
  cases hT with
  | enum p ho hP h=>exact⟨p,_,_,ho,hP,h,rfl⟩
 obtain⟨fa,fc,rfl⟩:=own_sl ho
 obtain⟨dd,rfl⟩:∃ d,u=.pointer d:=by
  unfold UnkV at hu
  split at hu
  ·exact⟨_,hu⟩
  ·obtain⟨g',_,e,_⟩:=hu;exact⟨_,e⟩
 obtain⟨POST,hPOST⟩:∃ Q,Hid (Q=YPost (envOf ds) (.leaf c p) w sv rv s E br (bNamed (rdB s (envOf ds) f) s (.enum l o) i n)):=⟨_,rfl⟩
 rw[← hPOST.out]
 unfold bNamed at hPOST
 simp only at hPOST
 clear hT hu
 have A:Fr w (w.alloc (.cells #[.int .i64 (p2:Int),.slice fa l.length fc,.pointer dd] 216)) (fun _=>False):=(Fr.refl w _).alloc _
 have M0:=M.new A
 have hC:=hide (ysymbol_any (t:=.leaf c p) (pt:=(p2:Int)) (dd:=dd) M0 hlen hsm (ownsRow_fr ho A (fun _ _ f=>f)) hP (fun k=>by simp[symL,hb]))
 replace A:=hide A
 clear M0 M ho hsm hb
 have a0:=asNothing_no 216 (by decide)
 have a1:=asTruth_no 216 (by decide)
 have a2:=asInt_no 216 (by decide)
 have a3:=asLong_no 216 (by decide)
 have a4:=asText_no 216 (by decide)
 have a5:=asList_no 216 (by decide)
 have a6:=asMap_no 216 (by decide)
 have a7:=asUnion_no 216 (by decide)
 have a8:=asName_no 216 (by decide)
 have a9:=asRecord_no 216 (by decide)
 have a10:=asEnum_yes
 go_enter Tryz.func91,Tryz.ntmps91
 go_wp2_with (go_at_call 132;refine hC.out.mono ?_;intro e w2 hN;obtain⟨v2,ev2,rfl,hN2⟩:=hN;replace hN2:=hide hN2)
 try go_ret
 rw[hPOST.out]
 exact YPost.pre A.out ⟨v2,ev2,rfl,hN2.out⟩
set_option maxHeartbeats 4000000 in
set_option maxRecDepth 100000 in
theorem def_bytes {c k:Nat}(hk:k≤9):DefY w0 P ss ds sv rv xs s E br f c p (.bytes k) i n:=by
 intro w v M hn hT
 obtain⟨p2,rfl⟩:∃ p:Nat,v=.iface 233 (.agg #[.int .i64 (p:Int),.int .i64 (k:Int)]):=by
  cases hT with
  | bytes p n=>exact⟨p,rfl⟩
 obtain⟨POST,hPOST⟩:∃ Q,Hid (Q=YPost (envOf ds) (.leaf c p) w sv rv s E br (bNamed (rdB s (envOf ds) f) s (.bytes k) i n)):=⟨_,rfl⟩
 rw[← hPOST.out]
 unfold bNamed at hPOST
 simp only at hPOST
 clear hT
 have A:Fr w (w.alloc (.cells #[.int .i64 (p2:Int),.int .i64 (k:Int)] 233)) (fun _=>False):=(Fr.refl w _).alloc _
 have M0:=M.new A
 have hC:=hide (yfixed_any (t:=.leaf c p) (pt:=(p2:Int)) M0 hk)
 replace A:=hide A
 clear M0 M
 have a0:=asNothing_no 233 (by decide)
 have a1:=asTruth_no 233 (by decide)
 have a2:=asInt_no 233 (by decide)
 have a3:=asLong_no 233 (by decide)
 have a4:=asText_no 233 (by decide)
 have a5:=asList_no 233 (by decide)
 have a6:=asMap_no 233 (by decide)
 have a7:=asUnion_no 233 (by decide)
 have a8:=asName_no 233 (by decide)
 have a9:=asRecord_no 233 (by decide)
 have a10:=asEnum_no 233 (by decide)
 have a11:=asBytes_yes
 go_enter Tryz.func91,Tryz.ntmps91
 go_wp2_with (go_at_call 133;refine hC.out.mono ?_;intro e w2 hN;obtain⟨v2,ev2,rfl,hN2⟩:=hN;replace hN2:=hide hN2)
 try go_ret
 rw[hPOST.out]
 exact YPost.pre A.out ⟨v2,ev2,rfl,hN2.out⟩
set_option maxHeartbeats 8000000 in
set_option maxRecDepth 100000 in
theorem bdy_name {c:Nat}(hc:isName c=true){b:PB}(hb:envOf ds c=some b) (hR:DefY w0 P ss ds sv rv xs s E br f c p b i n):BodY w0 P ss ds sv rv xs s E br f (.leaf c p) i n:=by
 intro w v M hn hT
 have hcr:65≤c∧c≤70:=by simpa[isName] using hc
 obtain rfl:v=.iface 209 (.agg #[.int .i64 (p:Int),.int .u8 (c:Int)]):=by
  cases hT with
  | base _ _ h=>
   simp only[isBase,Bool.or_eq_true,beq_iff_eq] at h
   omega
  | name _ _ h=>rfl
 have hr:bodB s (envOf ds) f (.leaf c p) i n=bNamed (rdB s (envOf ds) f) s b i n:=by
  unfold bodB
  simp only
  unfold bLeaf
  rw[if_neg (by omega),if_neg (by omega),if_neg (by omega),if_neg (by omega),if_neg (by omega),hb]
 rw[hr]
 obtain⟨RES,hRES⟩:∃ r,r=bNamed (rdB s (envOf ds) f) s b i n:=⟨_,rfl⟩
 rw[← hRES]
 obtain⟨POST,hPOST⟩:∃ Q,Hid (Q=YPost (envOf ds) (.leaf c p) w sv rv s E br RES):=⟨_,rfl⟩
 rw[← hPOST.out]
 have A:Fr w (w.alloc (.cells #[.int .i64 (p:Int),.int .u8 (c:Int)] 209)) (fun _=>False):=(Fr.refl w _).alloc _
 have M0:=M.new A
 have hN0:=Blk.new w #[.int .i64 (p:Int),.int .u8 (c:Int)] 209
 have hbl:=M.lt
 have hcalls:=hide (And.intro M0 (And.intro hN0 A))
 clear hr hT M M0 hN0 A
 have a0:=asNothing_no 209 (by decide)
 have a1:=asTruth_no 209 (by decide)
 have a2:=asInt_no 209 (by decide)
 have a3:=asLong_no 209 (by decide)
 have a4:=asText_no 209 (by decide)
 have a5:=asList_no 209 (by decide)
 have a6:=asMap_no 209 (by decide)
 have a7:=asUnion_no 209 (by decide)
 have a8:=asName_yes
 go_enter Tryz.func91,Tryz.ntmps91
 go_wp2_with fail
 obtain⟨M0,hN0,A⟩:=hcalls.out
 have M1:=M0.still (Still.drew _)
 have u0:=M0.R.c0
 have u1:=M0.R.c1
 have u2:=hN0.cell 1
 simp only[List.getElem?_cons_zero,List.getElem?_cons_succ] at u2
 have hCm:=meaning_any (rv:=rv) c M1.D
 refine wp_regionAll (fun W=>W.cell? ⟨br,0,none⟩=some sv∧W.cell? ⟨br,1,none⟩=some rv∧W.cell? ⟨w.heap.size,1,none⟩=some (.int .u8 (c:Int))) (by kernel_rfl) ?_
 refine wpAllC_take 0 ?v0 rfl (by kernel_rfl) (fun _ _ _ h=>h) (by kernel_rfl) ?y0 ?_
 case y0=>(rintro W ⟨h1,h2,h3⟩;go_simp <;> rfl)
 refine wpAllC_take 1 ?v1 rfl (by kernel_rfl) (fun _ _ _ h=>h) (by kernel_rfl) ?y1 ?_
 case y1=>(rintro W ⟨h1,h2,h3⟩;go_simp <;> rfl)
 refine wpAllC_take 2 ?v2 rfl (by kernel_rfl) (fun _ _ _ h=>h) (by kernel_rfl) ?y2 ?_
 case y2=>(rintro W ⟨h1,h2,h3⟩;go_simp <;> rfl)
 refine wpAllC_take 3 ?v3 rfl (by kernel_rfl) (fun _ _ _ h=>h) (by kernel_rfl) ?y3 ?_
 case y3=>(rintro W ⟨h1,h2,h3⟩;go_simp <;> rfl)
 refine wpAllC_take 4 ?v4 rfl (by kernel_rfl) (fun _ _ _ h=>h) (by kernel_rfl) ?y4 ?_
 case y4=>(rintro W ⟨h1,h2,h3⟩;go_simp <;> rfl)
 refine wpAllC_take 5 ?v5 rfl (by kernel_rfl) (fun _ _ _ h=>h) (by kernel_rfl) ?y5 ?_
 case y5=>(rintro W ⟨h1,h2,h3⟩;go_simp <;> rfl)
 refine wpAllC_take 6 ?v6 rfl (by kernel_rfl) (fun _ _ _ h=>h) (by kernel_rfl) ?y6 ?_
 case y6=>(rintro W ⟨h1,h2,h3⟩;go_simp <;> rfl)
 refine wpAllC_one 7 rfl (by kernel_rfl) ⟨u0,u1,u2⟩ (fun K hK=>?_)
 go_simp
 refine hCm.mono ?_
 rintro e w2 ⟨v2,rfl,hf2,hm2⟩
 refine hK _ _ ?_
 clear hK K
 rw[hb] at hm2
 have M2:=M1.new hf2
 have hCd:=hR w2 v2 M2 hn hm2
 have hN2:=hf2.blk (((Fr.refl _ (fun _=>False)).still (Still.drew (w.alloc (.cells #[.int .i64 (p:Int),.int .u8 (c:Int)] 209)))).blk hN0 id) id
 have x0:=M2.R.c0
 have x1:=M2.R.c1
 have x2:=hN2.cell 1
 simp only[List.getElem?_cons_zero,List.getElem?_cons_succ] at x2
 rw[← hRES] at hCd
 refine wpAllC_one 8 rfl (by kernel_rfl) ⟨x0,x1,x2⟩ (fun K hK=>?_)
 go_simp
 refine hCd.mono ?_
 rintro e w3 ⟨v3,ev3,rfl,hf3,hm3⟩
 refine hK _ _ ?_
 clear hK K
 obtain⟨j3,m3,h3⟩:∃ j m,RwAt w3 br sv rv s j m:=by
  cases RES with
  | error e=>exact⟨_,_,hm3.2.2.choose_spec.choose_spec.1⟩
  | ok q=>exact⟨_,_,hm3.2.2.1⟩
 have y0:=h3.c0
 have y1:=h3.c1
 have y2:=(hf3.blk hN2 (by omega)).cell 1
 simp only[List.getElem?_cons_zero,List.getElem?_cons_succ] at y2
 replace hm3:=hide hm3
 replace hf3:=hide hf3
 replace hf2:=hide hf2
 replace A:=hide A
 clear hCm hCd M0 M1 M2 hN0 hN2 hm2 hcalls u0 u1 u2 x0 x1 x2 h3
 refine wpAllC_take 9 ?v9 rfl (by kernel_rfl) (fun _ _ _ h=>h) (by kernel_rfl) ?y9 ?_
 case y9=>(rintro W ⟨h1,h2,h3⟩;go_simp <;> rfl)
 refine wpAllC_take 10 ?v10 rfl (by kernel_rfl) (fun _ _ _ h=>h) (by kernel_rfl) ?y10 ?_
 case y10=>(rintro W ⟨h1,h2,h3⟩;go_simp <;> rfl)
 refine wpAllC_take 11 ?v11 rfl (by kernel_rfl) (fun _ _ _ h=>h) (by kernel_rfl) ?y11 ?_
 case y11=>(rintro W ⟨h1,h2,h3⟩;go_simp <;> rfl)
 refine wpAllC_take 12 ?v12 rfl (by kernel_rfl) (fun _ _ _ h=>h) (by kernel_rfl) ?y12 ?_
 case y12=>(rintro W ⟨h1,h2,h3⟩;go_simp <;> rfl)
 refine wpAllC_done (by kernel_rfl) ⟨y0,y1,y2⟩ ?_ _
 go_wp2_with fail
 refine bodyPost_ret (v:=.tuple #[v3,ev3]) (by simp[results,Tryz.results91,go_sem]) rfl ?_
 rw[hPOST.out]
 exact YPost.pre (A.out.trans (((Fr.refl _ (fun _=>False)).still (Still.drew _)).trans hf2.out (fun _ _ f=>f)) (fun _ _ f=>f)) ⟨v3,ev3,rfl,hf3.out,hm3.out⟩
end
open Go.RowKit
theorem YPost.pre2 {env:Nat→Option PB}{t:PT}{w w1 w':World}{sv rv:Value}{s:ByteArray}{E:WErr}{br:Nat}{res:Except Nat (DT×Nat×Nat)}{e:Ending}(hf:Fr w w1 (· = br)) (h:YPost env t w1 sv rv s E br res e w'):YPost env t w sv rv s E br res e w':=by
 obtain⟨v,ev,he,hf2,hm⟩:=h
 have hz:=hf.size
 refine⟨v,ev,he,hf.trans hf2 (fun _ _ e=>e),?_⟩
 cases res with
 | error e0=>exact⟨hm.1,hm.2.1.less hz,hm.2.2⟩
 | ok q=>
  obtain⟨d,j,m⟩:=q
  exact⟨hm.1,hm.2.1.mono (fun g _ hg=>by omega),hm.2.2⟩
section
variable {w0:World} {P:Nat→Prop} {ss:ByteArray} {ds:List PD} {sv rv:Value} {xs:List Value} {s:ByteArray} {E:WErr} {br i n:Nat} {f p:Nat} {t:PT}
set_option maxHeartbeats 4000000 in
set_option maxRecDepth 100000 in
theorem daty_of (hR:n<300→BodY w0 P ss ds sv rv xs s E br f t i (n+1)):DatY w0 P ss ds sv rv xs s E br (f+1) t i n:=by
 intro w v M hn hT
 obtain⟨POST,hPOST⟩:∃ Q,Hid (Q=YPost (envOf ds) t w sv rv s E br (rdB s (envOf ds) (f+1) t i n)):=⟨_,rfl⟩
 rw[← hPOST.out]
 rw[rdB_body] at hPOST
 have c4:=M.R.c4
 have f4:=M.R.thaw 4
 obtain⟨vT,vx,rfl⟩:=hT.iface
 by_cases h3:n=300
 ·subst h3
  rw[if_pos (Nat.le_refl _)] at hPOST
  have hB:=M.big
  have hM:=hide M
  clear M hT hR
  go_enter Tryz.func66,Tryz.ntmps66
  go_wp2_with fail
  go_quiet (fail)
  go_wp2_with fail
  try go_ret
  rw[hPOST.out]
  exact⟨_,_,rfl,(Fr.refl w _).still (Still.drewN _ _),rfl,.base,i,300,hM.out.R.still (Still.drewN _ _),hM.out.il⟩
 ·rw[if_neg (by omega)] at hPOST
  have hne:((n:Int)==300)=false:=by simp;omega
  have F1:Fr w (w.setCell ⟨br,4,none⟩ (.int .i64 ((n:Int)+1))) (· = br):=(Fr.refl w (· = br)).setCell _ _ (fun _=>rfl)
  have M1:=M.call M.R.node F1 M.il
  have hC:=hide (hR (by omega) _ _ M1 (by omega) (hT.fr F1 (fun g hg e=>M.brP (e▸hg))))
  replace F1:=hide F1
  have hn2:(n:Int)≤300:=by omega
  clear M M1 hT hR
  go_enter Tryz.func66,Tryz.ntmps66
  go_wp2_with (go_at_call 91;refine hC.out.mono ?_;intro e w2 hN;obtain⟨v2,ev2,rfl,hN2⟩:=hN;replace hN2:=hide hN2)
  try go_ret
  rw[hPOST.out]
  exact YPost.pre2 F1.out ⟨v2,ev2,rfl,hN2.out⟩
theorem y_all (hE:goodEnv ds) (hW:fewE (envOf ds)) (hI:ItoaOK w0) (hQ:QuoteOK w0):∀ (f:Nat) (t:PT) (i n:Nat),okT (envOf ds) t→fewT t→n≤300→301≤f+n→DatY w0 P ss ds sv rv xs s E br f t i n:=by
 intro f
 induction f with
 | zero=>intro t i n _ _ h1 h2;omega
 | succ f ih=>
  intro t i n ht hw hn hm
  refine daty_of (fun hn3=>?_)
  have next:∀ u,okT (envOf ds) u→fewT u→∀ j nn,n+1≤nn→nn≤300→j≤s.size→DatY w0 P ss ds sv rv xs s E br f u j nn:=fun u hu hv j nn h1 h2 h3=>ih u j nn hu hv h2 (by omega)
  cases t with
  | leaf c p=>
   unfold okT at ht
   rcases ht with hb|⟨hnm,pb,he⟩
   ·simp only[isBase,Bool.or_eq_true,beq_iff_eq] at hb
    rcases hb with(((rfl|rfl)|rfl)|rfl)|rfl
    ·exact bdy_110
    ·exact bdy_116
    ·exact bdy_105
    ·exact bdy_108
    ·exact bdy_115
   ·obtain⟨g1,g2⟩:=hE c pb he
    refine bdy_name hnm he ?_
    cases pb with
    | recd fs=>exact def_recd he g1.2.1 g1.1 (fun g hg=>next g.ty (g2 g hg) ((hW c fs he).2 g hg))
    | enum l o=>exact def_enum he g1.2.1 g1.1
    | bytes k=>exact def_bytes g2
  | wrap c p t=>
   unfold okT at ht
   unfold fewT at hw
   rcases ht.1 with rfl|rfl
   ·exact bdy_91 hI (next t ht.2 hw)
   ·exact bdy_123 hQ (next t ht.2 hw)
  | alts p l=>
   unfold okT at ht
   unfold fewT at hw
   exact bdy_40 hI (by have:=hw.1;omega) (fun t h j hj=>next t (okTs_at ht.2 t h).2 (fewTs_at hw.2 t h) j (n+1) (Nat.le_refl _) (by omega) hj)
end
def WrPost (env:Nat→Option PB) (t:PT) (w:World) (E:WErr) (res:Except Nat (DT×Nat×Nat)) (e:Ending) (w':World):Prop:=
 ∃ (v:Value) (k:Nat) (ev:Value),e=.returned (.tuple #[v,.int .i64 (k:Int),ev])∧Fr w w' (fun _=>False)∧
 match res with
 | .ok (d,j,_)=>ev=.nilIface∧k=j∧DaV env w' (fun g=>w.heap.size≤g) d t v
 | .error e0=>v=.nilIface∧k=0∧ErrD w' w.heap.size (E.t e0) (E.x e0) ev
set_option maxHeartbeats 4000000 in
set_option maxRecDepth 100000 in
theorem wread_long {w:World}{sa:Option Addr}{sn sc:Nat}{rT:TypeId}{rx:Value}{s:ByteArray}{lt:TypeId}{lx:Value}(hE:ErrV 9 w lt lx) (hs:4000<s.size) :
 Calls Tryz.prog 36 #[.agg #[.slice sa sn sc,.iface rT rx],.string s] w fun e w'=>e=.returned (.tuple #[.nilIface,.int .i64 0,.iface lt lx])∧Fr w w' (fun _=>False):=by
 obtain⟨POST,hPOST⟩:∃ Q,Hid (Q=fun (e:Ending) (w':World)=>e=.returned (.tuple #[.nilIface,.int .i64 0,.iface lt lx])∧Fr w w' (fun _=>False)):=⟨_,rfl⟩
 rw[← hPOST.out]
 have A:Fr w (w.alloc (.cells #[.slice sa sn sc,.iface rT rx] 85)) (fun _=>False):=(Fr.refl w _).alloc _
 have he:=hE.fr A (fun f=>f)
 unfold ErrV at he
 have hs2:(4000:Int)<(s.size:Int):=by omega
 replace A:=hide A
 clear hE
 go_enter Tryz.func36,Tryz.ntmps36
 go_wp2_with fail
 go_quiet (fail)
 go_wp2_with fail
 refine bodyPost_ret (v:=.tuple #[.nilIface,.int .i64 0,.iface lt lx]) (by simp[results,Tryz.results36,go_sem]) rfl ?_
 rw[hPOST.out]
 exact⟨rfl,A.out.still (Still.drewN _ _)⟩
set_option maxHeartbeats 4000000 in
set_option maxRecDepth 100000 in
theorem wread_any {w0 w:World}{P:Nat→Prop}{ss:ByteArray}{ds:List PD}{sv:Value}{rT:TypeId}{rx:Value}{xs:List Value}{s:ByteArray}{E:WErr}{t:PT}(D:DRow w P ss ds sv xs) (hT:TyV w P t (.iface rT rx)) (hG:SameG w0 w) (hk:w0.heap.size≤w.heap.size) (hPw:∀ g,P g→g<w.heap.size) (E1:ErrV 4 w0 E.dt E.dx) (E2:ErrV 5 w0 E.bt E.bx) (hs:s.size≤4000) (hok:okT (envOf ds) t) (hfw:fewT t) (hen:goodEnv ds) (hW:fewE (envOf ds)) (hI:ItoaOK w0) (hQ:QuoteOK w0) :
 Calls Tryz.prog 36 #[.agg #[sv,.iface rT rx],.string s] w (WrPost (envOf ds) t w E (rdB s (envOf ds) 301 t 0 0)):=by
 obtain⟨POST,hPOST⟩:∃ Q,Hid (Q=WrPost (envOf ds) t w E (rdB s (envOf ds) 301 t 0 0)):=⟨_,rfl⟩
 rw[← hPOST.out]
 obtain⟨sa,sc,rfl⟩:=own_sl D.row
 have A:Fr w ((w.alloc (.cells #[.slice sa ds.length sc,.iface rT rx] 85)).alloc (.cells #[.slice sa ds.length sc,.iface rT rx,.string s,.int .i64 0,.int .i64 0] 126)) (fun _=>False):=((Fr.refl w _).alloc _).alloc _
 have z1:(w.alloc (.cells #[.slice sa ds.length sc,.iface rT rx] 85)).heap.size=w.heap.size+1:=by simp
 have hR0:=Blk.new (w.alloc (.cells #[.slice sa ds.length sc,.iface rT rx] 85)) #[.slice sa ds.length sc,.iface rT rx,.string s,.int .i64 0,.int .i64 0] 126
 rw[z1] at hR0
 have M0:YC w0 P ss ds (.slice sa ds.length sc) (.iface rT rx) xs s E (w.heap.size+1) 0 0 ((w.alloc (.cells #[.slice sa ds.length sc,.iface rT rx] 85)).alloc (.cells #[.slice sa ds.length sc,.iface rT rx,.string s,.int .i64 0,.int .i64 0] 126)):=
  ⟨hR0,D.fr A (fun _ _ f=>f),hG.fr A hk (fun g f=>f.elim),E1,E2,fun g hg=>by have:=hPw g hg;omega,by omega,by omega,Nat.zero_le _⟩
 have hC:=y_all hen hW hI hQ 301 t 0 0 hok hfw (by omega) (by omega) _ _ M0 (by omega) (hT.fr A (fun _ _ f=>f))
 have hs2:¬ (4000:Int)<(s.size:Int):=by omega
 have hz:((w.alloc (.cells #[.slice sa ds.length sc,.iface rT rx] 85)).alloc (.cells #[.slice sa ds.length sc,.iface rT rx,.string s,.int .i64 0,.int .i64 0] 126)).heap.size=w.heap.size+2:=by simp
 replace hz:=hide hz
 replace A:=hide A
 clear M0 hR0 z1 D hT hG
 cases hrd:rdB s (envOf ds) 301 t 0 0 with
 | error e0=>
  rw[hrd] at hC hPOST
  replace hC:=hide hC
  replace hrd:=hide hrd
  go_enter Tryz.func36,Tryz.ntmps36
  go_wp2_with (go_at_call 66;refine hC.out.mono ?_;rintro e w1 ⟨v1,ev1,rfl,hf1,hv1,hE1,hR1⟩;subst hv1;obtain⟨eT,ex,rfl⟩:=hE1.iface;replace hf1:=hide hf1;replace hE1:=hide hE1;replace hR1:=hide hR1)
  refine bodyPost_ret (v:=.tuple #[.nilIface,.int .i64 0,.iface eT ex]) (by simp[results,Tryz.results36,go_sem]) rfl ?_
  rw[hPOST.out]
  exact⟨_,0,_,rfl,A.out.trans hf1.out (fun g hg e=>by omega),rfl,rfl,hE1.out.less (by have:=hz.out;omega)⟩
 | ok q=>
  obtain⟨d,j,m⟩:=q
  rw[hrd] at hC hPOST
  replace hC:=hide hC
  replace hrd:=hide hrd
  go_enter Tryz.func36,Tryz.ntmps36
  go_wp2_with (go_at_call 66;refine hC.out.mono ?_;rintro e w1 ⟨v1,ev1,rfl,hf1,hv1,hD1,hR1,hj1⟩;subst hv1;obtain⟨dT,dx,rfl⟩:=hD1.iface;have c3:=hR1.c3;replace hf1:=hide hf1;replace hD1:=hide hD1;replace hR1:=hide hR1)
  go_quiet (fail)
  go_wp2_with fail
  refine bodyPost_ret (v:=.tuple #[.iface dT dx,.int .i64 (j:Int),.nilIface]) (by simp[results,Tryz.results36,go_sem]) rfl ?_
  rw[hPOST.out]
  exact⟨_,j,_,rfl,(A.out.trans hf1.out (fun g hg e=>by omega)).still (Still.drewN _ _),rfl,rfl,(hD1.out.mono (fun g _ hg=>by have:=hz.out;omega)).fr ((Fr.refl _ (fun _=>False)).still (Still.drewN _ _)) (fun _ _ f=>f)⟩
end Go.Proofs.YtiifagiebikmdaaGreatDoor
