import Derived.Test.YtiifagiebikmdaaGreatDoorAG23
namespace Go.Proofs.YtiifagiebikmdaaGreatDoor
open Go.RowKit
theorem bad_drop {fs:List PF}{q:Nat}{f:PF}(h:fs[q]?=some f):(fs.drop q).flatMap (fun f=>badT f.ty)=badT f.ty++(fs.drop (q+1)).flatMap (fun f=>badT f.ty):=by
 have hl:=(List.getElem?_eq_some_iff.1 h).1
 rw[List.drop_eq_getElem_cons hl,List.flatMap_cons,(List.getElem?_eq_some_iff.1 h).2]
set_option maxHeartbeats 8000000 in
set_option maxRecDepth 100000 in
theorem pcheckUnions_any {w:World}{P:Nat→Prop}{s:ByteArray}{ds:List PD}{t:PT}{sv rv:Value}{xs:List Value}{et:TypeId}{ex:Value}(D:DRow w P s ds sv xs) (hT:TyV w P t rv) (hE:ErrV 2 w et ex) (hlf:(fieldsOf ds).length≤300) (hok:∀ f∈fieldsOf ds,fewB f.ty∧shT f.ty) (hokt:fewB t∧shT t) (hPw:∀ g,P g→g<w.heap.size) :
 Calls Tryz.prog 52 #[.agg #[sv,rv]] w (ChkPost w (.iface et ex) (unionF ds t)):=by
 obtain⟨POST,hPOST⟩:∃ Q,Hid (Q=ChkPost w (.iface et ex) (unionF ds t)):=⟨_,rfl⟩
 rw[← hPOST.out]
 obtain⟨sa,sc,rfl⟩:=own_sl D.row
 obtain⟨rT,rx,rfl⟩:=hT.iface
 have hf0:Fr w (w.alloc (.cells #[.slice sa ds.length sc,.iface rT rx] 85)) (fun _=>False):=(Fr.refl w _).alloc _
 have hS0:=Blk.new w #[.slice sa ds.length sc,.iface rT rx] 85
 have hC0:=hide (pFields_any (rv:=.iface rT rx) (D.fr hf0 (fun _ _ f=>f)) hlf (fun g hg=>Nat.lt_of_lt_of_le (hPw g hg) hf0.size))
 have hT0:=hide (hT.fr hf0 (fun _ _ f=>f))
 have hE0:=hide (hE.fr hf0 id)
 replace hS0:=hide hS0
 replace hf0:=hide hf0
 clear D hE hT hPw
 go_enter Tryz.func52,Tryz.ntmps52
 go_wp2_with (go_at_call 80;refine hC0.out.mono ?_;rintro e w1 ⟨fv,ys,rfl,hf1,hF⟩;obtain⟨fa,fc,rfl⟩:=own_sl hF.row;replace hf1:=hide hf1;replace hF:=hide hF)
 have start:Hid (∃ q:Nat,Value.int .i64 0=.int .i64 (q:Int)∧q≤(fieldsOf ds).length∧(fieldsOf ds).length+1-q≤(fieldsOf ds).length+1∧Fr w1 w1 (fun _=>False)∧unionF ds t=((fieldsOf ds).drop q).flatMap (fun f=>badT f.ty)++badT t):=hide ⟨0,rfl,Nat.zero_le _,by omega,Fr.refl _ _,rfl⟩
 go_loopg [9] ((fieldsOf ds).length+1) (fun m v W=>∃ q:Nat,v=.int .i64 (q:Int)∧q≤(fieldsOf ds).length∧(fieldsOf ds).length+1-q≤m∧Fr w1 W (fun _=>False)∧unionF ds t=((fieldsOf ds).drop q).flatMap (fun f=>badT f.ty)++badT t)
 case atStart=>exact start.out
 case round=>
  clear start hC0
  obtain⟨q,rfl,hq,hm,hf,he⟩:=hrel
  by_cases hlt:q<(fieldsOf ds).length
  ·have hlt':(q:Int)<((fieldsOf ds).length:Int):=by omega
   have hd:(fieldsOf ds)[q]?=some (fieldsOf ds)[q]:=List.getElem?_eq_getElem hlt
   have hmem:(fieldsOf ds)[q]∈fieldsOf ds:=List.getElem_mem hlt
   generalize (fieldsOf ds)[q]=f at hd hmem
   obtain⟨g,cap,hgc⟩:=own_form hF.out.row (by omega)
   cases hgc
   obtain⟨T,x,d,c0,c1,c2,c3,hT,hDf⟩:=(hF.out.fr hf (fun _ _ f=>f)).cells hd
   rw[bad_drop hd] at he
   obtain⟨l,hl0⟩:∃ l,f.letter=l:=⟨_,rfl⟩
   obtain⟨pl,hpl⟩:∃ p,f.place=p:=⟨_,rfl⟩
   rw[hl0] at c1
   rw[hpl] at c0
   have A1:=(Fr.refl wr (fun _=>False)).alloc (.cells #[.int .i64 (pl:Int),.int .u8 (l:Int),.iface T x,.pointer d] 149)
   have hC:=hide (bran_ok _ f.ty (Nat.le_refl _) (hok f hmem).1 (hok f hmem).2 _ _ _ et ex (hT.fr A1 (fun _ _ f=>f)) (((hE0.out.fr hf1.out id).fr hf id).fr A1 id))
   have hf':=hide (hf.trans A1 (fun _ _ f=>f))
   clear A1 hT hDf hf hl0 hpl
   cases hu:badT f.ty with
   | nil=>
    rw[hu,List.nil_append] at he
    replace he:=hide he
    replace hu:=hide hu
    go_wp2_with (go_at_call 81;refine hC.out.mono ?_;rintro e w3 ⟨v3,rfl,hf3,hm3⟩;rw[hu.out] at hm3;replace hm3:v3=.nilIface:=hm3;subst hm3;replace hf3:=hide hf3)
    go_roundg ((fieldsOf ds).length+1-(q+1))
    case measure=>omega
    case rel=>exact⟨q+1,rfl,hlt,Nat.le_refl _,hf'.out.trans hf3.out (fun _ _ f=>f),he.out⟩
   | cons y r=>
    rw[hu,List.cons_append,List.cons_append] at he
    replace he:=hide he
    replace hu:=hide hu
    go_wp2_with (go_at_call 81;refine hC.out.mono ?_;rintro e w3 ⟨v3,rfl,hf3,hm3⟩;rw[hu.out] at hm3;obtain⟨g3,hg1,rfl,hg2⟩:=hm3;replace hf3:=hide hf3;replace hg2:=hide hg2)
    try go_ret
    rw[hPOST.out]
    have hF2:=(hf0.out.trans hf1.out (fun _ _ f=>f)).trans hf'.out (fun _ _ f=>f)
    have hs2:=hF2.size
    refine⟨_,rfl,hF2.trans hf3.out (fun _ _ f=>f),?_⟩
    rw[he.out]
    exact⟨g3,by omega,rfl,hg2.out⟩
  ·have hlt':¬ ((q:Int)<((fieldsOf ds).length:Int)):=by omega
   rw[List.drop_eq_nil_of_le (by omega),List.flatMap_nil,List.nil_append] at he
   have hS:=hf.blk (hf1.out.blk hS0.out id) id
   have s1:=hS.cell 1
   simp only[List.getElem?_cons_zero,List.getElem?_cons_succ] at s1
   have hC:=hide (bran_ok _ t (Nat.le_refl _) hokt.1 hokt.2 wr P (.iface rT rx) et ex ((hT0.out.fr hf1.out (fun _ _ f=>f)).fr hf (fun _ _ f=>f)) ((hE0.out.fr hf1.out id).fr hf id))
   replace he:=hide he
   replace hf:=hide hf
   clear hS
   go_wp2_with (go_at_call 81;refine hC.out.mono ?_;rintro e w3 ⟨v3,rfl,hf3,hm3⟩;replace hf3:=hide hf3;replace hm3:=hide hm3)
   try go_ret
   rw[hPOST.out]
   have hF2:=(hf0.out.trans hf1.out (fun _ _ f=>f)).trans hf.out (fun _ _ f=>f)
   have hs2:=hF2.size
   refine⟨v3,rfl,hF2.trans hf3.out (fun _ _ f=>f),?_⟩
   rw[he.out]
   have hm':=hm3.out
   cases hu:badT t with
   | nil=>rw[hu] at hm';exact hm'
   | cons y r=>rw[hu] at hm';exact hm'.less hs2
end Go.Proofs.YtiifagiebikmdaaGreatDoor
