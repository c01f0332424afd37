import Derived.Test.YtiifagiebikmdaaGreatDoorW04
import Derived.Test.YtiifagiebikmdaaGreatDoorW00
import Derived.Test.YtiifagiebikmdaaGreatDoorA00
set_option maxHeartbeats 16000000
set_option maxRecDepth 100000
set_option linter.unusedSimpArgs false
open Go.Proofs.Tryz
namespace Go.Proofs.YtiifagiebikmdaaGreatDoor
open Go.RowKit
variable {bad:Bool}{wg o so MX:Int}{sb:BA}{fv tv' u':Value}{cnt j':Nat}{xs:List Value}{TS:List TR}{US:List (Nat×Nat)}{Y:Nat->Prop}
def PB.wr:PB->Int->Int
 | .recd ds,m=>wrF [] ds m
 | .enum l o,m=>wrE l o m
 | .bytes _,m=>m
def PB.mx:PB->Int->Int
 | .recd ds,m=>mixF ds m
 | .enum _ _,m=>m
 | .bytes _,m=>m
def PB.ts (b:Nat):PB->List TR
 | .recd ds=>yl_ b (ds.map PF.ty)
 | .enum _ _=>[]
 | .bytes _=>[]
def PB.us:PB->List (Nat×Nat)
 | .recd ds=>zs_ (ds.map PF.ty)
 | .enum _ _=>[]
 | .bytes _=>[]
def vz_ (so:Int) (fv:Value) (sb:BA) (o n:Int):List Value:=[.int .u8 so,fv,.string sb,.int .i64 o,.int .i64 n]
def zpy (s:BA) (b:Nat) (pb:PB) (so:Int) (cnt:Nat) (xs:List Value) (sb:BA) (o n:Int):Prop:=
 match pb with
 | .recd ds=>so=114/\cnt=ds.length/\xs=y3_ s b ds/\o = -1/\n=0
 | .enum l unk=>so=101/\cnt=0/\sb.data.toList.map UInt8.toNat=l.map Prod.fst/\o=(match unk with|none=>-1|some (c,_)=>plc sb c)/\n=0
 | .bytes k=>so=102/\cnt=0/\o = -1/\n=(k:Int)
def zde (w:World) (X:Nat->Prop) (br bz B:Nat) (s:BA) (i:Nat) (wr mx:Int) (ts:List TR) (us:List (Nat×Nat)) (zs:List Value) (tv u:Value) (e:Ending) (w':World):Prop:=
 ∃ so fv sb o n cnt xs tv' u',e=.returned (.agg (vz_ so fv sb o n).toArray)/\Step w w' br bz tv u tv' u'/\w'.ownsRow B 80 10 fv cnt xs/\(∀ g,fv.ownBlock=some g->w.heap.size<=g/\tv'.ownBlock≠some g/\u'.ownBlock≠some g)/\
 match vd_ s i with
 | .ok (pb,j)=>zpy s ts.length pb so cnt xs sb o n/\Rep w' (λ g=>X g\/fv.ownBlock=some g) br bz B s j false (pb.wr wr) (pb.mx mx) (ts++pb.ts ts.length) (us++pb.us) zs tv' u'
 | .error k=>∃ wr' mx' ts' us',Rep w' (λ g=>X g\/fv.ownBlock=some g) br bz B s k true wr' mx' ts' us' zs tv' u'
theorem zjw {s:BA}{i:Nat}(h:bt s i=114):vd_ s i=match ys_ s (i+1) with | .error k=>.error k | .ok (ds,j)=>.ok (.recd ds,j):=by
 unfold vd_;rw[if_pos h];rfl
theorem zg3 {s:BA}{i:Nat}(h:bt s i=101):vd_ s i=match vc_ s (i+1) with | .error k=>.error k | .ok ((l,o),j)=>.ok (.enum l o,j):=by
 unfold vd_;rw[if_neg (by omega),if_pos h];rfl
theorem zcb {s:BA}{i:Nat}(h:bt s i=102):vd_ s i=if 48<=bt s (i+1)/\bt s (i+1)<=57 then .ok (.bytes (bt s (i+1)-48),i+2) else .error (i+1):=by
 unfold vd_;rw[if_neg (by omega),if_neg (by omega),if_pos h]
theorem zjx {s:BA}{i:Nat}(h1:bt s i≠114) (a:bt s i≠101) (b:bt s i≠102):vd_ s i=.error i:=by
 unfold vd_;rw[if_neg h1,if_neg a,if_neg b]
section
variable {w W W':World} {X:Nat->Prop} {br bz B:Nat} {s:BA} {i:Nat} {wr mx:Int} {ts:List TR} {us:List (Nat×Nat)} {zs:List Value} {tv u:Value}
theorem zdv (R:Rep w X br bz B s i false wr mx ts us zs tv u){n:Int}{j:Nat}
 (d:Rep W (λ g=>X g\/g=w.heap.size) br bz B s j bad wr mx ts us zs tv u) (st:Step w W br bz tv u tv u) (a:Fr W W' (λ g=>g=w.heap.size))
 (h:(bad=true/\vd_ s i=.error j)\/(∃ k,bad=false/\vd_ s i=.ok (.bytes k,j)/\so=102/\o = -1/\n=(k:Int))) :
 zde w X br bz B s i wr mx ts us zs tv u (.returned (.agg (vz_ so (.slice none 0 0) sb o n).toArray)) W':=by
 have _:=R.il
 have b:=(d.o (a.mono (λ _ _ e=>.inr e))).fewer (Y:=λ g=>X g\/(Value.slice none 0 0).ownBlock=some g) (λ g hg=>by
  rcases hg with e|e
  ·exact .inl (.inl e)
  ·simp[Value.ownBlock] at e)
 refine⟨so,_,sb,o,n,0,[],tv,u,rfl,st.o a (λ g hg=>by omega),World.ownsRow_nil _ _ _ _,λ g hg=>by simp[Value.ownBlock] at hg,?_⟩
 rcases h with⟨rfl,h⟩|⟨k,rfl,h,rfl,rfl,rfl⟩
 ·rw[h];exact⟨_,_,_,_,b⟩
 ·rw[h];refine⟨⟨rfl,rfl,rfl,rfl⟩,?_⟩
  simpa[PB.wr,PB.mx,PB.ts,PB.us] using b
theorem zuq {w1:World}(y:w.heap.size<w1.heap.size) (t:bt s i=114) (x:Step w w1 br bz tv u tv u) (st:Step w1 W br bz tv u tv' u') (own:W.ownsRow B 80 10 fv cnt xs)
 (av:∀ g,fv.ownBlock=some g->w1.heap.size<=g/\tv'.ownBlock≠some g/\u'.ownBlock≠some g) (m:Fr W W' (λ g=>g=w.heap.size))
 (b:match ys_ s (i+1) with
  | .ok (ds,j)=>cnt=ds.length/\xs=y3_ s ts.length ds/\Rep W (λ g=>(X g\/g=w.heap.size)\/fv.ownBlock=some g) br bz B s j false (wrF [] ds wr) (mixF ds mx) (ts++yl_ ts.length (ds.map PF.ty)) (us++zs_ (ds.map PF.ty)) zs tv' u'
  | .error k=>∃ l d f h,Rep W (λ g=>(X g\/g=w.heap.size)\/fv.ownBlock=some g) br bz B s k true l d f h zs tv' u') :
 zde w X br bz B s i wr mx ts us zs tv u (.returned (.agg (vz_ 114 fv ⟨#[]⟩ (-1) 0).toArray)) W':=by
 refine⟨114,fv,_,-1,0,cnt,xs,tv',u',rfl,(x.trans st).o m (λ g hg=>by omega),za_ own m (λ g hg e=>by have:=(av g hg).1;omega),λ g hg=>⟨by have:=(av g hg).1;omega,(av g hg).2⟩,?_⟩;rw[zjw t]
 have p:∀ {j:Nat} {bad:Bool} {l d:Int} {f:List TR} {h:List (Nat×Nat)},Rep W (λ g=>(X g\/g=w.heap.size)\/fv.ownBlock=some g) br bz B s j bad l d f h zs tv' u'->Rep W' (λ g=>X g\/fv.ownBlock=some g) br bz B s j bad l d f h zs tv' u':=λ a=>
  (a.o (m.mono (λ _ _ e=>.inl (.inr e)))).fewer (λ g hg=>by
   rcases hg with e|e
   ·exact .inl (.inl (.inl e))
   ·exact .inl (.inr e))
 cases r:ys_ s (i+1) with
 | error k=>
  rw[r] at b;obtain⟨_,_,_,_,a⟩:=b;exact⟨_,_,_,_,p a⟩
 | ok q=>
  obtain⟨ds,j⟩:=q;rw[r] at b;obtain⟨h1,v,a⟩:=b;exact⟨⟨rfl,h1,v,rfl,rfl⟩,p a⟩
theorem zsb {w1:World}(r:bt s i=101) (v:Step w w1 br bz tv u tv u) (st:Step w1 W br bz tv u tv u) (h:Fr W W' (λ g=>g=w.heap.size))
 (b:match vc_ s (i+1) with
  | .ok ((l,f),j)=>sb.data.toList.map UInt8.toNat=l.map Prod.fst/\o=(match f with|none=>-1|some (c,_)=>plc sb c)/\Rep W (λ g=>X g\/g=w.heap.size) br bz B s j false (wrE l f wr) mx ts us zs tv u
  | .error k=>∃ d,Rep W (λ g=>X g\/g=w.heap.size) br bz B s k true d mx ts us zs tv u) :
 zde w X br bz B s i wr mx ts us zs tv u (.returned (.agg (vz_ 101 (.slice none 0 0) sb o 0).toArray)) W':=by
 refine⟨101,_,sb,o,0,0,[],tv,u,rfl,(v.trans st).o h (λ g hg=>by omega),World.ownsRow_nil _ _ _ _,λ g hg=>by simp[Value.ownBlock] at hg,?_⟩;rw[zg3 r]
 have m:∀ {j:Nat} {bad:Bool} {d:Int},Rep W (λ g=>X g\/g=w.heap.size) br bz B s j bad d mx ts us zs tv u->Rep W' (λ g=>X g\/(Value.slice none 0 0).ownBlock=some g) br bz B s j bad d mx ts us zs tv u:=λ a=>
  (a.o (h.mono (λ _ _ e=>.inr e))).fewer (λ g hg=>by
   rcases hg with e|e
   ·exact .inl (.inl e)
   ·simp[Value.ownBlock] at e)
 cases p:vc_ s (i+1) with
 | error k=>
  rw[p] at b;obtain⟨_,a⟩:=b;exact⟨_,_,_,_,m a⟩
 | ok q=>
  obtain⟨⟨l,f⟩,j⟩:=q;rw[p] at b;obtain⟨h1,t,a⟩:=b;refine⟨⟨rfl,rfl,h1,t,rfl⟩,?_⟩
  simpa[PB.wr,PB.mx,PB.ts,PB.us] using m a
end
theorem zgw {w:World}{X:Nat->Prop}{br bz B:Nat}{s:BA}{i:Nat}{mx:Int}{ts:List TR}{us:List (Nat×Nat)}{zs:List Value}{tv u:Value}(R:Rep w X br bz B s i false wg mx ts us zs tv u) :
 Calls prog 41 #[.pointer (some ⟨br,0,none⟩)] w (zde w X br bz B s i wg mx ts us zs tv u):=by
 have b9:=R.sl;have b8:=R.il
 have q:Rep (w.alloc (.cells yb_.toArray 44)) (λ g=>X g\/g=w.heap.size) br bz B s i false wg mx ts us zs tv u:=(R.o ((Fr.refl w X).alloc (.cells yb_.toArray 44))).fewer (λ g hg=>by
  rcases hg with e|e
  ·exact .inl e
  ·exact .inr (by simp;omega))
 have O:=q_ (⟨(Fr.refl w _).alloc _,.inl rfl,.inl rfl⟩:Step w (w.alloc (.cells yb_.toArray 44)) br bz tv u tv u);have b1:=q_ (Blk.new w yb_.toArray 44);replace q:=q_ q;obtain⟨c,hc⟩:∃ c,bt s i=c:=⟨_,rfl⟩;replace hc:=q_ hc;obtain⟨b7,J⟩:∃ P,H_ (P=zde w X br bz B s i wg mx ts us zs tv u):=⟨_,rfl⟩;rw[<- J.o]
 by_cases a4:c=114
 ·have hb:=q_ (hc.o.trans a4);have m:i<s.size:=zj_ (by rw[hb.o];decide);subst a4
  go_in
  go_wp2_with (first
   |(go_at_call 39;refine(z3_ q.o hc.o).mono ?_;rintro e K ⟨rfl,l⟩;have a:=q.o.still l;have r:=q_ ((O.o.still l));have p:=q_ (Blk.still b1.o l);have c1:=a.here.c1;have T:=a.here.thaw 1;have f2:=a.here.thaw 2;have c2:=a.here.c2;skip;replace a:=q_ a)
   |(go_at_call 68;refine(zoc (a.o.inc m).1).mono ?_;rintro e Q ⟨fv,cnt,xs,tv',u',rfl,F,a0,a1,H⟩;simp only[x6_];have b:=F.fr.blk ((a.o.inc m).2.fr.blk p.o (a.o.offS (.inr rfl))) ((a.o.inc m).1.offS (.inr rfl));have r0:=b.cell 0;have r1:=b.cell 1;have C:=b.cell 2;have D:=b.cell 3;have E:=b.cell 4;obtain⟨U,V,Z,g3,g4⟩:=b.t5;simp only[yb_,aa_,ab_] at r0 r1 C D E;obtain⟨sa,sn,sc,rfl⟩:=zn_ a0;replace b:=q_ b;replace F:=q_ F;replace a0:=q_ a0;replace a1:=q_ a1;replace H:=q_ H))
  have L:=Blk.five b.o (.int .u8 114) (.slice sa sn sc) (.string ⟨#[]⟩) (.int .i64 (-1)) (.int .i64 0);obtain⟨x,y,z,q3,A⟩:=L.d5;have t:=Fr.five Q w.heap.size (.int .u8 114) (.slice sa sn sc) (.string ⟨#[]⟩) (.int .i64 (-1)) (.int .i64 0);generalize (((((World.setCell Q ⟨w.heap.size,0,none⟩ (.int .u8 114)).setCell ⟨w.heap.size,1,none⟩ (.slice sa sn sc)).setCell ⟨w.heap.size,2,none⟩ (.string ⟨#[]⟩)).setCell ⟨w.heap.size,3,none⟩ (.int .i64 (-1))).setCell ⟨w.heap.size,4,none⟩ (.int .i64 0))=W5 at *;refine bodyPost_ret (v:=.agg (vz_ 114 (.slice sa sn sc) ⟨#[]⟩ (-1) 0).toArray) (by simp[results,results41,go_sem,x,y,z,q3,A,vz_]) rfl ?_;rw[J.o];exact zuq (by have:=Blk.lt p.o;simp[World.setCell];omega) hb.o (r.o.trans (a.o.inc m).2) F.o a0.o a1.o t H.o
 ·by_cases a2:c=101
  ·have hb:=q_ (hc.o.trans a2);have m:i<s.size:=zj_ (by rw[hb.o];decide);subst a2
   go_in
   go_wp2_with (first
    |(go_at_call 39;refine(z3_ q.o hc.o).mono ?_;rintro e K ⟨rfl,l⟩;have a:=q.o.still l;have r:=q_ ((O.o.still l));have p:=q_ (Blk.still b1.o l);have c1:=a.here.c1;have T:=a.here.thaw 1;have f2:=a.here.thaw 2;have c2:=a.here.c2;skip;replace a:=q_ a)
    |(go_at_call 69;refine(zll (a.o.inc m).1).mono ?_;rintro e Q ⟨sb,o,rfl,F,H⟩;simp only[zt_];have b:=F.fr.blk ((a.o.inc m).2.fr.blk p.o (a.o.offS (.inr rfl))) ((a.o.inc m).1.offS (.inr rfl));have r0:=b.cell 0;have r1:=b.cell 1;have C:=b.cell 2;have D:=b.cell 3;have E:=b.cell 4;obtain⟨U,V,Z,g3,g4⟩:=b.t5;simp only[yb_,aa_,ab_] at r0 r1 C D E;replace b:=q_ b;replace F:=q_ F;replace H:=q_ H))
   have L:=Blk.five b.o (.int .u8 101) (.slice none 0 0) (.string sb) (.int .i64 o) (.int .i64 0);obtain⟨x,y,z,q3,A⟩:=L.d5;have t:=Fr.five Q w.heap.size (.int .u8 101) (.slice none 0 0) (.string sb) (.int .i64 o) (.int .i64 0);generalize (((((World.setCell Q ⟨w.heap.size,0,none⟩ (.int .u8 101)).setCell ⟨w.heap.size,1,none⟩ (.slice none 0 0)).setCell ⟨w.heap.size,2,none⟩ (.string sb)).setCell ⟨w.heap.size,3,none⟩ (.int .i64 o)).setCell ⟨w.heap.size,4,none⟩ (.int .i64 0))=W5 at *;refine bodyPost_ret (v:=.agg (vz_ 101 (.slice none 0 0) sb o 0).toArray) (by simp[results,results41,go_sem,x,y,z,q3,A,vz_]) rfl ?_;rw[J.o];exact zsb hb.o (r.o.trans (a.o.inc m).2) F.o t H.o
  ·by_cases a3:c=102
   ·have hb:=q_ (hc.o.trans a3);have m:i<s.size:=zj_ (by rw[hb.o];decide);subst a3;obtain⟨d,hd⟩:∃ c,bt s (i+1)=c:=⟨_,rfl⟩;replace hd:=q_ hd
    by_cases a7:48<=d/\d<=57
    ·have n9:(decide ((48:Int)<=(d:Int))&&decide ((d:Int)<=57))=true:=by simp;omega
     obtain⟨i1,M⟩:∃ k,k=i+1:=⟨_,rfl⟩
     have a5:i1<s.size:=by rw[M];exact zj_ (by rw[hd.o];omega)
     replace M:=q_ M;have N:=q_ (show vd_ s i=.ok (.bytes (d-48),i+2) by rw[zcb hb.o,hd.o,if_pos a7])
     have b6:H_ ((d:Int)-48=((d-48:Nat):Int)):=by show(d:Int)-48=((d-48:Nat):Int);omega
     go_in
     go_wp2_with (first
      |(go_at_call 39;refine(z3_ q.o hc.o).mono ?_;rintro e K ⟨rfl,l⟩;have a:=q.o.still l;have r:=q_ ((O.o.still l));have p:=q_ (Blk.still b1.o l);have c1:=a.here.c1;have T:=a.here.thaw 1;replace a:=q_ a)
      |(go_at_call 39;refine(z3_ (a.o.inc m).1 hd.o).mono ?_;rintro e S ⟨rfl,I⟩;have f:=(a.o.inc m).1.still I;rw[<- M.o] at f;have G:=(r.o.trans (a.o.inc m).2).still I;have B4:=Blk.still ((a.o.inc m).2.fr.blk p.o (a.o.offS (.inr rfl))) I;have a8:=f.here.c1;have b4:=f.here.thaw 1;have b5:=f.here.thaw 2;have a9:=f.here.c2;have h:=(f.inc a5).2.fr.blk B4 (f.offS (.inr rfl));have r0:=h.cell 0;have r1:=h.cell 1;have C:=h.cell 2;have D:=h.cell 3;have E:=h.cell 4;obtain⟨U,V,Z,g3,g4⟩:=h.t5;simp only[yb_,aa_,ab_] at r0 r1 C D E;replace h:=q_ h;replace f:=q_ f;replace G:=q_ G)
      |(go_at_call 38;refine(yz_ _ _ _ _).mono ?_;rintro e w' ⟨rfl,a6⟩;rw[a6,n9]))
     have L:=Blk.five h.o (.int .u8 102) (.slice none 0 0) (.string ⟨#[]⟩) (.int .i64 (-1)) (.int .i64 ((d:Int)-48));obtain⟨x,y,z,q3,A⟩:=L.d5;have t:=Fr.five (S.setCell ⟨br,1,none⟩ (.int .i64 ((i1:Int)+1))) w.heap.size (.int .u8 102) (.slice none 0 0) (.string ⟨#[]⟩) (.int .i64 (-1)) (.int .i64 ((d:Int)-48));generalize (((((World.setCell (S.setCell ⟨br,1,none⟩ (.int .i64 ((i1:Int)+1))) ⟨w.heap.size,0,none⟩ (.int .u8 102)).setCell ⟨w.heap.size,1,none⟩ (.slice none 0 0)).setCell ⟨w.heap.size,2,none⟩ (.string ⟨#[]⟩)).setCell ⟨w.heap.size,3,none⟩ (.int .i64 (-1))).setCell ⟨w.heap.size,4,none⟩ (.int .i64 ((d:Int)-48)))=W5 at *;refine bodyPost_ret (v:=.agg (vz_ 102 (.slice none 0 0) ⟨#[]⟩ (-1) ((d:Int)-48)).toArray) (by simp[results,results41,go_sem,x,y,z,q3,A,vz_]) rfl ?_;rw[J.o];exact zdv R (f.o.inc a5).1 (G.o.trans (f.o.inc a5).2) t (.inr ⟨d-48,rfl,by rw[M.o];exact N.o,rfl,rfl,b6.o⟩)
    ·have n9:(decide ((48:Int)<=(d:Int))&&decide ((d:Int)<=57))=false:=by simp;omega
     have N:=q_ (show vd_ s i=.error (i+1) by rw[zcb hb.o,hd.o,if_neg a7])
     go_in
     go_wp2_with (first
      |(go_at_call 39;refine(z3_ q.o hc.o).mono ?_;rintro e K ⟨rfl,l⟩;have a:=q.o.still l;have r:=q_ ((O.o.still l));have p:=q_ (Blk.still b1.o l);have c1:=a.here.c1;have T:=a.here.thaw 1;replace a:=q_ a)
      |(go_at_call 39;refine(z3_ (a.o.inc m).1 hd.o).mono ?_;rintro e S ⟨rfl,I⟩;have f:=(a.o.inc m).1.still I;have G:=(r.o.trans (a.o.inc m).2).still I;have B4:=Blk.still ((a.o.inc m).2.fr.blk p.o (a.o.offS (.inr rfl))) I;have a8:=f.here.c1;have b4:=f.here.thaw 1;have b5:=f.here.thaw 2;have a9:=f.here.c2;have h:=f.spoil.2.fr.blk B4 (f.offS (.inr rfl));have r0:=h.cell 0;have r1:=h.cell 1;have C:=h.cell 2;have D:=h.cell 3;have E:=h.cell 4;obtain⟨U,V,Z,g3,g4⟩:=h.t5;simp only[yb_,aa_,ab_] at r0 r1 C D E;replace h:=q_ h;replace f:=q_ f;replace G:=q_ G)
      |(go_at_call 38;refine(yz_ _ _ _ _).mono ?_;rintro e w' ⟨rfl,a6⟩;rw[a6,n9]))
     have L:=Blk.five h.o (.int .u8 0) (.slice none 0 0) (.string ⟨#[]⟩) (.int .i64 0) (.int .i64 0);obtain⟨x,y,z,q3,A⟩:=L.d5;have t:=Fr.five (S.setCell ⟨br,2,none⟩ (.bool true)) w.heap.size (.int .u8 0) (.slice none 0 0) (.string ⟨#[]⟩) (.int .i64 0) (.int .i64 0);generalize (((((World.setCell (S.setCell ⟨br,2,none⟩ (.bool true)) ⟨w.heap.size,0,none⟩ (.int .u8 0)).setCell ⟨w.heap.size,1,none⟩ (.slice none 0 0)).setCell ⟨w.heap.size,2,none⟩ (.string ⟨#[]⟩)).setCell ⟨w.heap.size,3,none⟩ (.int .i64 0)).setCell ⟨w.heap.size,4,none⟩ (.int .i64 0))=W5 at *;refine bodyPost_ret (v:=.agg (vz_ 0 (.slice none 0 0) ⟨#[]⟩ 0 0).toArray) (by simp[results,results41,go_sem,x,y,z,q3,A,vz_]) rfl ?_;rw[J.o];exact zdv R f.o.spoil.1 (G.o.trans f.o.spoil.2) t (.inl ⟨rfl,N.o⟩)
   ·have N:=q_ (zjx (by rw[hc.o];exact a4) (by rw[hc.o];exact a2) (by rw[hc.o];exact a3))
    have n1:((c:Int) != 114)=true:=by simp;omega
    have n2:((c:Int) != 101)=true:=by simp;omega
    have n3:((c:Int) != 102)=true:=by simp;omega
    go_in
    go_wp2_with (go_at_call 39;refine(z3_ q.o hc.o).mono ?_;rintro e K ⟨rfl,l⟩;have a:=q.o.still l;have r:=(O.o.still l);have p:=Blk.still b1.o l;have c1:=a.here.c1;have T:=a.here.thaw 1;have f2:=a.here.thaw 2;have c2:=a.here.c2;have b:=a.spoil.2.fr.blk p (a.offS (.inr rfl));have r0:=b.cell 0;have r1:=b.cell 1;have C:=b.cell 2;have D:=b.cell 3;have E:=b.cell 4;obtain⟨U,V,Z,g3,g4⟩:=b.t5;simp only[yb_,aa_,ab_] at r0 r1 C D E;replace b:=q_ b;replace a:=q_ a;replace r:=q_ r;replace p:=q_ p)
    have L:=Blk.five b.o (.int .u8 0) (.slice none 0 0) (.string ⟨#[]⟩) (.int .i64 0) (.int .i64 0);obtain⟨x,y,z,q3,A⟩:=L.d5;have t:=Fr.five (K.setCell ⟨br,2,none⟩ (.bool true)) w.heap.size (.int .u8 0) (.slice none 0 0) (.string ⟨#[]⟩) (.int .i64 0) (.int .i64 0);generalize (((((World.setCell (K.setCell ⟨br,2,none⟩ (.bool true)) ⟨w.heap.size,0,none⟩ (.int .u8 0)).setCell ⟨w.heap.size,1,none⟩ (.slice none 0 0)).setCell ⟨w.heap.size,2,none⟩ (.string ⟨#[]⟩)).setCell ⟨w.heap.size,3,none⟩ (.int .i64 0)).setCell ⟨w.heap.size,4,none⟩ (.int .i64 0))=W5 at *;refine bodyPost_ret (v:=.agg (vz_ 0 (.slice none 0 0) ⟨#[]⟩ 0 0).toArray) (by simp[results,results41,go_sem,x,y,z,q3,A,vz_]) rfl ?_;rw[J.o];exact zdv R a.o.spoil.1 (r.o.trans a.o.spoil.2) t (.inl ⟨rfl,N.o⟩)
open Go.RowKit
def accW (seen:List Nat):List PD->Int->Int
 | [],m=>m
 | d::r,m=>accW (seen++[d.letter]) r (if d.letter∈seen then zz_ d.place (d.body.wr m) else d.body.wr m)
def accM (ds:List PD) (m:Int):Int:=ds.foldl (λ m d=>d.body.mx m) m
def accT (b:Nat):List PD->List TR
 | []=>[]
 | d::r=>d.body.ts b++accT (b+(d.body.ts b).length) r
def accU:List PD->List (Nat×Nat)
 | []=>[]
 | d::r=>d.body.us++accU r
theorem zk6 (a:List Nat) (ds:List PD) (d:PD) (m:Int):accW a (ds++[d]) m=if d.letter∈a++ds.map PD.letter then zz_ d.place (d.body.wr (accW a ds m)) else d.body.wr (accW a ds m):=by
 induction ds generalizing a m with
 | nil=>simp[accW]
 | cons x r ih=>rw[a4_,accW,accW,ih,bo_];rfl
theorem zla (ds:List PD) (d:PD) (m:Int):accM (ds++[d]) m=d.body.mx (accM ds m):=by simp[accM]
theorem zk9 (b:Nat) (ds:List PD) (d:PD):accT b (ds++[d])=accT b ds++d.body.ts (b+(accT b ds).length):=by
 induction ds generalizing b with
 | nil=>simp[accT]
 | cons x r ih=>simp only[a4_,accT,ih,bo_,ah_,bv_]
theorem zk7 (ds:List PD) (d:PD):accU (ds++[d])=accU ds++d.body.us:=by
 induction ds with
 | nil=>simp[accU]
 | cons x r ih=>simp[accU,ih]
def look (b c:Nat):List PD->Option (PB×Nat)
 | []=>none
 | d::r=>if d.letter=c then some (d.body,b) else look (b+(d.body.ts b).length) c r
theorem zfu (b c:Nat) (ds:List PD) (d:PD):look b c (ds++[d])=match look b c ds with|some x=>some x|none=>if d.letter=c then some (d.body,b+(accT b ds).length) else none:=by
 induction ds generalizing b with
 | nil=>simp[look,accT]
 | cons x r ih=>
  simp only[a4_,look]
  by_cases h:x.letter=c
  ·rw[if_pos h,if_pos h]
  ·rw[if_neg h,if_neg h,ih];simp only[accT,ah_,bv_]
theorem zfv (b c:Nat) (ds:List PD):look b c ds=none↔c∉ds.map PD.letter:=by
 induction ds generalizing b with
 | nil=>simp[look]
 | cons x r ih=>
  simp only[look]
  by_cases h:x.letter=c
  ·rw[if_pos h];simp[h]
  ·rw[if_neg h,ih];simp[Ne.symm h]
def x8_ (W:World) (X:Nat->Prop) (B:Nat) (s:BA) (zs:List Value) (ds:List PD):Prop:=
 zs.length=31/\∀ k,k<6->∃ (so:Int) (fv:Value) (sb:BA) (o n:Int) (cnt:Nat) (xs:List Value),(∀ p,p<5->zs[5*k+p]?=(vz_ so fv sb o n)[p]?)/\W.ownsRow B 80 10 fv cnt xs/\(∀ g,fv.ownBlock=some g->X g)/\
  match look 0 (65+k) ds with
  | none=>so=0/\cnt=0
  | some (pb,b)=>zpy s b pb so cnt xs sb o n
theorem zpy.sort {s:BA}{b:Nat}{pb:PB}{n:Int}(h:zpy s b pb so cnt xs sb o n):so≠0:=by
 cases pb with
 | recd ds=>have:=h.1;omega
 | enum l u=>have:=h.1;omega
 | bytes k=>have:=h.1;omega
theorem x8_.step {W W':World}{X:Nat->Prop}{br bz B:Nat}{s:BA}{zs:List Value}{ds:List PD}{j:Nat}{wr mx:Int}{ts:List TR}{us:List (Nat×Nat)}{e:List Value}{tv u:Value}
 (h:x8_ W X B s zs ds) (R:Rep W X br bz B s j bad wr mx ts us e tv u) (st:Step W W' br bz tv u tv' u'):x8_ W' X B s zs ds:=by
 refine⟨h.1,λ k hk=>?_⟩;obtain⟨so,fv,sb,o,n,cnt,xs,h1,b,a,d⟩:=h.2 k hk;exact⟨so,fv,sb,o,n,cnt,xs,h1,za_ b st.fr (λ g hg=>R.offS (a g hg)),a,d⟩
def set5 (zs:List Value) (o:Nat) (v0 v1 v2 v3 v4:Value):List Value:=((((zs.set o v0).set (o+1) v1).set (o+2) v2).set (o+3) v3).set (o+4) v4
theorem zv4 {zs:List Value}{o:Nat}(h:o+5<=zs.length) (a b d e f:Value) (p:Nat) (g:p<5):(set5 zs o a b d e f)[o+p]?=[a,b,d,e,f][p]?:=by
 unfold set5
 match p,g with
 | 0,_=>simp[List.getElem?_set];omega
 | 1,_=>simp[List.getElem?_set];omega
 | 2,_=>simp[List.getElem?_set];omega
 | 3,_=>simp[List.getElem?_set];omega
 | 4,_=>simp[List.getElem?_set];omega
theorem ztk {zs:List Value}{o q:Nat}(a b d e f:Value) (g:q<o\/o+5<=q):(set5 zs o a b d e f)[q]?=zs[q]?:=by
 unfold set5;rw[by_ (by omega),by_ (by omega),by_ (by omega),by_ (by omega),by_ (by omega)]
theorem zlm (zs:List Value) (o:Nat) (a b d e f:Value):(set5 zs o a b d e f).length=zs.length:=by simp[set5]
theorem x8_.add {W:World}{X:Nat->Prop}{B:Nat}{s:BA}{zs:List Value}{ds:List PD}{d:PD}{k:Nat}{n:Int}
 (h:x8_ W X B s zs ds) (hk:k<6) (hd:d.letter=65+k) (A:look 0 (65+k) ds=none) (v:∀ g,X g->Y g) (own:W.ownsRow B 80 10 fv cnt xs) (y:∀ g,fv.ownBlock=some g->Y g)
 (t:zpy s (accT 0 ds).length d.body so cnt xs sb o n):x8_ W Y B s (set5 zs (5*k) (.int .u8 so) fv (.string sb) (.int .i64 o) (.int .i64 n)) (ds++[d]):=by
 refine⟨by rw[zlm];exact h.1,λ f z=>?_⟩
 by_cases e:f=k
 ·subst e;refine⟨so,fv,sb,o,n,cnt,xs,λ p b=>zv4 (by rw[h.1];omega) _ _ _ _ _ p b,own,y,?_⟩;rw[zfu,A];simp only[hd,if_true,br_];exact t
 ·obtain⟨F,m,E,D,C,l,G,h1,q,r,a⟩:=h.2 f z;refine⟨F,m,E,D,C,l,G,λ p b=>by rw[ztk _ _ _ _ _ (by omega)];exact h1 p b,q,λ g hg=>v g (r g hg),?_⟩;rw[zfu]
  cases hl:look 0 (65+f) ds with
  | some x=>rw[hl] at a;exact a
  | none=>
   rw[hl] at a;rw[if_neg (by omega)];exact a
theorem x8_.again {W:World}{X:Nat->Prop}{B:Nat}{s:BA}{zs:List Value}{ds:List PD}{d:PD}{k:Nat}{x:PB×Nat}
 (h:x8_ W X B s zs ds) (hd:d.letter=65+k) (v:look 0 (65+k) ds=some x) (q:∀ g,X g->Y g):x8_ W Y B s zs (ds++[d]):=by
 refine⟨h.1,λ b r=>?_⟩;obtain⟨C,l,A,z,y,f,D,h1,m,p,a⟩:=h.2 b r;refine⟨C,l,A,z,y,f,D,h1,m,λ g hg=>q g (p g hg),?_⟩;rw[zfu]
 cases hl:look 0 (65+b) ds with
 | some x=>rw[hl] at a;exact a
 | none=>
  rw[hl] at a
  have t:¬ (d.letter=65+b):=λ e=>by rw[hd] at e;obtain rfl:k=b:=(by omega);rw[v] at hl;cases hl
  rw[if_neg t];exact a
theorem Rep.setZ {w:World}{X:Nat->Prop}{br bz B:Nat}{s:BA}{i:Nat}{wr mx:Int}{ts:List TR}{us:List (Nat×Nat)}{zs:List Value}{tv u:Value}(R:Rep w X br bz B s i bad wr mx ts us zs tv u) (o:Nat) (v:Value) :
 Rep (w.setCell ⟨bz,o+1,none⟩ v) X br bz B s i bad wr mx ts us (zs.set o v) tv u/\Step w (w.setCell ⟨bz,o+1,none⟩ v) br bz tv u tv u:=by
 have f:Fr w (w.setCell ⟨bz,o+1,none⟩ v) (λ g=>g=bz):=(Fr.refl w (λ g=>g=bz)).setCell ⟨bz,o+1,none⟩ v (λ _=>rfl);have h:Step w (w.setCell ⟨bz,o+1,none⟩ v) br bz tv u tv u:=⟨f.mono (λ _ _ e=>.inr (.inl e)),.inl rfl,.inl rfl⟩;have p:Blk (w.setCell ⟨bz,o+1,none⟩ v) bz (tv::zs.set o v) 47:=Blk.set R.z (o+1) v;refine⟨⟨f.blk R.here R.rz,p,?_,za_ R.uses f (λ g hg e=>za0 R.uses R.zB (e▸hg)),R.apart,R.rB,R.zB,ai_ R.hB f.size,R.rz,R.il,R.sl,R.tl,R.ul,λ g hg=>⟨a5_ (R.av g hg).1 f.size,(R.av g hg).2⟩⟩,h⟩;obtain⟨xs,l,hk⟩:=R.tys;refine⟨xs,za_ l f (λ g hg e=>za0 l R.zB (e▸hg)),λ k t m=>?_⟩;obtain⟨sv,a,b,c,d⟩:=hk k t m;exact⟨sv,a,b,h.subs c R.rB R.zB,d⟩
theorem x8_.root {W:World}{X:Nat->Prop}{B:Nat}{s:BA}{zs:List Value}{ds:List PD}(h:x8_ W X B s zs ds) (v:Value):x8_ W X B s (zs.set 30 v) ds:=by
 refine⟨by rw[List.length_set];exact h.1,λ k hk=>?_⟩;obtain⟨so,fv,sb,o,n,cnt,xs,h1,a,b,d⟩:=h.2 k hk;exact⟨so,fv,sb,o,n,cnt,xs,λ p e=>by rw[by_ (by omega)];exact h1 p e,a,b,d⟩
theorem Rep.setDef {w:World}{X:Nat->Prop}{br bz B:Nat}{s:BA}{i:Nat}{wr mx:Int}{ts:List TR}{us:List (Nat×Nat)}{zs:List Value}{tv u:Value}(R:Rep w X br bz B s i bad wr mx ts us zs tv u) (o:Nat) (a b d e f:Value) :
 Rep (((((w.setCell ⟨bz,o+1,none⟩ a).setCell ⟨bz,o+1+1,none⟩ b).setCell ⟨bz,o+2+1,none⟩ d).setCell ⟨bz,o+3+1,none⟩ e).setCell ⟨bz,o+4+1,none⟩ f) X br bz B s i bad wr mx ts us (set5 zs o a b d e f) tv u/\
  Step w (((((w.setCell ⟨bz,o+1,none⟩ a).setCell ⟨bz,o+1+1,none⟩ b).setCell ⟨bz,o+2+1,none⟩ d).setCell ⟨bz,o+3+1,none⟩ e).setCell ⟨bz,o+4+1,none⟩ f) br bz tv u tv u:=by
 have h0:=R.setZ o a;have h1:=h0.1.setZ (o+1) b;have g:=h1.1.setZ (o+2) d;have h:=g.1.setZ (o+3) e;have l:=h.1.setZ (o+4) f;exact⟨l.1,(((h0.2.trans h1.2).trans g.2).trans h.2).trans l.2⟩
open Go.RowKit
structure WM (w:World) (X:Nat->Prop) (br bz B:Nat) (s:BA) (tv0 u0:Value) (ds:List PD) (j:Nat) (bad:Bool) (wg MX:Int) (TS:List TR) (US:List (Nat×Nat)) (Xk:Nat->Prop) (zs:List Value) (tv u:Value) (W:World):Prop where
 R:Rep W Xk br bz B s j bad wg MX TS US zs tv u
 D:x8_ W Xk B s zs ds
 XX:∀ g,X g->Xk g
 st:Step w W br bz tv0 u0 tv u
def WInv (w:World) (X:Nat->Prop) (br bz B:Nat) (s:BA) (wr mx:Int) (tv0 u0:Value) (m:Nat) (nv:Value) (W:World):Prop:=
 ∃ n:Nat,nv=.int .i64 (n:Int)/\n<=6/\7-n<=m/\
  ((∃ ds j Xk zs tv u,ds.length=n/\WM w X br bz B s tv0 u0 ds j false (accW [] ds wr) (accM ds mx) (accT 0 ds) (accU ds) Xk zs tv u W/\y5_ s 6 0=zah ds (y5_ s (6-n) j))\/
   (∃ k Xk zs tv u wg MX TS US,Rep W Xk br bz B s k true wg MX TS US zs tv u/\Step w W br bz tv0 u0 tv u/\(∀ g,X g->Xk g)/\z1_ s=.error k))
def v2_ (w:World) (X:Nat->Prop) (br bz B:Nat) (s:BA) (wr mx:Int) (tv0 u0:Value) (W:World):Prop:=
 match z1_ s with
 | .error k=>∃ Xk zs tv u wg MX TS US,Rep W Xk br bz B s k true wg MX TS US zs tv u/\Step w W br bz tv0 u0 tv u/\(∀ g,X g->Xk g)
 | .ok (ds,t)=>∃ Xk zs tv u,WM w X br bz B s tv0 u0 ds s.size false (accW [] ds wr) (mix t (accM ds mx)) (accT 0 ds++flat (accT 0 ds).length t) (accU ds++zr_ t) Xk zs tv u W/\
  zs[30]?=some (.int .i64 (((accT 0 ds).length+(flat (accT 0 ds).length t).length-1:Nat):Int))
theorem WM.still {w:World}{X Xk:Nat->Prop}{br bz B:Nat}{s:BA}{tv0 u0 tv u:Value}{ds:List PD}{j:Nat}{zs:List Value}{W W':World}(M:WM w X br bz B s tv0 u0 ds j bad wg MX TS US Xk zs tv u W) (h:zd_ W W'):WM w X br bz B s tv0 u0 ds j bad wg MX TS US Xk zs tv u W':=
 ⟨M.R.still h,M.D.step M.R (Step.ofStill h),M.XX,M.st.still h⟩
theorem zab {w W:World}{X Xk:Nat->Prop}{br bz B:Nat}{s:BA}{wr mx:Int}{tv0 u0 tv u:Value}{k:Nat}{zs:List Value}(h:z1_ s=.error k) (R:Rep W Xk br bz B s k true wg MX TS US zs tv u) (st:Step w W br bz tv0 u0 tv u) (a:∀ g,X g->Xk g) :
 v2_ w X br bz B s wr mx tv0 u0 W:=by
 unfold v2_;rw[h];exact⟨_,_,_,_,_,_,_,_,R,st,a⟩
theorem zlw {s:BA}{ds:List PD}{i:Nat}(h:y5_ s 6 0=.ok (ds,i)):z1_ s=match pT s i with | .error k=>.error k | .ok (t,j)=>if j<s.size then .error j else .ok (ds,t):=by
 unfold z1_;rw[h];rfl
theorem zca {s:BA}{k:Nat}(h:y5_ s 6 0=.error k):z1_ s=.error k:=by unfold z1_;rw[h]
theorem ztd {w W:World}{X Xk:Nat->Prop}{br bz B:Nat}{s:BA}{wr mx:Int}{tv0 u0 tv u:Value}{zs:List Value}{ds:List PD}{t:PT}(h:z1_ s=if j'<s.size then .error j' else .ok (ds,t)) (a:¬ j'<s.size) (d:j'<=s.size)
 (M:WM w X br bz B s tv0 u0 ds j' false (accW [] ds wr) (mix t (accM ds mx)) (accT 0 ds++flat (accT 0 ds).length t) (accU ds++zr_ t) Xk zs tv u W)
 (b:zs[30]?=some (.int .i64 (((accT 0 ds).length+(flat (accT 0 ds).length t).length-1:Nat):Int))):v2_ w X br bz B s wr mx tv0 u0 W:=by
 have e:j'=s.size:=by omega
 subst e;unfold v2_;rw[h,if_neg a];exact⟨_,_,_,_,M,b⟩
theorem WM.call {w:World}{X Xk:Nat->Prop}{br bz B:Nat}{s:BA}{tv0 u0 tv u:Value}{ds:List PD}{j:Nat}{e:Bool}{f a:Int}{b:List TR}{d:List (Nat×Nat)}{zs:List Value}{W W':World}(M:WM w X br bz B s tv0 u0 ds j bad wg MX TS US Xk zs tv u W)
 (g:Rep W' Xk br bz B s j' e f a b d zs tv' u') (st:Step W W' br bz tv u tv' u'):WM w X br bz B s tv0 u0 ds j' e f a b d Xk zs tv' u' W':=
 ⟨g,M.D.step M.R st,M.XX,M.st.trans st⟩
theorem x8_.wider {W:World}{X:Nat->Prop}{B:Nat}{s:BA}{zs:List Value}{ds:List PD}(h:x8_ W X B s zs ds) (e:∀ g,X g->Y g):x8_ W Y B s zs ds:=by
 refine⟨h.1,λ k hk=>?_⟩;obtain⟨so,fv,sb,o,n,cnt,xs,h1,a,b,d⟩:=h.2 k hk;exact⟨so,fv,sb,o,n,cnt,xs,h1,a,λ g hg=>e g (b g hg),d⟩
def held (W:World) (v0 v1 v2 v3 v4:Value):World:=W.alloc (.cells #[v0,v1,v2,v3,v4] 44)
theorem zig (W:World) (a b d e f:Value) (S:Nat->Prop):Fr W (held W a b d e f) S:=(Fr.refl W S).alloc _
theorem zih (W:World) (a b d e f:Value):Blk (held W a b d e f) W.heap.size [a,b,d,e,f] 44:=
 Blk.new W #[a,b,d,e,f] 44
theorem zrx (W:World) (a b d e f:Value):W.heap.size<(held W a b d e f).heap.size:=(zih W a b d e f).lt
theorem WM.held {w:World}{X Xk:Nat->Prop}{br bz B:Nat}{s:BA}{tv0 u0 tv u:Value}{ds:List PD}{j:Nat}{v:Bool}{x m:Int}{r:List TR}{t:List (Nat×Nat)}{zs:List Value}{W W':World}(M:WM w X br bz B s tv0 u0 ds j bad wg MX TS US Xk zs tv u W)
 (st:Step W W' br bz tv u tv' u') (p:Rep W' (λ g=>Xk g\/fv.ownBlock=some g) br bz B s j' v x m r t zs tv' u') (a b d f l:Value) :
 WM w X br bz B s tv0 u0 ds j' v x m r t (λ g=>(Xk g\/fv.ownBlock=some g)\/g=W'.heap.size) zs tv' u' (held W' a b d f l):=by
 have hs:=zrx W' a b d f l
 have z:=(p.o (zig W' a b d f l _)).fewer (Y:=λ g=>(Xk g\/fv.ownBlock=some g)\/g=W'.heap.size) (λ g hg=>by
  rcases hg with e|e
  ·exact .inl e
  ·exact .inr ⟨by omega,by omega⟩)
 have q:Step W' (Go.Proofs.YtiifagiebikmdaaGreatDoor.held W' a b d f l) br bz tv' u' tv' u':=⟨zig W' a b d f l _,.inl rfl,.inl rfl⟩;have y:=M.D.step M.R st;exact⟨z,(y.wider (λ g h=>.inl h)).step p q |>.wider (λ g h=>.inl h),λ g h=>.inl (.inl (M.XX g h)),(M.st.trans st).trans q⟩
theorem zsa {s:BA}{ds:List PD}{n j c:Nat}(h:y5_ s 6 0=zah ds (y5_ s (6-n) j)) (hn:n<6) (hc:bt s j=c) (a:(65<=c/\c<=70)/\j+1<s.size) :
 y5_ s 6 0=if bt s (j+1)=61 then (match vd_ s (j+2) with | .error k=>.error k | .ok (pb,e)=>if bt s e=59 then zah (ds++[⟨c,j,pb⟩]) (y5_ s (6-(n+1)) (e+1)) else .error e) else .error (j+1):=by
 rw[h,show 6-n=(6-(n+1))+1 by omega,zbs,hc,if_pos ⟨by simp only[z5_,a1_,decide_eq_true_eq];exact a.1,a.2⟩]
 rfl
def OutS (s:BA) (e j:Nat) (bad:Bool):Prop:=(bad=false/\bt s e=59/\j=e+1)\/(bad=true/\bt s e≠59/\j=e)
theorem zum {w W:World}{X:Nat->Prop}{br bz B:Nat}{s:BA}{i:Nat}{wr mx:Int}{ts:List TR}{us:List (Nat×Nat)}{zs:List Value}{tv u:Value}(h:zn5 w X br bz B s i wr mx ts us zs tv u 59 W) :
 ∃ j bad,Rep W X br bz B s j bad wr mx ts us zs tv u/\Step w W br bz tv u tv u/\OutS s i j bad:=by
 obtain⟨h,st⟩:=h
 by_cases e:bt s i=59
 ·rw[if_pos e] at h;exact⟨_,_,h,st,.inl ⟨rfl,e,rfl⟩⟩
 ·rw[if_neg e] at h;exact⟨_,_,h,st,.inr ⟨rfl,e,rfl⟩⟩
def laid (W:World) (bz k:Nat) (v0 v1 v2 v3 v4:Value):World:=
 ((((W.setCell ⟨bz,1+k*5,none⟩ v0).setCell ⟨bz,1+k*5+1,none⟩ v1).setCell ⟨bz,1+k*5+2,none⟩ v2).setCell ⟨bz,1+k*5+3,none⟩ v3).setCell ⟨bz,1+k*5+4,none⟩ v4
theorem Rep.laid {w:World}{X:Nat->Prop}{br bz B:Nat}{s:BA}{i:Nat}{wr mx:Int}{ts:List TR}{us:List (Nat×Nat)}{zs:List Value}{tv u:Value}(R:Rep w X br bz B s i bad wr mx ts us zs tv u) (k:Nat) (a b d e f:Value) :
 Rep (laid w bz k a b d e f) X br bz B s i bad wr mx ts us (set5 zs (5*k) a b d e f) tv u/\Step w (Go.Proofs.YtiifagiebikmdaaGreatDoor.laid w bz k a b d e f) br bz tv u tv u:=by
 have h:=R.setDef (5*k) a b d e f;unfold Go.Proofs.YtiifagiebikmdaaGreatDoor.laid;rw[show 1+k*5=5*k+1 by omega,show 5*k+1+2=5*k+2+1 by omega,show 5*k+1+3=5*k+3+1 by omega,show 5*k+1+4=5*k+4+1 by omega];exact h
section
variable {w W:World} {X Xk:Nat->Prop} {br bz B:Nat} {s:BA} {wr mx:Int} {tv0 u0 tv u:Value} {ds:List PD} {j j6 e2 c k n:Nat} {bad6:Bool} {pb:PB} {zs:List Value}
theorem ze5 (a:y5_ s 6 0=if bt s e2=59 then zah (ds++[⟨c,j,pb⟩]) (y5_ s (6-(n+1)) (e2+1)) else .error e2) (d:OutS s e2 j6 bad6) (e:ds.length=n) (hn:n<6)
 (M:WM w X br bz B s tv0 u0 (ds++[⟨c,j,pb⟩]) j6 bad6 (accW [] (ds++[⟨c,j,pb⟩]) wr) (accM (ds++[⟨c,j,pb⟩]) mx) (accT 0 (ds++[⟨c,j,pb⟩])) (accU (ds++[⟨c,j,pb⟩])) Xk zs tv u W) :
 WInv w X br bz B s wr mx tv0 u0 (6-n) (.int .i64 ((n:Int)+1)) W:=by
 refine⟨n+1,by simp,by omega,by omega,?_⟩
 rcases d with⟨rfl,b,rfl⟩|⟨rfl,b,rfl⟩
 ·rw[if_pos b] at a;exact .inl ⟨_,_,_,_,_,_,by simp[e],M,a⟩
 ·rw[if_neg b] at a;exact .inr ⟨_,_,_,_,_,_,_,_,_,M.R,M.st,M.XX,zca a⟩
theorem zlj {x:PB×Nat}(hc:c=65+k) (a:look 0 (65+k) ds=some x)
 (M:WM w X br bz B s tv0 u0 ds j6 bad6 (zz_ j (pb.wr (accW [] ds wr))) (pb.mx (accM ds mx)) (accT 0 ds++pb.ts (accT 0 ds).length) (accU ds++pb.us) Xk zs tv u W) :
 WM w X br bz B s tv0 u0 (ds++[⟨c,j,pb⟩]) j6 bad6 (accW [] (ds++[⟨c,j,pb⟩]) wr) (accM (ds++[⟨c,j,pb⟩]) mx) (accT 0 (ds++[⟨c,j,pb⟩])) (accU (ds++[⟨c,j,pb⟩])) Xk zs tv u W:=by
 have b:c∈[]++ds.map PD.letter:=by
  by_cases h:c∈ds.map PD.letter
  ·simpa using h
  ·rw[hc,<- zfv 0,a] at h;cases h
 refine⟨?_,M.D.again (d:=⟨c,j,pb⟩) hc a (λ _ h=>h),M.XX,M.st⟩;rw[zk6,if_pos b,zla,zk9,zk7,br_];exact M.R
theorem zp5 {nn:Int}(f:k<6) (hc:c=65+k) (b:look 0 (65+k) ds=none)
 (M:WM w X br bz B s tv0 u0 ds j6 bad6 (pb.wr (accW [] ds wr)) (pb.mx (accM ds mx)) (accT 0 ds++pb.ts (accT 0 ds).length) (accU ds++pb.us) Xk zs tv u W)
 (own:W.ownsRow B 80 10 fv cnt xs) (a:∀ g,fv.ownBlock=some g->Xk g) (e:zpy s (accT 0 ds).length pb so cnt xs sb o nn) :
 WM w X br bz B s tv0 u0 (ds++[⟨c,j,pb⟩]) j6 bad6 (accW [] (ds++[⟨c,j,pb⟩]) wr) (accM (ds++[⟨c,j,pb⟩]) mx) (accT 0 (ds++[⟨c,j,pb⟩])) (accU (ds++[⟨c,j,pb⟩])) Xk (set5 zs (5*k) (.int .u8 so) fv (.string sb) (.int .i64 o) (.int .i64 nn)) tv u (laid W bz k (.int .u8 so) fv (.string sb) (.int .i64 o) (.int .i64 nn)):=by
 have l:c∉[]++ds.map PD.letter:=by
  rw[hc,ba_];exact(zfv 0 _ _).1 b
 obtain⟨R,st⟩:=M.R.laid k (.int .u8 so) fv (.string sb) (.int .i64 o) (.int .i64 nn);refine⟨?_,x8_.add (d:=⟨c,j,pb⟩) (M.D.step M.R st) f hc b (λ _ h=>h) (za_ own st.fr (λ g hg=>M.R.offS (a g hg))) a e,M.XX,M.st.trans st⟩;rw[zk6,if_neg l,zla,zk9,zk7,br_];exact R
end
theorem zi7 {w:World}{X:Nat->Prop}{br bz B:Nat}{s:BA}{mx:Int}{zs:List Value}{tv u:Value}(R:Rep w X br bz B s 0 false wg mx [] [] zs tv u) (hD:x8_ w X B s zs []) :
 Calls prog 23 #[.pointer (some ⟨br,0,none⟩)] w λ e w'=>e=.returned (.tuple #[])/\v2_ w X br bz B s wg mx tv u w':=by
 have j1:=R.sl;have d8:WInv w X br bz B s wg mx tv u 7 (.int .i64 0) w:=⟨0,rfl,by omega,by omega,.inl ⟨[],0,X,zs,tv,u,rfl,⟨R,hD,λ _ h=>h,Step.refl _ _ _ _ _⟩,(zhe _).symm⟩⟩;replace d8:=q_ d8;obtain⟨h9,G⟩:∃ P,H_ (P=λ (e:Ending) (w':World)=>e=.returned (.tuple #[])/\v2_ w X br bz B s wg mx tv u w'):=⟨_,rfl⟩;rw[<- G.o]
 go_in
 go_wp2_with fail
 go_loopg [2] 7 (λ m nv W=>WInv w X br bz B s wg mx tv u m nv W)
 case atStart=>exact d8.o
 case round=>
  clear d8;obtain⟨n,rfl,j0,g6,hA|hC⟩:=hrel
  ·obtain⟨ds,j,Xk,f1,tv',u',f3,M,b8⟩:=hA;obtain⟨c0,c1,c2⟩:=M.R.here.d3;have i6:=M.R.il;obtain⟨c,hc⟩:∃ c,bt s j=c:=⟨_,rfl⟩
   have i5:c<256:=by rw[<- hc];exact zf4 _ _
   by_cases d0:n<6/\(65<=c/\c<=70)/\j+1<s.size
   ·obtain⟨hn,g3,g4⟩:=d0;have L:=q_ (zsa b8 hn hc ⟨g3,g4⟩);clear b8;replace M:=q_ M;replace hc:=q_ hc;have d1:H_ (∀ q,Calls prog 39 #[.pointer (some ⟨br,0,none⟩)] (wr.drewN q) λ e w'=>e=.returned (.int .u8 (c:Int))/\∃ m,w'=(wr.drewN q).drewN m):=λ q=>z3_ (M.o.R.still (zd_.drewN wr q)) hc.o
    have d2:H_ (∀ (q:Nat) (b:Bool),(decide ((65:Int)<=(c:Int))&&decide ((c:Int)<=70))=b->Calls prog 38 #[.int .u8 (c:Int),.int .u8 65,.int .u8 70] (wr.drewN q) λ e w'=>e=.returned (.bool b)/\w'=wr.drewN q):=λ q b hb=>by rw[<- hb];exact yz_ _ _ _ _
    have T:=q_ (show(decide ((65:Int)<=(c:Int))&&decide ((c:Int)<=70))=true by simp;omega)
    have h1:(n:Int)<6:=by omega
    have h3:(j:Int)+1<(s.size:Int):=by omega
    have Z:j<s.size:=by omega
    go_wp2_with fail
    go_quiet (first|(go_at_call 39;exact Calls.quiet_of (d1.o _))|(go_at_call 38;exact Calls.quiet_of_same (d2.o _ _ T.o)))
    go_wp2_with fail
    have f:=M.o.still (zd_.drewN wr nq);generalize wr.drewN nq=W1 at f⊢;clear c0 c1 c2 d1 d2;replace f:=q_ f
    by_cases b7:bt s (j+1)=61
    ·rw[if_pos b7] at L
     go_wp2_with (first
      |(go_at_call 39;refine(z3_ f.o.R hc.o).mono ?_;rintro e w2 ⟨rfl,e7⟩;have l:=f.o.still e7;have f6:=l.R.here.c1;have f9:=l.R.here.thaw 1;replace l:=q_ l)
      |(go_at_call 40;refine(y4_ 61 (l.o.R.inc Z).1 rfl (by decide)).mono ?_;rintro e w3 ⟨rfl,F,a8⟩;rw[if_pos b7] at F;have A:=(l.o.call (l.o.R.inc Z).1 (l.o.R.inc Z).2).call F a8;have e0:=A.R.here.c2;clear F a8;replace A:=q_ A))
     have hD:=q_ (zgw A.o.R)
     cases J:vd_ s (j+2) with
     | error k=>
      rw[J] at L;replace J:=q_ J;clear e0
      go_wp2_with (go_at_call 41;refine hD.o.mono ?_;rintro e w4 ⟨so,fv,sb,o,nn,cnt,xs,h5,u4,rfl,a9,U,d9,a7⟩;simp only[vz_];rw[J.o] at a7;obtain⟨N,sn,O,rfl⟩:=zn_ U;obtain⟨k0,h8,i0,i1,RR⟩:=a7;have r:=A.o.held a9 RR (.int .u8 so) (.slice N sn O) (.string sb) (.int .i64 o) (.int .i64 nn);have b5:=r.R.here.c2;unfold held at b5;have e8:=q_ (za_ U (zig w4 (.int .u8 so) (.slice N sn O) (.string sb) (.int .i64 o) (.int .i64 nn) (λ _=>False)) (λ _ _ h=>h));have B5:=q_ (zih w4 (.int .u8 so) (.slice N sn O) (.string sb) (.int .i64 o) (.int .i64 nn));replace r:=q_ r;clear a9 U d9;clear RR)
      first|go_end0|refine bodyPost_ret (results_none rfl _ _ _) rfl ?_
      rw[G.o];exact⟨rfl,zab (zca L.o) r.o.R r.o.st r.o.XX⟩
     | ok q=>
      obtain⟨pb,e2⟩:=q;rw[J] at L;replace J:=q_ J;clear e0
      go_wp2_with (go_at_call 41;refine hD.o.mono ?_;rintro e w4 ⟨so,fv,sb,o,nn,cnt,xs,h5,u4,rfl,a9,U,d9,a7⟩;simp only[vz_];rw[J.o] at a7;obtain⟨N,sn,O,rfl⟩:=zn_ U;obtain⟨e1,RR⟩:=a7;have r:=A.o.held a9 RR (.int .u8 so) (.slice N sn O) (.string sb) (.int .i64 o) (.int .i64 nn);have b5:=r.R.here.c2;unfold held at b5;have e8:=q_ (za_ U (zig w4 (.int .u8 so) (.slice N sn O) (.string sb) (.int .i64 o) (.int .i64 nn) (λ _=>False)) (λ _ _ h=>h));have B5:=q_ (zih w4 (.int .u8 so) (.slice N sn O) (.string sb) (.int .i64 o) (.int .i64 nn));replace r:=q_ r;clear a9 U d9;clear RR;replace e1:=q_ e1)
      refine(y4_ 59 r.o.R rfl (by decide)).mono ?_;rintro e w6 ⟨rfl,F⟩;obtain⟨j6,bad6,F,d6,hO⟩:=zum F;have y:=r.o.call F d6;have B6:=d6.fr.blk B5.o (r.o.R.offS (.inr rfl));have e9:=za_ e8.o d6.fr (λ g hg=>r.o.R.offS (.inl (.inr hg)));clear F d6 b5 e8 B5 r;obtain⟨k,hk⟩:∃ k:Nat,c=65+k:=⟨c-65,by omega⟩
      have i7:(c:Int)-65=(k:Int):=by omega
      have f2:k<6:=by omega
      have i8:(k:Int)<6:=by omega
      obtain⟨g9,i3,j5,o',n',i2,k1,hz,_,_,hl⟩:=y.D.2 k f2
      have z6:w6.cell? ⟨bz,1+k*5,none⟩=some (.int .u8 g9):=by
       rw[y.R.z.cell,show 1+k*5=(5*k+0)+1 by omega,ab_];exact hz 0 (by omega)
      have b6:=y.R.here.c3;obtain⟨b0,b1,b2,b3,b4⟩:=B6.d5;generalize w4.heap.size=bd at *;clear hz;replace y:=q_ y;replace B6:=q_ B6;replace e9:=q_ e9;replace hO:=q_ hO;replace hk:=q_ hk
      cases I:look 0 (65+k) ds with
      | none=>
       rw[I] at hl;obtain⟨hl,_⟩:=hl;subst hl;replace I:=q_ I
       have zz:∀ p,p<5->∃ v,w6.cell? ⟨bz,1+k*5+p,none⟩=some v:=λ p H=>by
        have i4:=y.o.D.1;rw[y.o.R.z.cell,show 1+k*5+p=(5*k+p)+1 by omega,ab_];exact⟨_,an_ (by omega)⟩
       obtain⟨y1,k2⟩:=zz 1 (by omega);obtain⟨y2,k3⟩:=zz 2 (by omega);obtain⟨y3,k4⟩:=zz 3 (by omega);obtain⟨y4,k5⟩:=zz 4 (by omega);have t0:=y.o.R.z.thaw (1+k*5);have t1:=y.o.R.z.thaw (1+k*5+1);have t2:=y.o.R.z.thaw (1+k*5+2);have t3:=y.o.R.z.thaw (1+k*5+3);have t4:=y.o.R.z.thaw (1+k*5+4);clear zz
       go_wp2_with fail
       refine zx_ 9 (λ W=>W.cell? ⟨br,3,none⟩=some (.pointer (some ⟨bz,0,none⟩))/\W.cell? ⟨bd,0,none⟩=some (.int .u8 so)/\W.cell? ⟨bd,1,none⟩=some (.slice N sn O)/\W.cell? ⟨bd,2,none⟩=some (.string sb)/\W.cell? ⟨bd,3,none⟩=some (.int .i64 o)/\W.cell? ⟨bd,4,none⟩=some (.int .i64 nn)) (by kernel_rfl) ?_;refine tb_ 0 rfl (by kernel_rfl) (λ _ _ _ h=>h) (by rfl) (by rintro W ⟨d,a1,a2,a3,a4,a5⟩;go_simp<;>rfl) ?_;refine tb_ 1 rfl (by kernel_rfl) (λ _ _ _ h=>h) (by rfl) (by rintro W ⟨d,a1,a2,a3,a4,a5⟩;go_simp<;>rfl) ?_;refine tb_ 2 rfl (by kernel_rfl) (λ _ _ _ h=>h) (by rfl) (by rintro W ⟨d,a1,a2,a3,a4,a5⟩;go_simp<;>rfl) ?_;refine tb_ 3 rfl (by kernel_rfl) (λ _ _ _ h=>h) (by rfl) (by rintro W ⟨d,a1,a2,a3,a4,a5⟩;go_simp<;>rfl) ?_;refine tb_ 4 rfl (by kernel_rfl) (λ _ _ _ h=>h) (by rfl) (by rintro W ⟨d,a1,a2,a3,a4,a5⟩;go_simp<;>rfl) ?_;refine tb_ 5 rfl (by kernel_rfl) (λ _ _ _ h=>h) (by rfl) (by rintro W ⟨d,a1,a2,a3,a4,a5⟩;go_simp<;>rfl) ?_;refine ze_ 6 rfl (by kernel_rfl) (λ _=>⟨b6,b0,b1,b2,b3,b4⟩) (λ K a=>?_);go_simp;refine a _ _ ?_;clear a K;refine ze_ 7 rfl (by kernel_rfl) (λ _=>⟨b6,b0,b1,b2,b3,b4⟩) (λ K a=>?_);go_simp;refine a _ _ ?_;clear a K;refine ze_ 8 rfl (by kernel_rfl) (λ _=>⟨b6,b0,b1,b2,b3,b4⟩) (λ K a=>?_);go_simp;refine a _ _ ?_;clear a K;refine ze_ 9 rfl (by kernel_rfl) (λ _=>⟨b6,b0,b1,b2,b3,b4⟩) (λ K a=>?_);go_simp;refine a _ _ ?_;clear a K;refine zq_ (by kernel_rfl) (λ hm=>absurd hm (by decide)) ?_ _
       go_wp2_with fail
       go_roundg (6-n)
       case measure=>omega
       case rel=>exact ze5 L.o hO.o f3 hn (zp5 f2 hk.o I.o (y.o.still (zd_.drew w6)) (za_ e9.o ((Fr.refl w6 (λ _=>False)).still (zd_.drew w6)) (λ _ _ h=>h)) (λ g hg=>.inl (.inr hg)) e1.o)
      | some x=>
       rw[I] at hl;have j2:=hl.sort;replace hl:=q_ hl;replace I:=q_ I
       go_wp2_with (go_at_call 24;refine(zaa y.o.R).mono ?_;rintro e w7 ⟨rfl,d,h4⟩)
       go_roundg (6-n)
       case measure=>omega
       case rel=>exact ze5 L.o hO.o f3 hn (zlj hk.o I.o (y.o.call d h4))
    ·rw[if_neg b7] at L
     go_wp2_with (first
      |(go_at_call 39;refine(z3_ f.o.R hc.o).mono ?_;rintro e w2 ⟨rfl,e7⟩;have l:=f.o.still e7;have f6:=l.R.here.c1;have f9:=l.R.here.thaw 1;replace l:=q_ l)
      |(go_at_call 40;refine(y4_ 61 (l.o.R.inc Z).1 rfl (by decide)).mono ?_;rintro e w3 ⟨rfl,F,a8⟩;rw[if_neg b7] at F;have A:=(l.o.call (l.o.R.inc Z).1 (l.o.R.inc Z).2).call F a8;have e0:=A.R.here.c2;clear F a8;replace A:=q_ A))
     first|go_end0|refine bodyPost_ret (results_none rfl _ _ _) rfl ?_
     rw[G.o];exact⟨rfl,zab (zca L.o) A.o.R A.o.st A.o.XX⟩
   ·have e3:y5_ s 6 0=.ok (ds,j):=by
     rw[b8]
     by_cases hn:n=6
     ·subst hn
      simp[y5_,zah]
     ·rw[show 6-n=(5-n)+1 by omega,zbs,if_neg (λ h=>d0 ⟨by omega,by have:=h.1;rw[hc] at this;simp only[z5_,a1_,decide_eq_true_eq] at this;exact this,h.2⟩)]
    replace e3:=q_ e3;replace M:=q_ M;replace hc:=q_ hc;have d1:H_ (∀ q,Calls prog 39 #[.pointer (some ⟨br,0,none⟩)] (wr.drewN q) λ e w'=>e=.returned (.int .u8 (c:Int))/\∃ m,w'=(wr.drewN q).drewN m):=λ q=>z3_ (M.o.R.still (zd_.drewN wr q)) hc.o
    have d2:H_ (∀ (q:Nat) (b:Bool),(decide ((65:Int)<=(c:Int))&&decide ((c:Int)<=70))=b->Calls prog 38 #[.int .u8 (c:Int),.int .u8 65,.int .u8 70] (wr.drewN q) λ e w'=>e=.returned (.bool b)/\w'=wr.drewN q):=λ q b hb=>by rw[<- hb];exact yz_ _ _ _ _
    clear b8;obtain⟨b9,T⟩:∃ b,(decide ((65:Int)<=(c:Int))&&decide ((c:Int)<=70))=b:=⟨_,rfl⟩
    have g8:decide ((n:Int)<6)=false\/((n:Int)<6/\b9=false)\/((n:Int)<6/\b9=true/\decide ((j:Int)+1<(s.size:Int))=false):=by
     by_cases h1:n<6
     ·by_cases h2:65<=c/\c<=70
      ·exact .inr (.inr ⟨by omega,by rw[<- T];simp;omega,decide_eq_false (by omega)⟩)
      ·exact .inr (.inl ⟨by omega,by rw[<- T];simp;omega⟩)
     ·exact .inl (decide_eq_false (by omega))
    have a0:=q_ (zlw e3.o);have j3:=M.o.D.1;obtain⟨rt,f4⟩:∃ v,f1[30]?=some v:=⟨_,an_ (by omega)⟩;replace T:=q_ T;replace d0:=q_ d0;clear c2 g6;have c2:=M.o.R.here.c2
    rcases g8 with h1|⟨h1,h2⟩|⟨h1,h2,h3⟩
    all_goals try subst h2
    all_goals
     go_wp2_with fail
     go_quiet (first|(go_at_call 39;exact Calls.quiet_of (d1.o _))|(go_at_call 38;exact Calls.quiet_of_same (d2.o _ _ T.o)))
     go_wp2_with fail
     have f:=M.o.still (zd_.drewN wr nq);generalize wr.drewN nq=W1 at f⊢;clear c0 c1 c2;have c3:=f.R.here.c3;have hT:=q_ (zva f.R.il _ _ _ _ _ _ _ _ _ _ _ _ (f.R.still (zd_.drew W1)))
     cases H:pT s j with
     | error k=>
      rw[H] at a0;replace H:=q_ H;refine zx_ 8 (λ W=>W.cell? ⟨br,3,none⟩=some (.pointer (some ⟨bz,0,none⟩))) (by kernel_rfl) ?_;refine tb_ 0 rfl (by kernel_rfl) (λ _ _ _ h=>h) (by rfl) (by intro W d;go_simp<;>rfl) ?_;refine tb_ 1 rfl (by kernel_rfl) (λ _ _ _ h=>h) (by rfl) (by intro W d;go_simp<;>rfl) ?_;refine tb_ 2 rfl (by kernel_rfl) (λ _ _ _ h=>h) (by rfl) (by intro W d;go_simp<;>rfl) ?_;refine tb_ 3 rfl (by kernel_rfl) (λ _ _ _ h=>h) (by rfl) (by intro W d;go_simp<;>rfl) ?_;refine tb_ 4 rfl (by kernel_rfl) (λ _ _ _ h=>h) (by rfl) (by intro W d;go_simp<;>rfl) ?_;refine ze_ 5 rfl (by kernel_rfl) (λ _=>c3) (λ K a=>?_);go_simp;refine hT.o.mono ?_;intro e V S;unfold ym_ at S;rw[H.o] at S;obtain⟨⟨v,rfl⟩,j4,j7,j8,h6,u8,C,i9,d7⟩:=S;refine a _ _ ?_;clear a K;have Q:=C.here.c3
      have h7:V.cell? ⟨bz,31,none⟩=some rt:=by rw[C.z.cell];exact f4
      have g1:=C.z.thaw 31;have S9:=q_ ((f.st.still (zd_.drew W1)).trans (d7.trans (C.setZ 30 (.int .i64 (v:Int))).2));have E:=(C.setZ 30 (.int .i64 (v:Int))).1;have a6:=f.XX;refine ze_ 6 rfl (by kernel_rfl) (λ _=>Q) (λ K a=>?_);go_simp;refine a _ _ ?_;clear a K;refine ze_ 7 rfl (by kernel_rfl) (λ _=>Q) (λ K a=>?_);go_simp;refine a _ _ ?_;clear a K;refine ze_ 8 rfl (by kernel_rfl) (λ _=>Q) (λ K a=>?_);go_simp;refine a _ _ ?_;clear a K;refine zq_ (by kernel_rfl) (λ hm=>absurd hm (by decide)) ?_ _;obtain⟨f5,f7,f8⟩:=E.here.d3;have g0:=E.here.thaw 2
      by_cases e4:k<s.size
      ·have e5:(k:Int)<(s.size:Int):=by omega
       go_wp2_with fail
       go_quiet (fail)
       go_wp2_with fail
       first|go_end0|refine bodyPost_ret (results_none rfl _ _ _) rfl ?_
       rw[G.o];refine⟨rfl,?_⟩;have key:=λ (W:World) (d:zd_ (V.setCell ⟨bz,30+1,none⟩ (.int .i64 (v:Int))) W)=>zab (wr:=wg) (mx:=mx) a0.o (E.still d).spoil.1 ((S9.o.still d).trans (E.still d).spoil.2) a6;exact key _ (by first|exact zd_.drewN _ _|exact(zd_.drewN _ _).trans (zd_.drewN _ _)|exact((zd_.drewN _ _).trans (zd_.drewN _ _)).trans (zd_.drewN _ _))
      ·have e5:¬ (k:Int)<(s.size:Int):=by omega
       go_wp2_with fail
       go_quiet (fail)
       go_wp2_with fail
       first|go_end0|refine bodyPost_ret (results_none rfl _ _ _) rfl ?_
       rw[G.o];refine⟨rfl,?_⟩;have key:=λ (W:World) (d:zd_ (V.setCell ⟨bz,30+1,none⟩ (.int .i64 (v:Int))) W)=>zab (wr:=wg) (mx:=mx) a0.o (E.still d) (S9.o.still d) a6;exact key _ (by first|exact zd_.drewN _ _|exact(zd_.drewN _ _).trans (zd_.drewN _ _)|exact((zd_.drewN _ _).trans (zd_.drewN _ _)).trans (zd_.drewN _ _))
     | ok q=>
      obtain⟨t,j'⟩:=q;rw[H] at a0;replace H:=q_ H;refine zx_ 8 (λ W=>W.cell? ⟨br,3,none⟩=some (.pointer (some ⟨bz,0,none⟩))) (by kernel_rfl) ?_;refine tb_ 0 rfl (by kernel_rfl) (λ _ _ _ h=>h) (by rfl) (by intro W d;go_simp<;>rfl) ?_;refine tb_ 1 rfl (by kernel_rfl) (λ _ _ _ h=>h) (by rfl) (by intro W d;go_simp<;>rfl) ?_;refine tb_ 2 rfl (by kernel_rfl) (λ _ _ _ h=>h) (by rfl) (by intro W d;go_simp<;>rfl) ?_;refine tb_ 3 rfl (by kernel_rfl) (λ _ _ _ h=>h) (by rfl) (by intro W d;go_simp<;>rfl) ?_;refine tb_ 4 rfl (by kernel_rfl) (λ _ _ _ h=>h) (by rfl) (by intro W d;go_simp<;>rfl) ?_;refine ze_ 5 rfl (by kernel_rfl) (λ _=>c3) (λ K a=>?_);go_simp;refine hT.o.mono ?_;intro e V S;unfold ym_ at S;rw[H.o] at S;obtain⟨rfl,h6,u8,C,d7⟩:=S;refine a _ _ ?_;clear a K;have Q:=C.here.c3
      have h7:V.cell? ⟨bz,31,none⟩=some rt:=by rw[C.z.cell];exact f4
      have g1:=C.z.thaw 31;obtain⟨v,hv⟩:∃ v:Nat,v=(accT 0 ds).length+(flat (accT 0 ds).length t).length-1:=⟨_,rfl⟩;rw[<- hv];replace hv:=q_ hv;have S8:=(f.st.still (zd_.drew W1)).trans d7;have D8:=(f.D.step f.R (Step.ofStill (zd_.drew W1))).step (f.R.still (zd_.drew W1)) d7;have S9:=q_ (S8.trans (C.setZ 30 (.int .i64 (v:Int))).2);have D9:=q_ ((D8.step C (C.setZ 30 (.int .i64 (v:Int))).2).root (.int .i64 (v:Int)));have E:=(C.setZ 30 (.int .i64 (v:Int))).1;have a6:=f.XX;have g7:=q_ (show(f1.set 30 (.int .i64 (v:Int)))[30]?=some (.int .i64 (v:Int)) by simp[List.getElem?_set];omega);refine ze_ 6 rfl (by kernel_rfl) (λ _=>Q) (λ K a=>?_);go_simp;refine a _ _ ?_;clear a K;refine ze_ 7 rfl (by kernel_rfl) (λ _=>Q) (λ K a=>?_);go_simp;refine a _ _ ?_;clear a K;refine ze_ 8 rfl (by kernel_rfl) (λ _=>Q) (λ K a=>?_);go_simp;refine a _ _ ?_;clear a K;refine zq_ (by kernel_rfl) (λ hm=>absurd hm (by decide)) ?_ _;obtain⟨f5,f7,f8⟩:=E.here.d3;have g0:=E.here.thaw 2
      by_cases e4:j'<s.size
      ·have e5:(j':Int)<(s.size:Int):=by omega
       go_wp2_with fail
       go_quiet (fail)
       go_wp2_with fail
       first|go_end0|refine bodyPost_ret (results_none rfl _ _ _) rfl ?_
       rw[G.o];refine⟨rfl,?_⟩;have key:=λ (W:World) (d:zd_ (V.setCell ⟨bz,30+1,none⟩ (.int .i64 (v:Int))) W)=>zab (wr:=wg) (mx:=mx) (by rw[a0.o,if_pos e4]) (E.still d).spoil.1 ((S9.o.still d).trans (E.still d).spoil.2) a6;exact key _ (by first|exact zd_.drewN _ _|exact(zd_.drewN _ _).trans (zd_.drewN _ _)|exact((zd_.drewN _ _).trans (zd_.drewN _ _)).trans (zd_.drewN _ _))
      ·have e5:¬ (j':Int)<(s.size:Int):=by omega
       go_wp2_with fail
       go_quiet (fail)
       go_wp2_with fail
       first|go_end0|refine bodyPost_ret (results_none rfl _ _ _) rfl ?_
       rw[G.o];refine⟨rfl,?_⟩;have key:=λ (W:World) (d:zd_ (V.setCell ⟨bz,30+1,none⟩ (.int .i64 (v:Int))) W)=>ztd (wr:=wg) (mx:=mx) (j':=j') a0.o e4 E.il ⟨E.still d,D9.o.step E (Step.ofStill d),a6,S9.o.still d⟩ (hv.o▸g7.o);exact key _ (by first|exact zd_.drewN _ _|exact(zd_.drewN _ _).trans (zd_.drewN _ _)|exact((zd_.drewN _ _).trans (zd_.drewN _ _)).trans (zd_.drewN _ _))
  ·obtain⟨k,Xk,f1,tv',u',j9,MX,TS,US,R1,f0,g2,e6⟩:=hC;have c2:=R1.here.c2;replace e6:=q_ e6;replace R1:=q_ R1;replace f0:=q_ f0;have key:=q_ (λ (W:World) (d:zd_ wr W)=>zab (wr:=wg) (mx:=mx) e6.o (R1.o.still d) (f0.o.still d) g2)
   by_cases hn:n<6
   ·have g5:(n:Int)<6:=by omega
    go_wp2_with fail
    go_quiet (fail)
    go_wp2_with fail
    first|go_end0|refine bodyPost_ret (results_none rfl _ _ _) rfl ?_
    rw[G.o];exact⟨rfl,key.o _ (by first|exact zd_.drewN _ _|exact(zd_.drewN _ _).trans (zd_.drewN _ _)|exact((zd_.drewN _ _).trans (zd_.drewN _ _)).trans (zd_.drewN _ _))⟩
   ·have g5:decide ((n:Int)<6)=false:=decide_eq_false (by omega)
    go_wp2_with fail
    go_quiet (fail)
    go_wp2_with fail
    first|go_end0|refine bodyPost_ret (results_none rfl _ _ _) rfl ?_
    rw[G.o];exact⟨rfl,key.o _ (by first|exact zd_.drewN _ _|exact(zd_.drewN _ _).trans (zd_.drewN _ _)|exact((zd_.drewN _ _).trans (zd_.drewN _ _)).trans (zd_.drewN _ _))⟩
end Go.Proofs.YtiifagiebikmdaaGreatDoor
