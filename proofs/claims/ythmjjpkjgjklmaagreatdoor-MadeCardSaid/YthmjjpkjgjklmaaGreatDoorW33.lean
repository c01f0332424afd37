import Derived.Test.YthmjjpkjgjklmaaGreatDoorW32
import Derived.Test.YthmjjpkjgjklmaaGreatDoorW26
import Derived.Test.YthmjjpkjgjklmaaGreatDoorW18
import Derived.Test.YthmjjpkjgjklmaaGreatDoorW13
import Derived.Test.YthmjjpkjgjklmaaGreatDoorW25
import Derived.Test.YthmjjpkjgjklmaaGreatDoorA00
set_option maxHeartbeats 16000000
set_option maxRecDepth 100000
set_option linter.unusedSimpArgs false
open Go.Proofs.Tryz
namespace Go.Proofs.YthmjjpkjgjklmaaGreatDoor
open Go.RowKit
variable {pt:Int}{c:Nat}
section
variable {w0 w:World} {P:Nat->Prop} {ss:BA} {ds:List PD} {sv rv:Value} {xs:List Value} {s:BA} {E:WErr} {br i n:Nat}
theorem zpa {l:List PT}{p f:Nat}{bv:Value}{X:Nat->Value}(hI:yi_ w0) (M:YC w0 P ss ds sv rv xs s E br i n w) (hn:n<=300) (hl:l.length<=4000) (ho:w.ownsRow 0 88 1 bv l.length ((List.range l.length).map X)) (hP:∀ g,bv.ownBlock=some g->P g) (hX:∀ i t,l[i]?=some t->TyV w P t (X i)) (hR:∀ t∈l,∀ j,j<=s.size->DatY w0 P ss ds sv rv xs s E br f t j n) :
 Calls prog 138 #[.pointer (some ⟨br,0,none⟩),.agg #[.int .i64 pt,bv]] w (yx_ (za_ ds) (.alts p l) w sv rv s E br (j8_ (rdB s (za_ ds) f) s l i n)):=by
 refine hq_ λ POST Q_=>?_;have hbl:=M.lt;have hnb:=M.brP;obtain⟨fa,fc,rfl⟩:=zf_ ho;have A:Fr w (w.alloc (.cells #[.int .i64 pt,.slice fa l.length fc] 258)) (λ _=>False):=(Fr.refl w _).alloc _;have M0:=M.new A;have B0:=Blk.new w #[.int .i64 pt,.slice fa l.length fc] 258;have hC:=zfk hl M0.R M0.hs M0.il M0.err;have hsl:=M.hs;unfold j8_ at Q_
 cases hb:bNum s 0 ((l.length:Int)-1) i with
 | none=>
  rw[hb] at hC Q_;replace hC:=q_ hC;replace A:=q_ A;clear M M0 B0 hb ho hX hR hP
  go_in
  go_wp2_with (go_at_call 188;refine hC.o.mono ?_;rintro e w1 ⟨hf1,rfl,j,hj,h1⟩;replace hf1:=q_ hf1;replace h1:=q_ h1)
  try go_ret
  rw[Q_.o];exact ybad ((A.o.mono v_).trans hf1.o u_) ⟨j,n,h1.o,hj⟩
 | some q=>
  obtain⟨v,j⟩:=q;have hg:=y7_ hb;obtain⟨k,rfl⟩:∃ m:Nat,v=(m:Int):=⟨v.toNat,by omega⟩;rw[hb] at hC Q_;simp only[bc_] at Q_
  have hkl:k<l.length:=by omega
  have hk4:k<=4000:=by omega
  have hki:(k:Int)<(l.length:Int):=by omega
  have hd:l[k]?=some l[k]:=am_ hkl;have hmem:l[k]∈l:=bd_ hkl;rw[hd] at Q_;have hsub:H_ (yb_ (za_ ds) (.alts p l) k 0=l[k]):=q_ (by simp[yb_,aq_,hd]);generalize l[k]=t at hd hmem Q_ hsub;simp only at Q_;have hT:=hX k t hd;obtain⟨T,x,hx⟩:=hT.iface;obtain⟨g,cap,hgc⟩:=zk_ ho (by omega);cases hgc;have hfac:H_ (∀ w1,Fr w w1 (· = br)->w1.cell? ⟨g,k,none⟩=some (.iface T x)/\TyV w1 P t (.iface T x)):=q_ (λ w1 hf=>⟨by rw[zs_ (zb_ ho hf (λ g' hg e=>hnb (e▸hP g' hg))) rfl (k:=k) (x:=X k) (by simp[hkl]),hx],hx▸hT.fr hf (λ g' hg e=>hnb (e▸hg))⟩);have hnx:=q_ (λ w1 (h1:RwAt w1 br sv rv s j n) (hf:Fr w w1 (· = br))=>hR t hmem j (by omega) w1 _ (M.call h1 hf (by omega)) hn (hfac.o w1 hf).2);have hB:=q_ (λ w1 (hf:Fr (w.alloc (.cells #[.int .i64 pt,.slice (some ⟨g,0,none⟩) l.length fc] 258)) w1 (· = br))=>hf.blk B0 (by omega));replace hC:=q_ hC;replace A:=q_ A;have hG:=q_ (λ w1 (h1:RwAt w1 br sv rv s j n) (hf:Fr w w1 (· = br))=>M.call h1 hf (by omega));clear M M0 hb ho hX hR hP hT hx hmem hd B0
  cases hrd:rdB s (za_ ds) f t j n with
  | error e0=>
   rw[hrd] at Q_ hnx
   go_in
   go_wp2_with (first
    |(go_at_call 188;refine hC.o.mono ?_;rintro e w1 ⟨hf1,rfl,hj,h1⟩;have F1:=(A.o.mono (T:=λ g=>g=br) v_).trans hf1 u_;have c1:=(hfac.o w1 F1).1;have b1:=(hB.o w1 hf1).c1;have hD:=q_ (hnx.o w1 h1 F1);have hM:=q_ (hG.o w1 h1 F1);replace F1:=q_ F1;clear hf1 h1)
    |(go_at_call 62;refine hD.o.mono ?_;rintro e w2 ⟨v2,ev2,rfl,hf2,hv2,hE2,hR2⟩;subst hv2;obtain⟨eT,ex,rfl⟩:=hE2.iface;have hG2:=(hM.o.call hR2.choose_spec.choose_spec.1 hf2 hR2.choose_spec.choose_spec.2).G;have hz:=q_ hf2.size;replace hE2:=q_ hE2;replace hf2:=q_ hf2;replace hR2:=q_ hR2)
    |(go_at_call 189;refine(zbg (n:=k) hI hG2 hk4).mono ?_;rintro e w3 hW3;have hE3:=q_ (λ v (he:e=.returned v)=>hE2.o.wrap hW3 (by have:=hz.o;omega) he);obtain⟨g3,tx3,rfl,hg3,hb3,hf3⟩:=hW3;replace hf3:=q_ hf3;replace hb3:=q_ hb3))
   try go_ret
   rw[Q_.o];refine⟨_,_,rfl,(F1.o.trans hf2.o u_).trans (hf3.o.mono v_) u_,rfl,(hE3.o _ rfl).less (by have:=F1.o.size;omega),?_⟩;obtain⟨j2,m2,h1,h2⟩:=hR2.o;exact⟨j2,m2,hf3.o.blk h1 id,h2⟩
  | ok q=>
   obtain⟨d,j2,m2⟩:=q;rw[hrd] at Q_ hnx
   go_in
   go_wp2_with (first
    |(go_at_call 188;refine hC.o.mono ?_;rintro e w1 ⟨hf1,rfl,hj,h1⟩;have F1:=(A.o.mono (T:=λ g=>g=br) v_).trans hf1 u_;have c1:=(hfac.o w1 F1).1;have b1:=(hB.o w1 hf1).c1;have hD:=q_ (hnx.o w1 h1 F1);replace F1:=q_ F1;clear hf1 h1)
    |(go_at_call 62;refine hD.o.mono ?_;rintro e w2 ⟨v2,ev2,rfl,hf2,hv2,hD2,hR2,hj2⟩;subst hv2;obtain⟨dT,dx,rfl⟩:=hD2.iface;replace hD2:=q_ hD2;replace hf2:=q_ hf2;replace hR2:=q_ hR2))
   try go_ret
   rw[Q_.o];have hz:=F1.o.size;refine yok (.branch k hk4 ?_) (F1.o.trans hf2.o u_) hR2.o hj2;rw[hsub.o];exact hD2.o.mono (λ g _ hg=>by omega)
theorem zl9 {l:List (Nat×Nat)}{t:PT}{bv:Value}{dd:Option Addr}(M:YC w0 P ss ds sv rv xs s E br i n w) (hl:l.length<=300) (hsm:∀ q∈l,zn_ q.1=true) (ho:w.ownsRow 0 217 2 bv l.length (yg_ l)) (hP:∀ g,bv.ownBlock=some g->P g) (hsy:∀ k,symL (za_ ds) t k=(l.map Prod.fst).getD k 0) :
 Calls prog 140 #[.pointer (some ⟨br,0,none⟩),.agg #[.int .i64 pt,bv,.pointer dd]] w (yx_ (za_ ds) t w sv rv s E br (match bNum s 0 ((l.length:Int)-1) i with|none=>.error 6|some (q,j)=>.ok (.mk 101 q noB [] [],j,n))):=by
 refine hq_ λ POST Q_=>?_;have hbl:=M.lt;have hnb:=M.brP;obtain⟨fa,fc,rfl⟩:=zf_ ho;have A:Fr w (w.alloc (.cells #[.int .i64 pt,.slice fa l.length fc,.pointer dd] 268)) (λ _=>False):=(Fr.refl w _).alloc _;have M0:=M.new A;have B0:=Blk.new w #[.int .i64 pt,.slice fa l.length fc,.pointer dd] 268;have hC:=zfk (m:=l.length) (by omega) M0.R M0.hs M0.il M0.err;have hsl:=M.hs
 cases hb:bNum s 0 ((l.length:Int)-1) i with
 | none=>
  rw[hb] at hC Q_;replace hC:=q_ hC;replace A:=q_ A;clear M M0 B0 hb ho hP hsy
  go_in
  go_wp2_with (go_at_call 188;refine hC.o.mono ?_;rintro e w1 ⟨hf1,rfl,j,hj,h1⟩;replace hf1:=q_ hf1;replace h1:=q_ h1)
  try go_ret
  rw[Q_.o];exact ybad ((A.o.mono v_).trans hf1.o u_) ⟨j,n,h1.o,hj⟩
 | some q=>
  obtain⟨v,j⟩:=q;have hg:=y7_ hb;obtain⟨k,rfl⟩:∃ m:Nat,v=(m:Int):=⟨v.toNat,by omega⟩;rw[hb] at hC Q_
  have hkl:k<l.length:=by omega
  have hk4:k<=4000:=by omega
  have hki:(k:Int)<(l.length:Int):=by omega
  have hd:l[k]?=some l[k]:=am_ hkl;have hmem:l[k]∈l:=bd_ hkl
  have hsu:symL (za_ ds) t k=l[k].1:=by rw[hsy k];simp[aq_,hd]
  generalize l[k]=c at hd hmem hsu;obtain⟨cl,cp⟩:=c;have hcs:=hsm _ hmem;obtain⟨kk,hkk,hk26⟩:=zb9 hcs;simp only at hsu hkk
  have hc2:cl<256:=by omega
  obtain⟨g,cap,hgc⟩:=zk_ ho (by omega);cases hgc;have hfac:H_ (∀ w1,Fr w w1 (· = br)->w1.cell? ⟨g,k*2+1,none⟩=some (.int .u8 (cl:Int))):=q_ (λ w1 hf=>zs_ (zb_ ho hf (λ g' hg e=>hnb (e▸hP g' hg))) rfl (xp_ hd).2);have hB:=q_ (λ w1 (hf:Fr (w.alloc (.cells #[.int .i64 pt,.slice (some ⟨g,0,none⟩) l.length fc,.pointer dd] 268)) w1 (· = br))=>hf.blk B0 (by omega));replace hC:=q_ hC;replace A:=q_ A;replace hsu:=q_ hsu;replace hkk:=q_ hkk;clear M M0 hb ho hP hmem hd B0 hsy hsm hcs
  go_in
  go_wp2_with (go_at_call 188;refine hC.o.mono ?_;rintro e w1 ⟨hf1,rfl,hj,h1⟩;have F1:=(A.o.mono (T:=λ g=>g=br) v_).trans hf1 u_;have c1:=(hfac.o w1 F1);have b1:=(hB.o w1 hf1).c1;replace F1:=q_ F1;replace h1:=q_ h1;clear hf1)
  try go_ret
  rw[Q_.o];refine yok (.flat (.sym k cl hk4) (λ n' l' e=>?_)) F1.o h1.o hj
  injection e with _ e
  injection e with e
  have e2:=congrArg (λ a=>a.toList) e;simp only[List.cons.injEq,Value.int.injEq,true_and,and_true] at e2;obtain⟨e3,e4⟩:=e2
  have e5:cl=l':=by omega
  have e6:k=n':=by omega
  subst e5;subst e6;exact⟨hsu.o,hc2⟩
theorem zpc {k:Nat}{t:PT}(M:YC w0 P ss ds sv rv xs s E br i n w) (hk:k<=9) :
 Calls prog 141 #[.pointer (some ⟨br,0,none⟩),.agg #[.int .i64 pt,.int .i64 (k:Int)]] w (yx_ (za_ ds) t w sv rv s E br (match j7_ s i k with|none=>.error 6|some (tx,j)=>.ok (.mk 102 0 tx [] [],j,n))):=by
 refine hq_ λ POST Q_=>?_;have A:Fr w (w.alloc (.cells #[.int .i64 pt,.int .i64 (k:Int)] 271)) (λ _=>False):=(Fr.refl w _).alloc _;have M0:=M.new A;have hC:=zd6 (m:=k) M0.R M0.hs M0.il (by omega) M0.err;have hsl:=M.hs;have hil:=M.il;clear M M0;replace A:=q_ A
 cases hb:j7_ s i k with
 | none=>
  rw[hb] at hC Q_;replace hC:=q_ hC;clear hb
  go_in
  go_wp2_with (go_at_call 191;refine hC.o.mono ?_;rintro e w1 ⟨hf1,rfl,j,hj,h1⟩;replace hf1:=q_ hf1;replace h1:=q_ h1)
  try go_ret
  rw[Q_.o];exact ybad ((A.o.mono v_).trans hf1.o u_) ⟨j,n,h1.o,hj⟩
 | some q=>
  obtain⟨tx,j⟩:=q;have hg:=zbw hil hb;rw[hb] at hC Q_;replace hC:=q_ hC;clear hb
  go_in
  go_wp2_with (go_at_call 191;refine hC.o.mono ?_;rintro e w1 ⟨hf1,rfl,hj,h1⟩;replace hf1:=q_ hf1;replace h1:=q_ h1)
  try go_ret
  rw[Q_.o];exact yok (DaV.plain (.bytes tx (by omega)) (by decide)) ((A.o.mono v_).trans hf1.o u_) h1.o hj
end
open Go.RowKit
def z0r (R_:Except Nat (List DT×Nat×Nat)) (R:PT->Nat->Nat->Except Nat (DT×Nat×Nat)) (fs:List PF) (n:Nat) (w0:World) (P:Nat->Prop) (ss:BA) (ds:List PD) (sv rv:Value) (xs:List Value) (s:BA) (E:WErr) (br:Nat) (cx:List Value) (ct:TypeId) (t:PT) (w:World) (q:Nat) (v6 v14:Value) (W:World):Prop:=
 ∃ (l:List DT) (j nn:Nat),v14=.int .i64 (l.length:Int)/\l.length<=fs.length/\n<=nn/\nn<=300/\302<=q+l.length/\H_ (YL w0 P ss ds sv rv xs s E br j nn cx ct t w v6 l W)/\R_=zh1 l (yq_ R ((fs.map PF.ty).drop l.length) j nn)
section
variable {w0 w:World} {P:Nat->Prop} {ss:BA} {ds:List PD} {sv rv:Value} {xs:List Value} {s:BA} {E:WErr} {br i n:Nat}
def recI:Except Nat (List DT×Nat×Nat)->Except Nat (DT×Nat×Nat)
 | .error e=>.error e
 | .ok (l,j,m)=>.ok (.mk 114 0 noB [] l,j,m)
theorem zma {fs:List PF}{t:PT}{f:Nat}{fv:Value}{zs:List Value}(M:YC w0 P ss ds sv rv xs s E br i n w) (hn:n<=300) (hF:vj_ w P ss fs fv zs) (hsm:∀ g∈fs,zn_ g.letter=true) (hlen:fs.length<=300) (hsub:∀ k g,fs[k]?=some g->yb_ (za_ ds) t 0 k=g.ty) (hR:∀ g∈fs,∀ j nn,n<=nn->nn<=300->j<=s.size->DatY w0 P ss ds sv rv xs s E br f g.ty j nn) :
 Calls prog 139 #[.pointer (some ⟨br,0,none⟩),.agg #[.int .i64 pt,fv]] w (yx_ (za_ ds) t w sv rv s E br (recI (yq_ (rdB s (za_ ds) f) (fs.map PF.ty) i n))):=by
 refine hq_ λ POST Q_=>?_;have hsl:=M.hs;have hbl:=M.lt;have hnb:=M.brP;obtain⟨fa,fc,rfl⟩:=zf_ hF.row;have A:Fr w (w.alloc (.cells #[.int .i64 pt,.slice fa fs.length fc] 263)) (λ _=>False):=(Fr.refl w _).alloc _;have M0:=M.new A;have B0:=Blk.new w #[.int .i64 pt,.slice fa fs.length fc] 263;obtain⟨R_,hRES⟩:∃ r,r=yq_ (rdB s (za_ ds) f) (fs.map PF.ty) i n:=⟨_,rfl⟩;rw[<- hRES] at Q_;have start:H_ (z0r R_ (rdB s (za_ ds) f) fs n w0 P ss ds sv rv xs s E br [.int .i64 pt,.slice fa fs.length fc] 263 t w 302 (.slice none 0 0) (.int .i64 0) (w.alloc (.cells #[.int .i64 pt,.slice fa fs.length fc] 263))):=q_ ⟨[],i,n,rfl,by simp,l_,hn,by simp,q_ ⟨M0,A.mono v_,B0,by simp,hbl,RowT.nil _ _ _ _ _⟩,by rw[zq9,hRES];rfl⟩;replace hRES:=q_ hRES;replace hR:=q_ hR;replace hF:=q_ hF;replace hsm:=q_ hsm;replace hsub:=q_ hsub;have hb1:=B0.c1;clear M M0 A B0
 go_in
 go_wp2_with fail
 go_loopg [6,8,9,10,14] 302 (λ q v6 v8 v9 v10 v14 W=>z0r R_ (rdB s (za_ ds) f) fs n w0 P ss ds sv rv xs s E br [.int .i64 pt,.slice fa fs.length fc] 263 t w q v6 v14 W)
 case atStart=>exact start.o
 case round=>
  clear start hb1;obtain⟨l,j,nn,rfl,hkc,hnn,hnn3,hq,hQ,hres⟩:=hrel;obtain⟨Y,hrow,hY⟩:=hQ.o.row;obtain⟨la,lc,rfl⟩:=zf_ hrow
  by_cases hend:l.length=fs.length
  ·have hlt:¬ (l.length:Int)<(fs.length:Int):=by omega
   have hr:=q_ (show R_=.ok (l,j,nn) by rw[hres,List.drop_of_length_le (by simp;omega)];simp[yq_,zh1]);have hQr:=q_ hQ.o.row;clear hres hrow hY hend
   go_wp2_with fail
   try go_ret
   rw[Q_.o,hr.o];refine yok ?_ hQ.o.fr hQ.o.M.R hQ.o.M.il;exact hQr.o.dat (λ g _ hg=>by omega) (λ g e=>by have:=hQr.o;obtain⟨_,a,_⟩:=this;have:=(a.lt g e).1;show w.heap.size<=g;omega) (.inr ⟨rfl,rfl⟩)
  ·have hlt:(l.length:Int)<(fs.length:Int):=by omega
   have hkl:l.length<fs.length:=by omega
   have hd:fs[l.length]?=some fs[l.length]:=am_ hkl;have hmem:fs[l.length]∈fs:=bd_ hkl
   have hdr:(fs.map PF.ty).drop l.length=fs[l.length].ty::(fs.map PF.ty).drop (l.length+1):=by
    rw[bh_ (by simpa using hkl),List.getElem_map]
   rw[hdr,znz] at hres;generalize fs[l.length]=g0 at hd hmem hres;have hFr:=hF.o.fr hQ.o.fr (λ g hg e=>hnb (e▸hg));obtain⟨gz,cap,hgc⟩:=zk_ hFr.row (by omega);cases hgc;obtain⟨T,x,d0,c0,c1,c2,c3,hT,hDf⟩:=hFr.cells hd;obtain⟨lt,hl0⟩:∃ l,g0.letter=l:=⟨_,rfl⟩;obtain⟨plq,hplq⟩:∃ q,g0.place=q:=⟨_,rfl⟩
   have hls:zn_ lt=true:=by rw[<- hl0];exact hsm.o _ hmem
   rw[hl0] at c1;rw[hplq] at c0;have hsb:=q_ (hsub.o _ _ hd);have A1:=(Fr.refl wr (λ _=>False)).alloc (.cells #[.int .i64 (plq:Int),.int .u8 (lt:Int),.iface T x,.pointer d0] 220);have N1:=Blk.new wr #[.int .i64 (plq:Int),.int .u8 (lt:Int),.iface T x,.pointer d0] 220
   have hz1:(wr.alloc (.cells #[.int .i64 (plq:Int),.int .u8 (lt:Int),.iface T x,.pointer d0] 220)).heap.size=wr.heap.size+1:=by simp
   have Q0:=hQ.o.call (A1.blk hQ.o.M.R id) (A1.mono v_) hQ.o.M.il;have hC:=hR.o _ hmem j nn hnn hnn3 hQ.o.M.il _ _ Q0.M hnn3 (hT.fr A1 u_);have hbB:=hQ.o.bB;have hlw:=hQ.o.lt
   have hL3:l.length<=300:=by omega
   replace hz1:=q_ hz1;replace N1:=q_ N1;replace Q0:=q_ Q0;clear hT hDf hFr hl0 hplq hdr hend
   cases hrd:rdB s (za_ ds) f g0.ty j nn with
   | error e0=>
    rw[hrd] at hres hC;have hr:=q_ hres;replace hC:=q_ hC;replace A1:=q_ A1;clear hrow hY hres hd hmem
    go_wp2_with (first
     |(go_at_call 62;refine hC.o.mono ?_;rintro e w1 ⟨v1,ev1,rfl,hf1,hv1,hE1,hR1⟩;subst hv1;obtain⟨eT,ex,rfl⟩:=hE1.iface;have n1:=(hf1.blk N1.o (by omega)).c1;have hz:=q_ hf1.size;replace hE1:=q_ hE1;replace hf1:=q_ hf1;replace hR1:=q_ hR1)
     |(go_at_call 190;refine(zch hls).mono ?_;rintro e w2 hW2;have hE2:=q_ (λ v (he:e=.returned v)=>hE1.o.wrap hW2 (by have:=hz.o;omega) he);obtain⟨g2,tx2,rfl,hg2,hb2,hf2⟩:=hW2;replace hf2:=q_ hf2;replace hb2:=q_ hb2))
    try go_ret
    rw[Q_.o,hr.o];refine⟨_,_,rfl,(Q0.o.fr.trans hf1.o u_).trans (hf2.o.mono v_) u_,rfl,(hE2.o _ rfl).less (by have:=Q0.o.fr.size;omega),?_⟩;obtain⟨j1,m1,h1,h2⟩:=hR1.o;exact⟨j1,m1,hf2.o.blk h1 id,h2⟩
   | ok q=>
    obtain⟨d,j1,m1⟩:=q;rw[hrd] at hres hC;have hgo:=zbm s (za_ ds) f g0.ty j nn d j1 m1 hQ.o.M.il hnn3 hrd;have hres':=q_ hres;replace hC:=q_ hC;have hY0:=q_ (λ i d (e:l[i]?=some d)=>(hY i d e).fr A1 u_);have hrow0:=q_ (zb_ hrow A1 u_);replace hrow:=q_ hrow;replace A1:=q_ A1;obtain⟨ti,hi1,hi2,hi3,hi4⟩:=info_parts zbu;clear hres hY hd hmem
    go_wp2_with (first
     |(go_at_call 62;refine hC.o.mono ?_;rintro e w1 ⟨v1,ev1,rfl,hf1,hv1,hD1,hR1,hj1⟩;subst hv1;obtain⟨dT,dx,rfl⟩:=hD1.iface;have Q1:=Q0.o.call hR1 hf1 hj1;have hb1:=Q1.bB;have hrow1:=q_ (zb_ hrow0.o hf1 (λ g hg e=>by have:=hrow0.o.lt g hg;omega));have hD1':=q_ (hD1.mono (Q:=λ g=>w.heap.size+1<=g/\(Value.slice la l.length lc).ownBlock≠some g) (λ g _ hg=>⟨by have:=hz1.o;omega,λ e=>by have:=hrow.o.lt g e;have:=hz1.o;omega⟩));have hY1:=q_ (λ i d (e:l[i]?=some d)=>(hY0.o i d e).fr hf1 (λ g hg e=>by have:=hg.1;omega));replace Q1:=q_ Q1;clear hD1 hR1 hf1)
     |(at_builtin;go_must (refine wpList_append_own_at _ rfl _ _ 176 rfl (w.heap.size+1) 94 ti _ 1 16 zro hi1 hi2 hi3 hi4 rfl (by decide) (.slice la l.length lc) l.length ((List.range l.length).flatMap λ i=>[Y i]) rfl ?hown _ 1 1 [.iface dT dx] rfl rfl (yh_ _ #[.iface dT dx] _ _ ?nn) ?one ?b1 ?b2 ?b3 ?_)
       case hown=>exact World.ownsRow.alloc hrow1.o _
       case nn=>simp
       case one=>simp[Value.oneCell']
       case b1=>unfold maxLen;omega
       case b2=>omega
       case b3=>simp;omega
       intro v5 w5 ho5 hg5 hn5 hl5
       have Q5:=Q1.o.item hY1.o (by rw[hsb.o];exact hD1'.o) hg5 ho5 hl5
       obtain⟨g5,cap5,rfl⟩:=zk_ ho5 (by omega)
       clear hg5 hl5 hn5 ho5
       replace Q5:=q_ Q5))
    go_roundg (302-(l.length+1))
    case measure=>omega
    case rel=>
     refine⟨l++[d],j1,m1,by simp,by simp;omega,by omega,hgo.2.2.2,by simp;omega,Q5,?_⟩;rw[hres'.o,al_,ai_]
end
open Go.RowKit
def bodB (s:BA) (env:Nat->Option PB) (f:Nat) (t:PT) (i n:Nat):Except Nat (DT×Nat×Nat):=
 match t with
 | .leaf c _=>zag (rdB s env f) s env c i n
 | .wrap c _ t=>zdf (rdB s env f t) s c i n
 | .alts _ ts=>j8_ (rdB s env f) s ts i n
theorem zvm (s:BA) (env:Nat->Option PB) (f:Nat) (t:PT) (i n:Nat):rdB s env (f+1) t i n=if 300<=n then .error 7 else bodB s env f t i (n+1):=by
 cases t<;>(rw[rdB];rfl)
theorem zy1 (s:BA) (i:Nat):bNum s (-9223372036854775808) 9223372036854775807 i=bL s i:=by
 unfold bNum
 cases h:bL s i with
 | none=>rfl
 | some q=>
  obtain⟨z,j⟩:=q;have:=zi6 h;simp only;rw[if_pos ⟨this.2.2.1,this.2.2.2⟩]
def BodY (w0:World) (P:Nat->Prop) (ss:BA) (ds:List PD) (sv rv:Value) (xs:List Value) (s:BA) (E:WErr) (br f:Nat) (t:PT) (i n:Nat):Prop:=
 ∀ (w:World) (v:Value),YC w0 P ss ds sv rv xs s E br i n w->n<=300->TyV w P t v->
  Calls prog 90 #[.pointer (some ⟨br,0,none⟩),v] w (yx_ (za_ ds) t w sv rv s E br (bodB s (za_ ds) f t i n))
def DefY (w0:World) (P:Nat->Prop) (ss:BA) (ds:List PD) (sv rv:Value) (xs:List Value) (s:BA) (E:WErr) (br f c p:Nat) (b:PB) (i n:Nat):Prop:=
 ∀ (w:World) (v:Value),YC w0 P ss ds sv rv xs s E br i n w->n<=300->xo_ w P ss b v->
  Calls prog 90 #[.pointer (some ⟨br,0,none⟩),v] w (yx_ (za_ ds) (.leaf c p) w sv rv s E br (vv_ (rdB s (za_ ds) f) s b i n))
section
variable {w0:World} {P:Nat->Prop} {ss:BA} {ds:List PD} {sv rv:Value} {xs:List Value} {s:BA} {E:WErr} {br i n:Nat} {f p:Nat}
theorem zyy:BodY w0 P ss ds sv rv xs s E br f (.leaf 110 p) i n:=by
 intro w v M hn hT
 obtain rfl:v=.iface 244 (.agg #[.int .i64 (p:Int)]):=by
  cases hT with
  | base _ _ h=>rfl
  | name _ _ h=>exact absurd h (by decide)
 refine hq_ λ POST Q_=>?_;unfold bodB at Q_;simp only at Q_;unfold zag at Q_;have A:Fr w (w.alloc (.cells #[.int .i64 (p:Int)] 244)) (λ _=>False):=(Fr.refl w _).alloc _;have M0:=M.new A;rw[if_pos rfl] at Q_;replace M0:=q_ M0;replace A:=q_ A;clear M hT;have a0:=jm_
 go_in
 go_wp2_with fail
 try go_ret
 rw[Q_.o];exact yok (DaV.plain .nothing (by decide)) (A.o.mono v_) M0.o.R M0.o.il
theorem zyw:BodY w0 P ss ds sv rv xs s E br f (.leaf 116 p) i n:=by
 intro w v M hn hT
 obtain rfl:v=.iface 245 (.agg #[.int .i64 (p:Int)]):=by
  cases hT with
  | base _ _ h=>rfl
  | name _ _ h=>exact absurd h (by decide)
 refine hq_ λ POST Q_=>?_;unfold bodB at Q_;simp only at Q_;unfold zag at Q_;have A:Fr w (w.alloc (.cells #[.int .i64 (p:Int)] 245)) (λ _=>False):=(Fr.refl w _).alloc _;have M0:=M.new A;rw[if_neg (by decide),if_pos rfl] at Q_;have hC:=q_ (zpb (env:=za_ ds) (t:=.leaf 116 p) M0);replace A:=q_ A;clear M M0 hT;have a0:=zh_ 245 (by decide);have a1:=zau
 go_in
 go_wp2_with (go_at_call 133;refine hC.o.mono ?_;intro e w2 hN;obtain⟨v2,ev2,rfl,hN2⟩:=hN;replace hN2:=q_ hN2)
 try go_ret
 rw[Q_.o];exact yx_.pre A.o ⟨v2,ev2,rfl,hN2.o⟩
theorem zy0:BodY w0 P ss ds sv rv xs s E br f (.leaf 105 p) i n:=by
 intro w v M hn hT
 obtain rfl:v=.iface 247 (.agg #[.int .i64 (p:Int)]):=by
  cases hT with
  | base _ _ h=>rfl
  | name _ _ h=>exact absurd h (by decide)
 refine hq_ λ POST Q_=>?_;unfold bodB at Q_;simp only at Q_;unfold zag at Q_;have A:Fr w (w.alloc (.cells #[.int .i64 (p:Int)] 247)) (λ _=>False):=(Fr.refl w _).alloc _;have M0:=M.new A;rw[if_neg (by decide),if_neg (by decide),if_pos rfl] at Q_;have hC:=q_ (zd5 (env:=za_ ds) (t:=.leaf 105 p) (c:=105) (lo:=-2147483648) (up:=2147483647) (.inl rfl) M0);replace A:=q_ A;clear M M0 hT;have a0:=zh_ 247 (by decide);have a1:=zo_ 247 (by decide);have a2:=zdh
 go_in
 go_wp2_with (go_at_call 134;refine hC.o.mono ?_;intro e w2 hN;obtain⟨v2,ev2,rfl,hN2⟩:=hN;replace hN2:=q_ hN2)
 try go_ret
 rw[Q_.o];exact yx_.pre A.o ⟨v2,ev2,rfl,hN2.o⟩
theorem zyz:BodY w0 P ss ds sv rv xs s E br f (.leaf 108 p) i n:=by
 intro w v M hn hT
 obtain rfl:v=.iface 249 (.agg #[.int .i64 (p:Int)]):=by
  cases hT with
  | base _ _ h=>rfl
  | name _ _ h=>exact absurd h (by decide)
 refine hq_ λ POST Q_=>?_;unfold bodB at Q_;simp only at Q_;unfold zag at Q_;have A:Fr w (w.alloc (.cells #[.int .i64 (p:Int)] 249)) (λ _=>False):=(Fr.refl w _).alloc _;have M0:=M.new A;rw[if_neg (by decide),if_neg (by decide),if_neg (by decide),if_pos rfl] at Q_;have hC:=zd5 (env:=za_ ds) (t:=.leaf 108 p) (c:=108) (lo:=-9223372036854775808) (up:=9223372036854775807) (.inr rfl) M0;rw[zy1] at hC;replace hC:=q_ hC;replace A:=q_ A;clear M M0 hT;have a0:=zh_ 249 (by decide);have a1:=zo_ 249 (by decide);have a2:=zz_ 249 (by decide)
 have a3:=zby
 go_in
 go_wp2_with (go_at_call 134;refine hC.o.mono ?_;intro e w2 hN;obtain⟨v2,ev2,rfl,hN2⟩:=hN;replace hN2:=q_ hN2)
 try go_ret
 rw[Q_.o];exact yx_.pre A.o ⟨v2,ev2,rfl,hN2.o⟩
theorem zyx:BodY w0 P ss ds sv rv xs s E br f (.leaf 115 p) i n:=by
 intro w v M hn hT
 obtain rfl:v=.iface 250 (.agg #[.int .i64 (p:Int)]):=by
  cases hT with
  | base _ _ h=>rfl
  | name _ _ h=>exact absurd h (by decide)
 refine hq_ λ POST Q_=>?_;unfold bodB at Q_;simp only at Q_;unfold zag at Q_;have A:Fr w (w.alloc (.cells #[.int .i64 (p:Int)] 250)) (λ _=>False):=(Fr.refl w _).alloc _;have M0:=M.new A;rw[if_neg (by decide),if_neg (by decide),if_neg (by decide),if_neg (by decide),if_pos rfl] at Q_;have hC:=q_ (zrd (env:=za_ ds) (t:=.leaf 115 p) M0);replace A:=q_ A;clear M M0 hT;have a0:=zh_ 250 (by decide);have a1:=zo_ 250 (by decide);have a2:=zz_ 250 (by decide);have a3:=zw_ 250 (by decide);have a4:=zbx
 go_in
 go_wp2_with (go_at_call 135;refine hC.o.mono ?_;intro e w2 hN;obtain⟨v2,ev2,rfl,hN2⟩:=hN;replace hN2:=q_ hN2)
 try go_ret
 rw[Q_.o];exact yx_.pre A.o ⟨v2,ev2,rfl,hN2.o⟩
theorem z0f {t:PT}(hI:yi_ w0) (hR:∀ j nn,n<=nn->nn<=300->j<=s.size->DatY w0 P ss ds sv rv xs s E br f t j nn):BodY w0 P ss ds sv rv xs s E br f (.wrap 91 p t) i n:=by
 intro w v M hn hT
 obtain⟨v2,hv2,rfl⟩:∃ v2,TyV w P t v2/\v=.iface 252 (.agg #[.int .i64 (p:Int),v2]):=by
  cases hT with
  | wrap _ _ h=>exact⟨_,h,rfl⟩
 obtain⟨vT,vx,rfl⟩:=hv2.iface;refine hq_ λ POST Q_=>?_;unfold bodB at Q_;simp only at Q_;clear hT;have A:Fr w (w.alloc (.cells #[.int .i64 (p:Int),.iface vT vx] 252)) (λ _=>False):=(Fr.refl w _).alloc _;have M0:=M.new A;have hC:=q_ (zre (p:=p) (pt:=(p:Int)) hI M0 hn (hv2.fr A u_) hR);replace A:=q_ A;clear M0 M;have a0:=zh_ 252 (by decide);have a1:=zo_ 252 (by decide);have a2:=zz_ 252 (by decide);have a3:=zw_ 252 (by decide);have a4:=z3_ 252 (by decide);have a5:=v2_
 go_in
 go_wp2_with (go_at_call 136;refine hC.o.mono ?_;intro e w2 hN;obtain⟨v2,ev2,rfl,hN2⟩:=hN;replace hN2:=q_ hN2)
 try go_ret
 rw[Q_.o];exact yx_.pre A.o ⟨v2,ev2,rfl,hN2.o⟩
theorem zyv {t:PT}(hI:yd_ w0) (hR:∀ j nn,n<=nn->nn<=300->j<=s.size->DatY w0 P ss ds sv rv xs s E br f t j nn):BodY w0 P ss ds sv rv xs s E br f (.wrap 123 p t) i n:=by
 intro w v M hn hT
 obtain⟨v2,hv2,rfl⟩:∃ v2,TyV w P t v2/\v=.iface 254 (.agg #[.int .i64 (p:Int),v2]):=by
  cases hT with
  | wrap _ _ h=>exact⟨_,h,rfl⟩
 obtain⟨vT,vx,rfl⟩:=hv2.iface;refine hq_ λ POST Q_=>?_;unfold bodB at Q_;simp only at Q_;clear hT;have A:Fr w (w.alloc (.cells #[.int .i64 (p:Int),.iface vT vx] 254)) (λ _=>False):=(Fr.refl w _).alloc _;have M0:=M.new A;have hC:=q_ (zu1 (p:=p) (pt:=(p:Int)) hI M0 hn (hv2.fr A u_) hR);replace A:=q_ A;clear M0 M;have a0:=zh_ 254 (by decide);have a1:=zo_ 254 (by decide);have a2:=zz_ 254 (by decide);have a3:=zw_ 254 (by decide);have a4:=z3_ 254 (by decide);have a5:=zy_ 254 (by decide);have a6:=jx_
 go_in
 go_wp2_with (go_at_call 137;refine hC.o.mono ?_;intro e w2 hN;obtain⟨v2,ev2,rfl,hN2⟩:=hN;replace hN2:=q_ hN2)
 try go_ret
 rw[Q_.o];exact yx_.pre A.o ⟨v2,ev2,rfl,hN2.o⟩
theorem z0g {l:List PT}(hI:yi_ w0) (hl:l.length<=4000) (hR:∀ t∈l,∀ j,j<=s.size->DatY w0 P ss ds sv rv xs s E br f t j n):BodY w0 P ss ds sv rv xs s E br f (.alts p l) i n:=by
 intro w v M hn hT
 obtain⟨X,bv,ho,hP,hX,rfl⟩:∃ (X:Nat->Value) (bv:Value),w.ownsRow 0 88 1 bv l.length ((List.range l.length).map X)/\(∀ g,bv.ownBlock=some g->P g)/\(∀ i t,l[i]?=some t->TyV w P t (X i))/\v=.iface 258 (.agg #[.int .i64 (p:Int),bv]):=by
  cases hT with
  | alts _ X ho hP h=>exact⟨X,_,ho,hP,h,rfl⟩
 obtain⟨ba,bc,rfl⟩:=zf_ ho;refine hq_ λ POST Q_=>?_;unfold bodB at Q_;simp only at Q_;clear hT;have A:Fr w (w.alloc (.cells #[.int .i64 (p:Int),.slice ba l.length bc] 258)) (λ _=>False):=(Fr.refl w _).alloc _;have M0:=M.new A;have hC:=q_ (zpa (p:=p) (pt:=(p:Int)) hI M0 hn hl (zb_ ho A u_) hP (λ i t e=>(hX i t e).fr A u_) hR);replace A:=q_ A;clear M0 M ho hX hR hP;have a0:=zh_ 258 (by decide);have a1:=zo_ 258 (by decide);have a2:=zz_ 258 (by decide);have a3:=zw_ 258 (by decide);have a4:=z3_ 258 (by decide);have a5:=zy_ 258 (by decide);have a6:=yw_ 258 (by decide);have a7:=x1_
 go_in
 go_wp2_with (go_at_call 138;refine hC.o.mono ?_;intro e w2 hN;obtain⟨v2,ev2,rfl,hN2⟩:=hN;replace hN2:=q_ hN2)
 try go_ret
 rw[Q_.o];exact yx_.pre A.o ⟨v2,ev2,rfl,hN2.o⟩
theorem zwp {fs:List PF}(hb:za_ ds c=some (.recd fs)) (hsm:∀ g∈fs,zn_ g.letter=true) (hlen:fs.length<=300) (hR:∀ g∈fs,∀ j nn,n<=nn->nn<=300->j<=s.size->DatY w0 P ss ds sv rv xs s E br f g.ty j nn):DefY w0 P ss ds sv rv xs s E br f c p (.recd fs) i n:=by
 intro w v M hn hT
 obtain⟨p2,sv2,zs,ho,hP,h,rfl⟩:∃ (p:Nat) (sv2:Value) (zs:List Value),w.ownsRow 0 220 4 sv2 fs.length zs/\(∀ g,sv2.ownBlock=some g->P g)/\vi_ w P ss fs zs/\v=.iface 263 (.agg #[.int .i64 (p:Int),sv2]):=by
  cases hT with
  | recd p ho hP h=>exact⟨p,_,_,ho,hP,h,rfl⟩
 obtain⟨fa,fc,rfl⟩:=zf_ ho;refine hq_ λ POST Q_=>?_
 have hr:vv_ (rdB s (za_ ds) f) s (.recd fs) i n=recI (yq_ (rdB s (za_ ds) f) (fs.map PF.ty) i n):=by
  unfold vv_;simp only
  cases yq_ (rdB s (za_ ds) f) (fs.map PF.ty) i n with
  | error e=>rfl
  | ok q=>rfl
 rw[hr] at Q_;clear hT hr;have A:Fr w (w.alloc (.cells #[.int .i64 (p2:Int),.slice fa fs.length fc] 263)) (λ _=>False):=(Fr.refl w _).alloc _;have M0:=M.new A;have F0:vj_ w P ss fs (.slice fa fs.length fc) zs:=⟨ho,hP,h⟩;have hC:=q_ (zma (t:=.leaf c p) (pt:=(p2:Int)) M0 hn (F0.fr A u_) hsm hlen (λ k g e=>by simp[yb_,hb,aq_,e]) hR);replace A:=q_ A;clear M0 M ho h F0 hsm hR hb;have a0:=zh_ 263 (by decide);have a1:=zo_ 263 (by decide);have a2:=zz_ 263 (by decide);have a3:=zw_ 263 (by decide);have a4:=z3_ 263 (by decide);have a5:=zy_ 263 (by decide);have a6:=yw_ 263 (by decide);have a7:=ym_ 263 (by decide);have a8:=jb_ 263 (by decide);have a9:=vh_
 go_in
 go_wp2_with (go_at_call 139;refine hC.o.mono ?_;intro e w2 hN;obtain⟨v2,ev2,rfl,hN2⟩:=hN;replace hN2:=q_ hN2)
 try go_ret
 rw[Q_.o];exact yx_.pre A.o ⟨v2,ev2,rfl,hN2.o⟩
theorem zwq {l:List (Nat×Nat)}{o:Option (Nat×Nat)}(hb:za_ ds c=some (.enum l o)) (hsm:∀ q∈l,zn_ q.1=true) (hlen:l.length<=300):DefY w0 P ss ds sv rv xs s E br f c p (.enum l o) i n:=by
 intro w v M hn hT
 obtain⟨p2,sv2,u,ho,hP,hu,rfl⟩:∃ (p:Nat) (sv2 u:Value),w.ownsRow 0 217 2 sv2 l.length (yg_ l)/\(∀ g,sv2.ownBlock=some g->P g)/\UnkV w P o u/\v=.iface 268 (.agg #[.int .i64 (p:Int),sv2,u]):=by
  cases hT with
  | enum p ho hP h=>exact⟨p,_,_,ho,hP,h,rfl⟩
 obtain⟨fa,fc,rfl⟩:=zf_ ho
 obtain⟨dd,rfl⟩:∃ d,u=.pointer d:=by
  unfold UnkV at hu;split at hu
  ·exact⟨_,hu⟩
  ·obtain⟨g',_,e,_⟩:=hu;exact⟨_,e⟩
 refine hq_ λ POST Q_=>?_;unfold vv_ at Q_;simp only at Q_;clear hT hu;have A:Fr w (w.alloc (.cells #[.int .i64 (p2:Int),.slice fa l.length fc,.pointer dd] 268)) (λ _=>False):=(Fr.refl w _).alloc _;have M0:=M.new A;have hC:=q_ (zl9 (t:=.leaf c p) (pt:=(p2:Int)) (dd:=dd) M0 hlen hsm (zb_ ho A u_) hP (λ k=>by simp[symL,hb]));replace A:=q_ A;clear M0 M ho hsm hb;have a0:=zh_ 268 (by decide);have a1:=zo_ 268 (by decide);have a2:=zz_ 268 (by decide);have a3:=zw_ 268 (by decide);have a4:=z3_ 268 (by decide);have a5:=zy_ 268 (by decide);have a6:=yw_ 268 (by decide);have a7:=ym_ 268 (by decide);have a8:=jb_ 268 (by decide);have a9:=yo_ 268 (by decide);have a10:=zbz
 go_in
 go_wp2_with (go_at_call 140;refine hC.o.mono ?_;intro e w2 hN;obtain⟨v2,ev2,rfl,hN2⟩:=hN;replace hN2:=q_ hN2)
 try go_ret
 rw[Q_.o];exact yx_.pre A.o ⟨v2,ev2,rfl,hN2.o⟩
theorem zt4 {k:Nat}(hk:k<=9):DefY w0 P ss ds sv rv xs s E br f c p (.bytes k) i n:=by
 intro w v M hn hT
 obtain⟨p2,rfl⟩:∃ p:Nat,v=.iface 271 (.agg #[.int .i64 (p:Int),.int .i64 (k:Int)]):=by
  cases hT with
  | bytes p n=>exact⟨p,rfl⟩
 refine hq_ λ POST Q_=>?_;unfold vv_ at Q_;simp only at Q_;clear hT;have A:Fr w (w.alloc (.cells #[.int .i64 (p2:Int),.int .i64 (k:Int)] 271)) (λ _=>False):=(Fr.refl w _).alloc _;have M0:=M.new A;have hC:=q_ (zpc (t:=.leaf c p) (pt:=(p2:Int)) M0 hk);replace A:=q_ A;clear M0 M;have a0:=zh_ 271 (by decide);have a1:=zo_ 271 (by decide);have a2:=zz_ 271 (by decide);have a3:=zw_ 271 (by decide);have a4:=z3_ 271 (by decide);have a5:=zy_ 271 (by decide);have a6:=yw_ 271 (by decide);have a7:=ym_ 271 (by decide);have a8:=jb_ 271 (by decide);have a9:=yo_ 271 (by decide);have a10:=zah 271 (by decide);have a11:=zcm
 go_in
 go_wp2_with (go_at_call 141;refine hC.o.mono ?_;intro e w2 hN;obtain⟨v2,ev2,rfl,hN2⟩:=hN;replace hN2:=q_ hN2)
 try go_ret
 rw[Q_.o];exact yx_.pre A.o ⟨v2,ev2,rfl,hN2.o⟩
theorem zwv (hc:z0_ c=true){b:PB}(hb:za_ ds c=some b) (hR:DefY w0 P ss ds sv rv xs s E br f c p b i n):BodY w0 P ss ds sv rv xs s E br f (.leaf c p) i n:=by
 intro w v M hn hT
 have hcr:65<=c/\c<=70:=by simpa[z0_] using hc
 obtain rfl:v=.iface 261 (.agg #[.int .i64 (p:Int),.int .u8 (c:Int)]):=by
  cases hT with
  | base _ _ h=>
   simp only[zu_,au_,beq_iff_eq] at h;omega
  | name _ _ h=>rfl
 have hr:bodB s (za_ ds) f (.leaf c p) i n=vv_ (rdB s (za_ ds) f) s b i n:=by
  unfold bodB;simp only;unfold zag;rw[if_neg (by omega),if_neg (by omega),if_neg (by omega),if_neg (by omega),if_neg (by omega),hb]
 rw[hr];obtain⟨R_,hRES⟩:∃ r,r=vv_ (rdB s (za_ ds) f) s b i n:=⟨_,rfl⟩;rw[<- hRES];refine hq_ λ POST Q_=>?_;have A:Fr w (w.alloc (.cells #[.int .i64 (p:Int),.int .u8 (c:Int)] 261)) (λ _=>False):=(Fr.refl w _).alloc _;have M0:=M.new A;have hN0:=Blk.new w #[.int .i64 (p:Int),.int .u8 (c:Int)] 261;have hbl:=M.lt;have hcalls:=q_ (And.intro M0 (And.intro hN0 A));clear hr hT M M0 hN0 A;have a0:=zh_ 261 (by decide);have a1:=zo_ 261 (by decide);have a2:=zz_ 261 (by decide);have a3:=zw_ 261 (by decide);have a4:=z3_ 261 (by decide);have a5:=zy_ 261 (by decide);have a6:=yw_ 261 (by decide);have a7:=ym_ 261 (by decide);have a8:=v1_
 go_in
 go_wp2_with fail
 obtain⟨M0,hN0,A⟩:=hcalls.o;have M1:=M0.still (ze_.drew _);have u0:=M0.R.c0;have u1:=M0.R.c1;have u2:=hN0.c1;have hCm:=ju_ (rv:=rv) c M1.D;refine z8_ (λ W=>W.cell? ⟨br,0,none⟩=some sv/\W.cell? ⟨br,1,none⟩=some rv/\W.cell? ⟨w.heap.size,1,none⟩=some (.int .u8 (c:Int))) (by kernel_rfl) ?_;refine tA_ 0 rfl (by kernel_rfl) (λ _ _ _ h=>h) (by rintro W ⟨h1,h2,h3⟩;go_simp<;>rfl) ?_;refine tA_ 1 rfl (by kernel_rfl) (λ _ _ _ h=>h) (by rintro W ⟨h1,h2,h3⟩;go_simp<;>rfl) ?_;refine tA_ 2 rfl (by kernel_rfl) (λ _ _ _ h=>h) (by rintro W ⟨h1,h2,h3⟩;go_simp<;>rfl) ?_;refine tA_ 3 rfl (by kernel_rfl) (λ _ _ _ h=>h) (by rintro W ⟨h1,h2,h3⟩;go_simp<;>rfl) ?_;refine tA_ 4 rfl (by kernel_rfl) (λ _ _ _ h=>h) (by rintro W ⟨h1,h2,h3⟩;go_simp<;>rfl) ?_;refine tA_ 5 rfl (by kernel_rfl) (λ _ _ _ h=>h) (by rintro W ⟨h1,h2,h3⟩;go_simp<;>rfl) ?_;refine tA_ 6 rfl (by kernel_rfl) (λ _ _ _ h=>h) (by rintro W ⟨h1,h2,h3⟩;go_simp<;>rfl) ?_;refine zr_ 7 rfl (by kernel_rfl) ⟨u0,u1,u2⟩ (λ K hK=>?_);go_simp;refine hCm.mono ?_;rintro e w2 ⟨v2,rfl,hf2,hm2⟩;refine hK _ _ ?_;clear hK K;rw[hb] at hm2;have M2:=M1.new hf2;have hCd:=hR w2 v2 M2 hn hm2;have hN2:=hf2.blk (((Fr.refl _ (λ _=>False)).still (ze_.drew (w.alloc (.cells #[.int .i64 (p:Int),.int .u8 (c:Int)] 261)))).blk hN0 id) id;have x0:=M2.R.c0;have x1:=M2.R.c1;have x2:=hN2.c1;rw[<- hRES] at hCd;refine zr_ 8 rfl (by kernel_rfl) ⟨x0,x1,x2⟩ (λ K hK=>?_);go_simp;refine hCd.mono ?_;rintro e w3 ⟨v3,ev3,rfl,hf3,hm3⟩;refine hK _ _ ?_;clear hK K
 obtain⟨j3,m3,h3⟩:∃ j m,RwAt w3 br sv rv s j m:=by
  cases R_ with
  | error e=>exact⟨_,_,hm3.2.2.choose_spec.choose_spec.1⟩
  | ok q=>exact⟨_,_,hm3.2.2.1⟩
 have y0:=h3.c0;have y1:=h3.c1;have y2:=(hf3.blk hN2 (by omega)).c1;replace hm3:=q_ hm3;replace hf3:=q_ hf3;replace hf2:=q_ hf2;replace A:=q_ A;clear hCm hCd M0 M1 M2 hN0 hN2 hm2 hcalls u0 u1 u2 x0 x1 x2 h3;refine tA_ 9 rfl (by kernel_rfl) (λ _ _ _ h=>h) (by rintro W ⟨h1,h2,h3⟩;go_simp<;>rfl) ?_;refine tA_ 10 rfl (by kernel_rfl) (λ _ _ _ h=>h) (by rintro W ⟨h1,h2,h3⟩;go_simp<;>rfl) ?_;refine tA_ 11 rfl (by kernel_rfl) (λ _ _ _ h=>h) (by rintro W ⟨h1,h2,h3⟩;go_simp<;>rfl) ?_;refine tA_ 12 rfl (by kernel_rfl) (λ _ _ _ h=>h) (by rintro W ⟨h1,h2,h3⟩;go_simp<;>rfl) ?_;refine z5_ (by kernel_rfl) ⟨y0,y1,y2⟩ ?_ _
 go_wp2_with fail
 refine bodyPost_ret (v:=.tuple #[v3,ev3]) (by simp[results,results90,go_sem]) rfl ?_;rw[Q_.o];exact yx_.pre (A.o.trans (((Fr.refl _ (λ _=>False)).still (ze_.drew _)).trans hf2.o u_) u_) ⟨v3,ev3,rfl,hf3.o,hm3.o⟩
end
open Go.RowKit
theorem yx_.pre2 {env:Nat->Option PB}{t:PT}{w w1 w':World}{sv rv:Value}{s:BA}{E:WErr}{br:Nat}{res:Except Nat (DT×Nat×Nat)}{e:Ending}(hf:Fr w w1 (· = br)) (h:yx_ env t w1 sv rv s E br res e w'):yx_ env t w sv rv s E br res e w':=by
 obtain⟨v,ev,he,hf2,hm⟩:=h;have hz:=hf.size;refine⟨v,ev,he,hf.trans hf2 u_,?_⟩
 cases res with
 | error e0=>exact⟨hm.1,hm.2.1.less hz,hm.2.2⟩
 | ok q=>
  obtain⟨d,j,m⟩:=q;exact⟨hm.1,hm.2.1.mono (λ g _ hg=>by omega),hm.2.2⟩
section
variable {w0:World} {P:Nat->Prop} {ss:BA} {ds:List PD} {sv rv:Value} {xs:List Value} {s:BA} {E:WErr} {br i n:Nat} {f p:Nat} {t:PT}
theorem zym (hR:n<300->BodY w0 P ss ds sv rv xs s E br f t i (n+1)):DatY w0 P ss ds sv rv xs s E br (f+1) t i n:=by
 intro w v M hn hT;refine hq_ λ POST Q_=>?_;rw[zvm] at Q_;have c4:=M.R.c4;have f4:=M.R.thaw 4;obtain⟨vT,vx,rfl⟩:=hT.iface
 by_cases h3:n=300
 ·subst h3;rw[if_pos l_] at Q_;have hB:=M.big;have hM:=q_ M;clear M hT hR
  go_in
  go_wp2_with fail
  go_quiet (fail)
  go_wp2_with fail
  try go_ret
  rw[Q_.o];exact⟨_,_,rfl,(Fr.refl w _).still (ze_.drewN _ _),rfl,.base,i,300,hM.o.R.still (ze_.drewN _ _),hM.o.il⟩
 ·rw[if_neg (by omega)] at Q_
  have hne:((n:Int)==300)=false:=by simp;omega
  have F1:Fr w (w.setCell ⟨br,4,none⟩ (.int .i64 ((n:Int)+1))) (· = br):=(Fr.refl w (· = br)).setCell _ _ (λ _=>rfl);have M1:=M.call M.R.node F1 M.il;have hC:=q_ (hR (by omega) _ _ M1 (by omega) (hT.fr F1 (λ g hg e=>M.brP (e▸hg))));replace F1:=q_ F1
  have hn2:(n:Int)<=300:=by omega
  clear M M1 hT hR
  go_in
  go_wp2_with (go_at_call 90;refine hC.o.mono ?_;intro e w2 hN;obtain⟨v2,ev2,rfl,hN2⟩:=hN;replace hN2:=q_ hN2)
  try go_ret
  rw[Q_.o];exact yx_.pre2 F1.o ⟨v2,ev2,rfl,hN2.o⟩
theorem z0z (hE:v0_ ds) (hW:fewE (za_ ds)) (hI:yi_ w0) (hQ:yd_ w0):∀ (f:Nat) (t:PT) (i n:Nat),okT (za_ ds) t->fewT t->n<=300->301<=f+n->DatY w0 P ss ds sv rv xs s E br f t i n:=by
 intro f
 induction f with
 | zero=>intro t i n _ _ h1 h2;omega
 | succ f ih=>
  intro t i n ht hw hn hm;refine zym (λ hn3=>?_);have next:∀ u,okT (za_ ds) u->fewT u->∀ j nn,n+1<=nn->nn<=300->j<=s.size->DatY w0 P ss ds sv rv xs s E br f u j nn:=λ u hu hv j nn h1 h2 h3=>ih u j nn hu hv h2 (by omega)
  cases t with
  | leaf c p=>
   unfold okT at ht
   rcases ht with hb|⟨hnm,pb,he⟩
   ·simp only[zu_,au_,beq_iff_eq] at hb
    rcases hb with(((rfl|rfl)|rfl)|rfl)|rfl
    ·exact zyy
    ·exact zyw
    ·exact zy0
    ·exact zyz
    ·exact zyx
   ·obtain⟨g1,g2⟩:=hE c pb he;refine zwv hnm he ?_
    cases pb with
    | recd fs=>exact zwp he g1.2.1 g1.1 (λ g hg=>next g.ty (g2 g hg) ((hW c fs he).2 g hg))
    | enum l o=>exact zwq he g1.2.1 g1.1
    | bytes k=>exact zt4 g2
  | wrap c p t=>
   unfold okT at ht;unfold fewT at hw
   rcases ht.1 with rfl|rfl
   ·exact z0f hI (next t ht.2 hw)
   ·exact zyv hQ (next t ht.2 hw)
  | alts p l=>
   unfold okT at ht;unfold fewT at hw;exact z0g hI (by have:=hw.1;omega) (λ t h j hj=>next t (j6_ ht.2 t h).2 (zc9 hw.2 t h) j (n+1) l_ (by omega) hj)
end
def zo3 (env:Nat->Option PB) (t:PT) (w:World) (E:WErr) (res:Except Nat (DT×Nat×Nat)) (e:Ending) (w':World):Prop:=
 ∃ (v:Value) (k:Nat) (ev:Value),e=.returned (.tuple #[v,.int .i64 (k:Int),ev])/\Fr w w' (λ _=>False)/\
 match res with
 | .ok (d,j,_)=>ev=.nilIface/\k=j/\DaV env w' (λ g=>w.heap.size<=g) d t v
 | .error e0=>v=.nilIface/\k=0/\ErrD w' w.heap.size (E.t e0) (E.x e0) ev
theorem zha {w:World}{sa:Option Addr}{sn sc:Nat}{rT:TypeId}{rx:Value}{s:BA}{lt:TypeId}{lx:Value}(hE:ErrV 7 w lt lx) (hs:4000<s.size) :
 Calls prog 37 #[.agg #[.slice sa sn sc,.iface rT rx],.string s] w λ e w'=>e=.returned (.tuple #[.nilIface,.int .i64 0,.iface lt lx])/\Fr w w' (λ _=>False):=by
 refine hq_ λ POST Q_=>?_;have A:Fr w (w.alloc (.cells #[.slice sa sn sc,.iface rT rx] 90)) (λ _=>False):=(Fr.refl w _).alloc _;have he:=hE.fr A (λ f=>f);unfold ErrV at he
 have hs2:(4000:Int)<(s.size:Int):=by omega
 replace A:=q_ A;clear hE
 go_in
 go_wp2_with fail
 go_quiet (fail)
 go_wp2_with fail
 refine bodyPost_ret (v:=.tuple #[.nilIface,.int .i64 0,.iface lt lx]) (by simp[results,results37,go_sem]) rfl ?_;rw[Q_.o];exact⟨rfl,A.o.still (ze_.drewN _ _)⟩
theorem zji {w0 w:World}{P:Nat->Prop}{ss:BA}{ds:List PD}{sv:Value}{rT:TypeId}{rx:Value}{xs:List Value}{s:BA}{E:WErr}{t:PT}(D:DRow w P ss ds sv xs) (hT:TyV w P t (.iface rT rx)) (hG:y1_ w0 w) (hk:w0.heap.size<=w.heap.size) (hPw:∀ g,P g->g<w.heap.size) (E1:ErrV 4 w0 E.dt E.dx) (E2:ErrV 5 w0 E.bt E.bx) (hs:s.size<=4000) (hok:okT (za_ ds) t) (hfw:fewT t) (hen:v0_ ds) (hW:fewE (za_ ds)) (hI:yi_ w0) (hQ:yd_ w0) :
 Calls prog 37 #[.agg #[sv,.iface rT rx],.string s] w (zo3 (za_ ds) t w E (rdB s (za_ ds) 301 t 0 0)):=by
 refine hq_ λ POST Q_=>?_;obtain⟨sa,sc,rfl⟩:=zf_ D.row;have A:Fr w ((w.alloc (.cells #[.slice sa ds.length sc,.iface rT rx] 90)).alloc (.cells #[.slice sa ds.length sc,.iface rT rx,.string s,.int .i64 0,.int .i64 0] 124)) (λ _=>False):=((Fr.refl w _).alloc _).alloc _
 have z1:(w.alloc (.cells #[.slice sa ds.length sc,.iface rT rx] 90)).heap.size=w.heap.size+1:=by simp
 have hR0:=Blk.new (w.alloc (.cells #[.slice sa ds.length sc,.iface rT rx] 90)) #[.slice sa ds.length sc,.iface rT rx,.string s,.int .i64 0,.int .i64 0] 124;rw[z1] at hR0
 have M0:YC w0 P ss ds (.slice sa ds.length sc) (.iface rT rx) xs s E (w.heap.size+1) 0 0 ((w.alloc (.cells #[.slice sa ds.length sc,.iface rT rx] 90)).alloc (.cells #[.slice sa ds.length sc,.iface rT rx,.string s,.int .i64 0,.int .i64 0] 124)):=
  ⟨hR0,D.fr A u_,hG.fr A hk (λ g f=>f.elim),E1,E2,λ g hg=>by have:=hPw g hg;omega,by omega,by omega,aj_ _⟩
 have hC:=z0z hen hW hI hQ 301 t 0 0 hok hfw (by omega) (by omega) _ _ M0 (by omega) (hT.fr A u_)
 have hs2:¬ (4000:Int)<(s.size:Int):=by omega
 have hz:=q_ (by simp:((w.alloc (.cells #[.slice sa ds.length sc,.iface rT rx] 90)).alloc (.cells #[.slice sa ds.length sc,.iface rT rx,.string s,.int .i64 0,.int .i64 0] 124)).heap.size=w.heap.size+2);replace A:=q_ A;clear M0 hR0 z1 D hT hG
 cases hrd:rdB s (za_ ds) 301 t 0 0 with
 | error e0=>
  rw[hrd] at hC Q_;replace hC:=q_ hC;replace hrd:=q_ hrd
  go_in
  go_wp2_with (go_at_call 62;refine hC.o.mono ?_;rintro e w1 ⟨v1,ev1,rfl,hf1,hv1,hE1,hR1⟩;subst hv1;obtain⟨eT,ex,rfl⟩:=hE1.iface;replace hf1:=q_ hf1;replace hE1:=q_ hE1;replace hR1:=q_ hR1)
  refine bodyPost_ret (v:=.tuple #[.nilIface,.int .i64 0,.iface eT ex]) (by simp[results,results37,go_sem]) rfl ?_;rw[Q_.o];exact⟨_,0,_,rfl,A.o.trans hf1.o (λ g hg e=>by omega),rfl,rfl,hE1.o.less (by have:=hz.o;omega)⟩
 | ok q=>
  obtain⟨d,j,m⟩:=q;rw[hrd] at hC Q_;replace hC:=q_ hC;replace hrd:=q_ hrd
  go_in
  go_wp2_with (go_at_call 62;refine hC.o.mono ?_;rintro e w1 ⟨v1,ev1,rfl,hf1,hv1,hD1,hR1,hj1⟩;subst hv1;obtain⟨dT,dx,rfl⟩:=hD1.iface;have c3:=hR1.c3;replace hf1:=q_ hf1;replace hD1:=q_ hD1;replace hR1:=q_ hR1)
  go_quiet (fail)
  go_wp2_with fail
  refine bodyPost_ret (v:=.tuple #[.iface dT dx,.int .i64 (j:Int),.nilIface]) (by simp[results,results37,go_sem]) rfl ?_;rw[Q_.o];exact⟨_,j,_,rfl,(A.o.trans hf1.o (λ g hg e=>by omega)).still (ze_.drewN _ _),rfl,rfl,(hD1.o.mono (λ g _ hg=>by have:=hz.o;omega)).fr ((Fr.refl _ (λ _=>False)).still (ze_.drewN _ _)) u_⟩
end Go.Proofs.YthmjjpkjgjklmaaGreatDoor
