import Derived.Test.YthmjjpkjgjklmaaGreatDoorW26
import Derived.Test.YthmjjpkjgjklmaaGreatDoorW21
import Derived.Test.YthmjjpkjgjklmaaGreatDoorW09
import Derived.Test.YthmjjpkjgjklmaaGreatDoorA00
set_option maxHeartbeats 16000000
set_option maxRecDepth 100000
set_option linter.unusedSimpArgs false
open Go.Proofs.Tryz
namespace Go.Proofs.YthmjjpkjgjklmaaGreatDoor
open Go.RowKit
variable {j:Nat}
theorem Fr.ofBelow {w w':World}(h:Below w.heap.size w w'):Fr w w' (λ _=>False):=⟨h.os,h.tape,h.output,h.size,λ k hk _=>h.block k hk⟩
theorem Fr.bytes (w:World) (e:TypeId) (t:BA):Fr w (Lib.bytesWorld w e t) (λ _=>False):=
 ⟨rfl,rfl,rfl,by rw[Lib.bytesWorld_size];omega,λ k hk _=>Lib.bytesWorld_at_old w e t k hk⟩
def xh_ (w0:World):Prop:=∀ (W:World),y1_ w0 W->∀ t:BA,t.size<=4000->Calls prog 249 #[.string t,.int .i64 10,.int .i64 64] W (z0m W t)
theorem zmo {w0:World}{T1 T2:TypeId}{x1 x2:Value}(h1:w0.var? prog "strconv.ErrSyntax" = some #[.iface T1 x1]) (h2:w0.var? prog "strconv.ErrRange" = some #[.iface T2 x2]):xh_ w0:=by
 intro W hG t ht
 cases hp:Lib.parseIntB 64 t.data.toList with
 | ok v=>
  refine(Tryz.strconv_ParseInt_10_at64_ok t (by omega) v hp W).mono ?_;rintro e w' ⟨rfl,hw⟩;refine⟨?_,.inl ⟨v,hp,rfl⟩⟩
  rcases hw with rfl|⟨t',rfl⟩
  ·exact Fr.refl _ _
  ·exact Fr.bytes _ _ _
 | range=>
  refine(Tryz.strconv_ParseInt_10_at64_range_var t (by omega) hp T2 x2 W (hG.var h2)).mono ?_;rintro e w' ⟨N,rfl,_,_,hb⟩;exact⟨Fr.ofBelow hb,.inr ⟨λ v h=>(by rw[hp] at h;cases h),_,_,_,rfl⟩⟩
 | _=>
  refine(Tryz.strconv_ParseInt_10_at64_syntax_var t (by omega) hp T1 x1 W (hG.var h1)).mono ?_;rintro e w' ⟨N,rfl,_,_,hb⟩;exact⟨Fr.ofBelow hb,.inr ⟨λ v h=>(by rw[hp] at h;cases h),_,_,_,rfl⟩⟩
theorem y1_.cell {w0 w:World}(h:y1_ w0 w){a:Addr}{v:Value}(hc:w0.cell? a=some v):w.cell? a=some v:=
 (World.cell?_of_block (h a.block (World.block_lt_of_cell? w0 a hc))).trans hc
theorem y1_.tab {w0 w:World}(h:y1_ w0 w){g:Nat}{k:IntKind}{t:List Nat}(hT:Lib.TabSlice g k t w0):Lib.TabSlice g k t w:=by
 obtain⟨R,o,c,h1,h2⟩:=hT;exact⟨R,o,c,h.cell h1,λ j hj=>h.cell (h2 j hj)⟩
theorem zvn {w0:World}{T:Lib.PrintTabs}(hT:Lib.PrintTabsAt 18 19 20 21 T w0) (hU:Lib.Utf8Tabs 16 17 w0):yd_ w0:=by
 intro W hG k hk;refine(Tryz.strconv_Quote T k W (by omega) ⟨hG.tab hT.1,hG.tab hT.2.1,hG.tab hT.2.2.1,hG.tab hT.2.2.2.1,hT.2.2.2.2⟩ ⟨λ c hc=>hG.cell (hU.1 c hc),λ i hi=>⟨hG.cell (hU.2 i hi).1,hG.cell (hU.2 i hi).2⟩⟩).mono ?_;rintro e w' ⟨rfl,hb⟩;refine⟨_,rfl,?_,Fr.ofBelow hb⟩;rw[strOfNums_size];have:=Lib.quoteZ_length_le T k;omega
section
variable {w0 w:World} {P:Nat->Prop} {ss:BA} {ds:List PD} {sv rv:Value} {xs:List Value} {s:BA} {nt:TypeId} {nx:Value} {pl:Bool} {br i:Nat}
theorem zyl (hP:xh_ w0){kd:Nat}(M:NC w0 P ss ds sv rv xs s nt nx pl br i w) :
 Calls prog 211 #[.pointer (some ⟨br,0,none⟩),.int .i64 (loV kd),.int .i64 (hiV kd)] w λ e w'=>∃ n b,e=.returned (.tuple #[.int .i64 n,.bool b])/\Fr w w' (· = br)/\RdAt w' br sv rv s (z6_ s i) (!pl)/\(b=true↔zfy kd (xu_ s i) (z4_ s i))/\(b=true->n=numV (xu_ s i) (z4_ s i) (z4_ s i).size/\-9223372036854775808<=n/\n<=9223372036854775807):=by
 have hs:=M.hs;refine(zd8 M.R (by omega) M.il (λ W hf=>hP W (M.G.fr hf (by have:=M.lt;have:=M.brG;omega) (λ g e=>e▸M.brG)) _ (by rw[as_];omega))).mono ?_;rintro e w' ⟨n,b,rfl,hf,hR,hb,hv⟩;refine⟨n,b,rfl,hf,hR,hb.trans ?_,λ e=>?_⟩
 rotate_left
 ·obtain⟨h1,h2⟩:=zkf (hb.1 e).1.1 (hv e);exact⟨h1.symm,h2⟩
 constructor
 ·rintro⟨⟨f1,f2⟩,hv⟩;exact(zop f1 f2).2 hv
 ·intro h;have h':=h;unfold zfy at h';exact⟨⟨h'.1,h'.2.1⟩,(zop h'.1 h'.2.1).1 h⟩
theorem zf0 {tt:PT}{kd:Nat}{lo hi:Int}(hP:xh_ w0) (M:NC w0 P ss ds sv rv xs s nt nx pl br i w) (hkd:kd=105\/kd=108) (h1:loV kd=lo) (h2:hiV kd=hi) :
 Calls prog 166 #[.pointer (some ⟨br,0,none⟩),.int .i64 lo,.int .i64 hi] w (yr_ (za_ ds) tt w sv rv s nt nx pl br ((vr_ s kd i).map (λ q=>(.mk kd q.1 noB [] [],q.2)))):=by
 have hC:=zyl (kd:=kd) hP M;rw[h1,h2] at hC;clear h1 h2 hP;refine hq_ λ POST Q_=>?_;replace hC:=q_ hC;have hle:=(zju (s:=s) M.il).2.2.2;replace M:=q_ M
 by_cases hok:zfy kd (xu_ s i) (z4_ s i)
 ·have hr:=q_ (show(vr_ s kd i).map (λ q=>(DT.mk kd q.1 noB [] [],q.2))=some (.mk kd (numV (xu_ s i) (z4_ s i) (z4_ s i).size) noB [] [],z6_ s i) by unfold vr_;rw[if_pos hok];rfl);replace hok:=q_ hok
  go_in
  go_wp2_with (go_at_call 211;refine hC.o.mono ?_;rintro e w1 ⟨n,b,rfl,hf1,hR1,hb,hv⟩;obtain rfl:=hb.2 hok.o;replace hv:=q_ (hv rfl);replace hf1:=q_ hf1;replace hR1:=q_ hR1;clear hb)
  try go_ret
  rw[Q_.o,hr.o];exact nok (by rw[<- hv.o.1];exact DaV.plain (.num kd n hkd hv.o.2.1 hv.o.2.2) (by decide)) hf1.o hR1.o hle
 ·have hr:=q_ (show(vr_ s kd i).map (λ q=>(DT.mk kd q.1 noB [] [],q.2))=none by unfold vr_;rw[if_neg hok];rfl);replace hok:=q_ hok
  go_in
  go_wp2_with (go_at_call 211;refine hC.o.mono ?_;rintro e w1 ⟨n,b,rfl,hf1,hR1,hb,hv⟩;clear hv;obtain rfl:b=false:=(by cases b;rfl;exact absurd (hb.1 rfl) hok.o);have e1:=(M.o.call hR1 hf1 hle).e;replace hf1:=q_ hf1;replace hR1:=q_ hR1;clear hb)
  go_quiet (fail)
  go_wp2_with fail
  try go_ret
  rw[Q_.o,hr.o];exact nerr (hf1.o.still (ze_.drewN _ _)) (hR1.o.still (ze_.drewN _ _)) hle
end
theorem zij {w0:World}(hP:xh_ w0):zh2 w0:=λ _ _ _ _ _ _ _ _ _ _ _ _ _ _ M=>⟨zf0 (kd:=105) hP M (.inl rfl) rfl rfl,zf0 (kd:=108) hP M (.inr rfl) rfl rfl⟩
open Go.RowKit
theorem zld {s:BA}{m:Nat}(h1:j<=m) (h2:m<s.size):(s.extract j (m+1)).data.toList=(s.extract j m).data.toList++[s[m]'h2]:=by
 obtain⟨⟨l⟩⟩:=s;have hl:m<l.length:=h2;simp only[ByteArray.data_extract,List.extract_toArray,List.extract_eq_take_drop];rw[show m+1-j=(m-j)+1 by omega,ba_,List.getElem?_drop,show j+(m-j)=m by omega,am_ hl]
 rfl
theorem zde {s:BA}:∀ n,j+n<=s.size->zd1 s j n=dv (s.extract j (j+n)).data.toList:=by
 intro n
 induction n with
 | zero=>
  intro _
  have:(s.extract j (j+0)).data.toList=[]:=by
   apply ca_
   rw[Array.length_toList];show(s.extract j (j+0)).size=0;rw[as_];omega
  rw[this];rfl
 | succ n ih=>
  intro h;rw[show j+(n+1)=(j+n)+1 by omega,zld (by omega) (by omega),zov,zd1,ih (by omega),zbh s (j+n) (by omega)];simp only[ai_,Nat.pow_one,dv,ax_,Nat.pow_zero,Nat.mul_one,a7_];omega
theorem zce {s:BA}(h:bt s j≠45):z6_ s j=zm_ 48 57 s j/\z4_ s j=s.extract j (zm_ 48 57 s j)/\xu_ s j=false:=by
 have hs:sgn s j=j:=by unfold sgn;rw[if_neg h]
 refine⟨by unfold z6_;rw[hs],by unfold z4_ z6_;rw[hs],?_⟩;unfold xu_;exact beq_eq_false_iff_ne.2 (by omega)
theorem z0e {s:BA}{n:Nat}(hj:j<=s.size) (hn:n<=300) :
 ((zay s j/\∃ v,Lib.parseIntB 64 (s.extract j (z6_ s j)).data.toList=.ok v/\0<=v/\v<=(n:Int)-1)/\bt s (z6_ s j)=58)↔(zgj s j (y5_ s j) (zd1 s j (y5_ s j-j)) n=true/\bt s (y5_ s j)=58):=by
 have hre:=yj_ 48 57 s _ j l_;unfold zgj;rw[decide_eq_true_iff];have hd:digs (s.extract j (zm_ 48 57 s j)).data.toList:=zbv s j
 have hsz:(s.extract j (zm_ 48 57 s j)).size=zm_ 48 57 s j-j:=by rw[as_];have:=hre.2 hj;omega
 have hll:(s.extract j (zm_ 48 57 s j)).data.toList.length=zm_ 48 57 s j-j:=by rw[Array.length_toList];exact hsz
 have hb0:∀ _h:j<zm_ 48 57 s j,bt (s.extract j (zm_ 48 57 s j)) 0=bt s j/\∃ r,(s.extract j (zm_ 48 57 s j)).data.toList=(s[j]'(by have:=hre.2 hj;omega))::r/\r.length+1=zm_ 48 57 s j-j:=λ h=>by
  have hlt:j<s.size:=by have:=hre.2 hj;omega
  have he:=j5_ (s:=s) h (hre.2 hj);refine⟨?_,_,he,?_⟩
  ·rw[zi4 he,zbh s j hlt]
  ·rw[he,ar_] at hll;exact hll
 constructor
 ·rintro⟨⟨⟨f1,f2⟩,v,hp,h0,h1⟩,h58⟩;have hv:=zkf f1 hp
  by_cases h45:bt s j=45
  ·exfalso
   have hneg:xu_ s j=true:=by unfold xu_;rw[h45];rfl
   have hdn:digs (z4_ s j).data.toList:=zbv s (sgn s j);have hszn:(z4_ s j).size=(z4_ s j).data.toList.length:=Array.length_toList.symm
   cases hl:(z4_ s j).data.toList with
   | nil=>rw[hl,ax_] at hszn;omega
   | cons c r=>
    have hc:=hdn c (by rw[hl];exact ay_ ..);have hbt:=zi4 hl;have hval:=hv.1;rw[hneg,zbn hdn ?_ _ l_,if_pos rfl,show(z4_ s j).data.toList.take (z4_ s j).size=(z4_ s j).data.toList by rw[hszn];exact List.take_length,hl] at hval
    ·have h49:49<=c.toNat:=by
      have:¬ bt (z4_ s j) 0=48:=λ e=>f2 ⟨e,.inr hneg⟩;omega
     have:=znk (r:=r) h49;have:1<=10 ^ r.length:=Nat.one_le_pow _ _ (by decide);omega
    ·simp only[if_true]
     have he:(s.extract j (z6_ s j)).data.toList=45::(z4_ s j).data.toList:=by
      have hlt:j<s.size:=zl_ (by omega)
      have hs:sgn s j=j+1:=by unfold sgn;rw[if_pos h45]
      have hge:=yj_ 48 57 s _ (j+1) l_;unfold z4_ z6_;rw[hs,j5_ (by omega) (hge.2 (by omega))];refine List.cons_eq_cons.2 ⟨?_,rfl⟩;rw[zbh s j hlt] at h45;exact UInt8.toNat_inj.1 (h45.trans (by decide))
     rw[he,znh (by rw[hl];simp) hdn] at hp;split at hp
     ·omega
     ·cases hp
  ·obtain⟨e1,e2,e3⟩:=zce h45;rw[e1] at hp h58;rw[e2] at f1 f2;rw[hsz] at f1 f2;obtain⟨g1,r,g2,g3⟩:=hb0 (by omega);rw[g1] at f2
   have hlt:j<s.size:=by have:=hre.2 hj;omega
   rw[zgb (by rw[g2];simp) hd] at hp;split at hp
   ·cases hp
    have hs3:zm_ 48 57 s j-j<=3:=by
     rcases Nat.lt_or_ge 3 (zm_ 48 57 s j-j) with h|h
     ·exfalso
      have hc:=hd (s[j]'hlt) (by rw[g2];exact ay_ ..)
      have h49:49<=(s[j]'hlt).toNat:=by
       have:¬ bt s j=48:=λ e=>f2 ⟨e,.inl (by omega)⟩;rw[zbh s j hlt] at this;omega
      have hdg:=znk (r:=r) h49;rw[<- g2] at hdg;have:10 ^ 3<=10 ^ r.length:=Nat.pow_le_pow_right (by decide) (by omega);omega
     ·exact h
    have hbe:y5_ s j=zm_ 48 57 s j:=by unfold y5_;omega
    rw[hbe];have hbn:=zde (s:=s) (j:=j) (zm_ 48 57 s j-j) (by have:=hre.2 hj;omega);rw[show j+(zm_ 48 57 s j-j)=zm_ 48 57 s j by omega] at hbn;rw[hbn];exact⟨⟨by omega,λ h=>f2 ⟨h.1,.inl h.2⟩,by omega⟩,h58⟩
   ·cases hp
 ·rintro⟨⟨q1,q2,q3⟩,h58⟩;have hrn:zm_ 48 57 s j≠j:=λ e=>q1 (by unfold y5_;omega)
  have hbe:y5_ s j=zm_ 48 57 s j:=by
   rcases Nat.lt_or_ge (j+3) (zm_ 48 57 s j) with h|h
   ·exfalso
    have e:y5_ s j=j+3:=by unfold y5_;omega
    have:=x9_ 48 57 s _ j l_ (j+3) (by omega) h;rw[e] at h58;omega
   ·unfold y5_;omega
  have h45:bt s j≠45:=by
   have:=x9_ 48 57 s _ j l_ j l_ (by omega);omega
  obtain⟨e1,e2,e3⟩:=zce h45
  have hlt:j<s.size:=by have:=hre.2 hj;omega
  obtain⟨g1,r,g2,g3⟩:=hb0 (by omega);rw[hbe] at q2 q3 h58;have hbn:=zde (s:=s) (j:=j) (zm_ 48 57 s j-j) (by have:=hre.2 hj;omega);rw[show j+(zm_ 48 57 s j-j)=zm_ 48 57 s j by omega] at hbn;rw[hbn] at q3;unfold zay;rw[e1,e2,e3,hsz,g1];refine⟨⟨⟨by omega,λ h=>?_⟩,(dv (s.extract j (zm_ 48 57 s j)).data.toList:Int),?_,by omega,by omega⟩,h58⟩
  ·rcases h.2 with h2|h2
   ·exact q2 ⟨h.1,h2⟩
   ·cases h2
  ·rw[zgb (by rw[g2];simp) hd,if_pos (by omega)]
theorem zxe {s:BA}{n:Nat}{v:Int}(hj:j<=s.size) (hg:zgj s j (y5_ s j) (zd1 s j (y5_ s j-j)) n=true) (h58:bt s (y5_ s j)=58) (hp:Lib.parseIntB 64 (s.extract j (z6_ s j)).data.toList=.ok v):z6_ s j=y5_ s j/\v=(zd1 s j (y5_ s j-j):Int):=by
 have hre:=yj_ 48 57 s _ j l_;unfold zgj at hg;rw[decide_eq_true_iff] at hg;obtain⟨q1,q2,q3⟩:=hg;have hrn:zm_ 48 57 s j≠j:=λ e=>q1 (by unfold y5_;omega)
 have hbe:y5_ s j=zm_ 48 57 s j:=by
  rcases Nat.lt_or_ge (j+3) (zm_ 48 57 s j) with h|h
  ·exfalso
   have e:y5_ s j=j+3:=by unfold y5_;omega
   have:=x9_ 48 57 s _ j l_ (j+3) (by omega) h;rw[e] at h58;omega
  ·unfold y5_;omega
 have h45:bt s j≠45:=by
  have:=x9_ 48 57 s _ j l_ j l_ (by omega);omega
 obtain⟨e1,e2,e3⟩:=zce h45;have hbn:=zde (s:=s) (j:=j) (zm_ 48 57 s j-j) (by have:=hre.2 hj;omega);rw[show j+(zm_ 48 57 s j-j)=zm_ 48 57 s j by omega] at hbn;rw[hbe,hbn,e1];refine⟨rfl,?_⟩;have hd:digs (s.extract j (zm_ 48 57 s j)).data.toList:=zbv s j
 have hne:(s.extract j (zm_ 48 57 s j)).data.toList≠[]:=by
  intro e;have hl:(s.extract j (zm_ 48 57 s j)).data.toList.length=(s.extract j (zm_ 48 57 s j)).size:=Array.length_toList;rw[e,ax_,as_] at hl;have:=hre.2 hj;omega
 rw[e1,zgb hne hd] at hp;split at hp
 ·cases hp;rfl
 ·cases hp
section
variable {w0 w:World} {P:Nat->Prop} {ss:BA} {ds:List PD} {sv rv:Value} {xs:List Value} {s:BA} {nt:TypeId} {nx:Value} {br i:Nat}
theorem zmz {q0:Nat}{l:List PT}{p:Int}{bv:Value}{f:Nat}{X:Nat->Value}(M:NC w0 P ss ds sv rv xs s nt nx false br i w) (ho:w.ownsRow 0 88 1 bv l.length ((List.range l.length).map X)) (hX:∀ k u,l[k]?=some u->TyV w P u (X k)) (hoP:∀ g,bv.ownBlock=some g->P g) (hl0:l≠[]) (hlen:l.length<=300) (hI:yi_ w0) (hP:xh_ w0) (hR:∀ t∈l,∀ j,i<j->j<=s.size->DatN w0 P ss ds sv rv xs s nt nx false br f t j) :
 Calls prog 170 #[.pointer (some ⟨br,0,none⟩),.agg #[.int .i64 p,bv]] w (yr_ (za_ ds) (.alts q0 l) w sv rv s nt nx false br (y9_ (rdT s (za_ ds) false f) s false l i)):=by
 refine hq_ λ POST Q_=>?_;obtain⟨ba,bc,rfl⟩:=zf_ ho;obtain⟨m,hm⟩:∃ m,l.length=m+1:=⟨l.length-1,by have:=List.length_pos_iff.2 hl0;omega⟩;rw[hm] at ho hoP⊢;have hs4:=M.hs;have hil:=M.il;have hbl:=M.lt;have A:Fr w (w.alloc (.cells #[.int .i64 p,.slice ba (m+1) bc] 258)) (λ _=>False):=(Fr.refl w _).alloc _;have M0:=q_ (M.new A);have hN:=q_ (Blk.new w #[.int .i64 p,.slice ba (m+1) bc] 258);have A':=q_ (A.mono (T:=λ g=>g=br) v_);have c4:=M0.o.R.c4;have hw64:wrap64 (m:Int)=(m:Int):=zh5 _ (by omega) (by omega)
 by_cases h60:bt s i=60
 case neg=>
  have hr:=q_ (show y9_ (rdT s (za_ ds) false f) s false l i=none by unfold y9_;rw[if_neg (by decide),if_neg (λ h=>h60 h.1)]);replace h60:=q_ h60;clear M ho hX hR
  go_in
  go_wp2_with (go_at_call 164;refine(xc_ 60 M0.o.R hs4 hil (by decide) (by decide) h60.o).mono ?_;rintro e w1 ⟨rfl,hf1,h1⟩;have e1:=(M0.o.call h1 hf1 hil).e;replace hf1:=q_ hf1;replace h1:=q_ h1)
  go_quiet (fail)
  go_wp2_with fail
  try go_ret
  rw[Q_.o,hr.o];exact nerr ((A'.o.trans hf1.o u_).still (ze_.drewN _ _)) (h1.o.still (ze_.drewN _ _)) hil
 case pos=>
 have hlt:i+1<=s.size:=zl_ (s:=s) (i:=i) (by omega);have hnl:=(zju (s:=s) hlt).2.2.2;obtain⟨k,hk⟩:∃ k,y5_ s (i+1)=k:=⟨_,rfl⟩;obtain⟨N,hNn⟩:∃ N,zd1 s (i+1) (k-(i+1))=N:=⟨_,rfl⟩;have hrd:=zml (R:=rdT s (za_ ds) false f) (l:=l) h60 hk hNn;have hbd:=z0e (s:=s) (j:=i+1) (n:=l.length) hlt hlen;rw[hk,hNn,show((l.length:Nat):Int)-1=(m:Int) by omega] at hbd;replace hm:=q_ hm;have hDec:H_ (∀ w1,NC w0 P ss ds sv rv xs s nt nx false br (i+1) w1->Calls prog 211 #[.pointer (some ⟨br,0,none⟩),.int .i64 0,.int .i64 (m:Int)] w1 (zn1 w1 br sv rv s (i+1) (!false) 0 (m:Int))):=q_ (λ w1 M1=>zd8 M1.R hs4 hlt (λ W hf=>hP W (M1.G.fr hf (by have:=M1.lt;have:=M1.brG;omega) (λ g e=>e▸M1.brG)) _ (by rw[as_];omega)));replace h60:=q_ h60
 by_cases hD:zay s (i+1)/\∃ v,Lib.parseIntB 64 (s.extract (i+1) (z6_ s (i+1))).data.toList=.ok v/\0<=v/\v<=(m:Int)
 case neg=>
  have hr:=q_ (show y9_ (rdT s (za_ ds) false f) s false l i=none by rw[hrd,if_neg (λ h=>hD (hbd.2 h).1)]);replace hD:=q_ hD;clear M ho hX hR hrd hbd hk hNn
  go_in
  go_wp2_with (first
   |(go_at_call 164;refine(z7_ 60 M0.o.R hs4 hil (by decide) (by decide) h60.o).mono ?_;rintro e w1 ⟨rfl,hf1,h1⟩;have M1:=q_ (M0.o.call h1 hf1 hlt);have F1:=q_ (A'.o.trans hf1 u_);have N1:=q_ (hf1.blk hN.o (by omega));have n1:=N1.o.c1;clear hf1 h1)
   |(go_at_call 211;refine(hDec.o w1 M1.o).mono ?_;rintro e w2 ⟨n,b,rfl,hf2,h2,hb,hv⟩;have M2:=q_ (M1.o.call h2 hf2 hnl);have F2:=q_ (F1.o.trans hf2 u_);have N2:=q_ (hf2.blk N1.o (by omega));obtain rfl:b=false:=(by cases b;rfl;exact absurd (hb.1 rfl) hD.o);have e2:=M2.o.e;clear hb hv;clear hf2 h2))
  go_quiet (fail)
  go_wp2_with fail
  try go_ret
  rw[Q_.o,hr.o];exact nerr (F2.o.still (ze_.drewN _ _)) (M2.o.R.still (ze_.drewN _ _)) hnl
 case pos=>
 by_cases h58:bt s (z6_ s (i+1))=58
 case neg=>
  have hr:=q_ (show y9_ (rdT s (za_ ds) false f) s false l i=none by rw[hrd,if_neg (λ h=>h58 (hbd.2 h).2)]);replace hD:=q_ hD;replace h58:=q_ h58;clear M ho hX hR hrd hbd hk hNn
  go_in
  go_wp2_with (first
   |(go_at_call 164;refine(z7_ 60 M0.o.R hs4 hil (by decide) (by decide) h60.o).mono ?_;rintro e w1 ⟨rfl,hf1,h1⟩;have M1:=q_ (M0.o.call h1 hf1 hlt);have F1:=q_ (A'.o.trans hf1 u_);have N1:=q_ (hf1.blk hN.o (by omega));have n1:=N1.o.c1;clear hf1 h1)
   |(go_at_call 211;refine(hDec.o w1 M1.o).mono ?_;rintro e w2 ⟨n,b,rfl,hf2,h2,hb,hv⟩;have M2:=q_ (M1.o.call h2 hf2 hnl);have F2:=q_ (F1.o.trans hf2 u_);have N2:=q_ (hf2.blk N1.o (by omega));obtain rfl:=hb.2 hD.o;clear hb hv;clear hf2 h2)
   |(go_at_call 164;refine(xc_ 58 M2.o.R hs4 hnl (by decide) (by decide) h58.o).mono ?_;rintro e w3 ⟨rfl,hf3,h3⟩;have e3:=(M2.o.call h3 hf3 hnl).e;replace hf3:=q_ hf3;replace h3:=q_ h3))
  go_quiet (fail)
  go_wp2_with fail
  try go_ret
  rw[Q_.o,hr.o];exact nerr ((F2.o.trans hf3.o u_).still (ze_.drewN _ _)) (h3.o.still (ze_.drewN _ _)) hnl
 case pos=>
 have hg:=hbd.1 ⟨hD,h58⟩
 have hval:H_ (∀ v,Lib.parseIntB 64 (s.extract (i+1) (z6_ s (i+1))).data.toList=.ok v->v=(N:Int)):=q_ (λ v hp=>by
  have:=zxe hlt (by rw[hk,hNn];exact hg.1) (by rw[hk];exact hg.2) hp
  rw[hk,hNn] at this
  exact this.2)
 have hnk:z6_ s (i+1)=k:=by
  obtain⟨v,hv,_⟩:=hD.2;have:=zxe hlt (by rw[hk,hNn];exact hg.1) (by rw[hk];exact hg.2) hv;rw[hk] at this;exact this.1
 have hNl:N<l.length:=by
  have:=hg.1;unfold zgj at this;exact(of_decide_eq_true this).2.2
 obtain⟨t,ht⟩:∃ t,l[N]?=some t:=⟨_,am_ hNl⟩
 have hr:y9_ (rdT s (za_ ds) false f) s false l i=match rdT s (za_ ds) false f t (k+1) with|none=>none|some (d,j)=>if bt s j=62 then some (.mk 40 (N:Int) noB [] [d],j+1) else none:=by rw[hrd,if_pos hg,ht];try rfl
 have hk58:=q_ hg.2;have hkl:k+1<=s.size:=zl_ (s:=s) (i:=k) (by have:=hg.2;omega);have hge:=q_ (show i+1<=k by rw[<- hnk];exact ah_ (zju (s:=s) hlt).1 (zju (s:=s) hlt).2.2.1);have hBr:H_ (∀ W,NC w0 P ss ds (sv) rv xs s nt nx false br (k+1) W->Fr w W (· = br)->Calls prog 218 #[.pointer (some ⟨br,0,none⟩),.agg #[.int .i64 p,.slice ba (m+1) bc],.int .i64 (N:Int)] W (yr_ (za_ ds) (.alts q0 l) W sv rv s nt nx false br (oneB N (rdT s (za_ ds) false f t (k+1))))):=q_ (λ W MW hf=>zf2 (tt:=.alts q0 l) (by simp only[yb_,aq_,ht];rfl) MW (zb_ ho hf (λ g hg e=>M.brP (e▸hoP g hg))) (by have:=hm.o;omega) (by omega) ((hX N t ht).fr hf (λ g hg e=>M.brP (e▸hg))) hI (hR t (ak_ ht) (k+1) (by have:=hge.o;omega) hkl));replace hD:=q_ hD;rw[hnk] at h58 hnl;replace hnk:=q_ hnk;clear ho hX hR hrd hbd hg ht hk hNn
 have hkl0:k<=s.size:=by omega
 cases hp:rdT s (za_ ds) false f t (k+1) with
 | none=>
  rw[hp] at hr;replace hr:=q_ hr;replace hp:=q_ hp;clear M
  go_in
  go_wp2_with (first
   |(go_at_call 164;refine(z7_ 60 M0.o.R hs4 hil (by decide) (by decide) h60.o).mono ?_;rintro e w1 ⟨rfl,hf1,h1⟩;have M1:=q_ (M0.o.call h1 hf1 hlt);have F1:=q_ (A'.o.trans hf1 u_);have N1:=q_ (hf1.blk hN.o (by omega));have n1:=N1.o.c1;clear hf1 h1)
   |(go_at_call 211;refine(hDec.o w1 M1.o).mono ?_;rintro e w2 ⟨n,b,rfl,hf2,h2,hb,hv⟩;have M2:=q_ (M1.o.call h2 hf2 (by rw[hnk.o];exact hkl0));have F2:=q_ (F1.o.trans hf2 u_);have N2:=q_ (hf2.blk N1.o (by omega));obtain rfl:=hb.2 hD.o;obtain rfl:=hval.o _ (hv rfl);rw[hnk.o] at M2;clear hb hv;clear hf2 h2)
   |(go_at_call 164;refine(z7_ 58 M2.o.R hs4 hkl0 (by decide) (by decide) hk58.o).mono ?_;rintro e w3 ⟨rfl,hf3,h3⟩;have M3:=q_ (M2.o.call h3 hf3 hkl);have F3:=q_ (F2.o.trans hf3 u_);have N3:=hf3.blk N2.o (by omega);have n30:=N3.c0;have n31:=N3.c1;clear N3 hf3 h3)
   |(go_at_call 218;refine(hBr.o _ M3.o F3.o).mono ?_;rintro e w4 ⟨v4,ev4,rfl,hf4,hm⟩;rw[hp.o] at hm;obtain⟨rfl,hErr,j4,h4,hj4⟩:=hm;obtain⟨eT,ex,rfl⟩:=hErr.iface;replace hErr:=q_ hErr;replace hf4:=q_ hf4;replace h4:=q_ h4))
  try go_ret
  rw[Q_.o,hr.o];have hF4:=F3.o.trans hf4.o u_;exact⟨.nilIface,_,rfl,hF4,rfl,hErr.o.less F3.o.size,j4,h4.o,hj4⟩
 | some q=>
  obtain⟨d,j2⟩:=q;rw[hp] at hr;have hj2:=(j2_ s (za_ ds) false f t (k+1) d j2 hp).2;replace hp:=q_ hp;clear M
  by_cases h62:bt s j2=62
  ·have hj3:j2+1<=s.size:=zl_ (s:=s) (i:=j2) (by omega);simp only[h62,if_true] at hr;replace hr:=q_ hr;replace h62:=q_ h62
   go_in
   go_wp2_with (first
    |(go_at_call 164;refine(z7_ 60 M0.o.R hs4 hil (by decide) (by decide) h60.o).mono ?_;rintro e w1 ⟨rfl,hf1,h1⟩;have M1:=q_ (M0.o.call h1 hf1 hlt);have F1:=q_ (A'.o.trans hf1 u_);have N1:=q_ (hf1.blk hN.o (by omega));have n1:=N1.o.c1;clear hf1 h1)
    |(go_at_call 211;refine(hDec.o w1 M1.o).mono ?_;rintro e w2 ⟨n,b,rfl,hf2,h2,hb,hv⟩;have M2:=q_ (M1.o.call h2 hf2 (by rw[hnk.o];exact hkl0));have F2:=q_ (F1.o.trans hf2 u_);have N2:=q_ (hf2.blk N1.o (by omega));obtain rfl:=hb.2 hD.o;obtain rfl:=hval.o _ (hv rfl);rw[hnk.o] at M2;clear hb hv;clear hf2 h2)
    |(go_at_call 164;refine(z7_ 58 M2.o.R hs4 hkl0 (by decide) (by decide) hk58.o).mono ?_;rintro e w3 ⟨rfl,hf3,h3⟩;have M3:=q_ (M2.o.call h3 hf3 hkl);have F3:=q_ (F2.o.trans hf3 u_);have N3:=hf3.blk N2.o (by omega);have n30:=N3.c0;have n31:=N3.c1;clear N3 hf3 h3)
    |(go_at_call 218;refine(hBr.o _ M3.o F3.o).mono ?_;rintro e w4 ⟨v4,ev4,rfl,hf4,hm⟩;rw[hp.o] at hm;obtain⟨rfl,hDv,h4,hj4⟩:=hm;obtain⟨dT,dx,rfl⟩:=hDv.iface;replace hDv:=q_ hDv;replace hf4:=q_ hf4;replace h4:=q_ h4)
    |(go_at_call 164;refine(z7_ 62 h4.o hs4 hj2 (by decide) (by decide) h62.o).mono ?_;rintro e w5 ⟨rfl,hf5,h5⟩;replace hf5:=q_ hf5;replace h5:=q_ h5))
   try go_ret
   rw[Q_.o,hr.o];have hs3:=F3.o.size;exact nok ((hDv.o.fr hf5.o (λ g hg e=>by have:=M3.o.lt;omega)).mono (λ g _ hg=>by omega)) ((F3.o.trans hf4.o u_).trans hf5.o u_) h5.o hj3
  ·simp only[h62,if_false] at hr;replace hr:=q_ hr;replace h62:=q_ h62
   go_in
   go_wp2_with (first
    |(go_at_call 164;refine(z7_ 60 M0.o.R hs4 hil (by decide) (by decide) h60.o).mono ?_;rintro e w1 ⟨rfl,hf1,h1⟩;have M1:=q_ (M0.o.call h1 hf1 hlt);have F1:=q_ (A'.o.trans hf1 u_);have N1:=q_ (hf1.blk hN.o (by omega));have n1:=N1.o.c1;clear hf1 h1)
    |(go_at_call 211;refine(hDec.o w1 M1.o).mono ?_;rintro e w2 ⟨n,b,rfl,hf2,h2,hb,hv⟩;have M2:=q_ (M1.o.call h2 hf2 (by rw[hnk.o];exact hkl0));have F2:=q_ (F1.o.trans hf2 u_);have N2:=q_ (hf2.blk N1.o (by omega));obtain rfl:=hb.2 hD.o;obtain rfl:=hval.o _ (hv rfl);rw[hnk.o] at M2;clear hb hv;clear hf2 h2)
    |(go_at_call 164;refine(z7_ 58 M2.o.R hs4 hkl0 (by decide) (by decide) hk58.o).mono ?_;rintro e w3 ⟨rfl,hf3,h3⟩;have M3:=q_ (M2.o.call h3 hf3 hkl);have F3:=q_ (F2.o.trans hf3 u_);have N3:=hf3.blk N2.o (by omega);have n30:=N3.c0;have n31:=N3.c1;clear N3 hf3 h3)
    |(go_at_call 218;refine(hBr.o _ M3.o F3.o).mono ?_;rintro e w4 ⟨v4,ev4,rfl,hf4,hm⟩;rw[hp.o] at hm;obtain⟨rfl,hDv,h4,hj4⟩:=hm;obtain⟨dT,dx,rfl⟩:=hDv.iface;clear hDv;have M4:=q_ (M3.o.call h4 hf4 hj4);replace hf4:=q_ hf4;replace h4:=q_ h4)
    |(go_at_call 164;refine(xc_ 62 h4.o hs4 hj2 (by decide) (by decide) h62.o).mono ?_;rintro e w5 ⟨rfl,hf5,h5⟩;have e5:=(M4.o.call h5 hf5 hj2).e;replace hf5:=q_ hf5;replace h5:=q_ h5))
   go_quiet (fail)
   go_wp2_with fail
   try go_ret
   rw[Q_.o,hr.o];exact nerr (((F3.o.trans hf4.o u_).trans hf5.o u_).still (ze_.drewN _ _)) (h5.o.still (ze_.drewN _ _)) hj2
end
section
variable {w0:World} {P:Nat->Prop} {ss:BA} {ds:List PD} {sv rv:Value} {xs:List Value} {s:BA} {nt:TypeId} {nx:Value} {br:Nat}
theorem zxp (hI:yi_ w0) (hPar:xh_ w0):UniN w0 P ss ds sv rv xs s nt nx false br:=by
 intro f p l i hne hbl _ hR w v M hT
 have hlen:l.length<=300:=by
  rcases hbl with h|h
  ·cases h
  ·exact h
 obtain⟨X,v2,ho,hP,hX,rfl⟩:∃ X v2,w.ownsRow 0 88 1 v2 l.length ((List.range l.length).map X)/\(∀ g,v2.ownBlock=some g->P g)/\(∀ i u,l[i]?=some u->TyV w P u (X i))/\v=.iface 258 (.agg #[.int .i64 (p:Int),v2]):=by
  cases hT with
  | alts _ X ho hP h=>exact⟨X,_,ho,hP,h,rfl⟩
 obtain⟨ba,bc,rfl⟩:=zf_ ho;rw[rdT];refine hq_ λ POST Q_=>?_;have A:Fr w (w.alloc (.cells #[.int .i64 (p:Int),.slice ba l.length bc] 258)) (λ _=>False):=(Fr.refl w _).alloc _;have M0:=M.new A;have hC:=q_ (zmz (q0:=p) (p:=(p:Int)) M0 (zb_ ho A u_) (λ k u e=>(hX k u e).fr A u_) hP hne hlen hI hPar (λ t ht j h1 h2=>hR t ht j (λ h=>by cases h) (λ _=>h1) h2));replace A:=q_ A;clear M0 M ho hX hR hT hP;generalize l.length=n at hC A hlen⊢;have a0:=zh_ 258 (by decide);have a1:=zo_ 258 (by decide);have a2:=zz_ 258 (by decide);have a3:=zw_ 258 (by decide);have a4:=z3_ 258 (by decide);have a5:=zy_ 258 (by decide);have a6:=yw_ 258 (by decide);have a7:=x1_
 go_in
 go_wp2_with (go_at_call 170;refine hC.o.mono ?_;intro e w2 hN;obtain⟨v2,ev2,rfl,hN2⟩:=hN;replace hN2:=q_ hN2)
 try go_ret
 rw[Q_.o];exact yr_.pre A.o ⟨v2,ev2,rfl,hN2.o⟩
end
end Go.Proofs.YthmjjpkjgjklmaaGreatDoor
