import Derived.Test.YthmjjpkjgjklmaaGreatDoorW20
import Derived.Test.YthmjjpkjgjklmaaGreatDoorW06
import Derived.Laws.BitsLemmas
import Derived.Test.YthmjjpkjgjklmaaGreatDoorA00
set_option maxHeartbeats 16000000
set_option maxRecDepth 100000
set_option linter.unusedSimpArgs false
open Go.Proofs.Tryz
namespace Go.Proofs.YthmjjpkjgjklmaaGreatDoor
open Go.RowKit
def z0m (W:World) (t:BA) (e:Ending) (w':World):Prop:=Fr W w' (λ _=>False)/\
 ((∃ v,Lib.parseIntB 64 t.data.toList=.ok v/\e=.returned (.tuple #[.int .i64 v,.nilIface]))\/((∀ v,Lib.parseIntB 64 t.data.toList≠.ok v)/\∃ v T x,e=.returned (.tuple #[.int .i64 v,.iface T x])))
def zay (s:BA) (i:Nat):Prop:=0<(z4_ s i).size/\¬ (bt (z4_ s i) 0=48/\(1<(z4_ s i).size\/xu_ s i=true))
def zn1 (w:World) (br:Nat) (sv rv:Value) (s:BA) (i:Nat) (nb:Bool) (lo hi:Int) (e:Ending) (w':World):Prop:=
 ∃ n b,e=.returned (.tuple #[.int .i64 n,.bool b])/\Fr w w' (· = br)/\RdAt w' br sv rv s (z6_ s i) nb/\
  (b=true↔(zay s i/\∃ v,Lib.parseIntB 64 (s.extract i (z6_ s i)).data.toList=.ok v/\lo<=v/\v<=hi))/\(b=true->Lib.parseIntB 64 (s.extract i (z6_ s i)).data.toList=.ok n)
section
variable {w:World} {br:Nat} {sv rv:Value} {s:BA} {i:Nat} {nb:Bool} {lo hi:Int}
theorem zsn (h:RdAt w br sv rv s i nb) (hs:s.size<=4000) (hi:i<=s.size) :
 Calls prog 164 #[.pointer (some ⟨br,0,none⟩),.int .u8 45] w λ e w'=>e=.returned (.bool (xu_ s i))/\Fr w w' (· = br)/\RdAt w' br sv rv s (sgn s i) nb:=by
 refine(zfz 45 h hs hi rfl (by decide)).mono ?_;rintro e w' ⟨b,rfl,hf,hT⟩
 rcases hT with⟨hy,rfl,h1,_⟩|⟨hn,rfl,h1⟩
 ·refine⟨?_,hf,?_⟩
  ·unfold xu_;rw[hy];rfl
  ·unfold sgn;rw[if_pos hy];exact h1
 ·refine⟨?_,hf,?_⟩
  ·have:xu_ s i=false:=by unfold xu_;exact beq_eq_false_iff_ne.2 (by omega)
   rw[this]
  ·unfold sgn;rw[if_neg hn];exact h1
theorem zju (hi:i<=s.size):i<=sgn s i/\sgn s i<=s.size/\sgn s i<=z6_ s i/\z6_ s i<=s.size:=by
 have h1:i<=sgn s i/\sgn s i<=s.size:=by
  unfold sgn;split
  ·rename_i h
   have:i<s.size:=by
    by_cases hh:i<s.size
    ·exact hh
    ·unfold bt at h;rw[dif_neg hh] at h;exact absurd h (by decide)
   omega
  ·omega
 have h2:=yj_ 48 57 s _ (sgn s i) l_;exact⟨h1.1,h1.2,h2.1,h2.2 h1.2⟩
theorem zd8 (h:RdAt w br sv rv s i nb) (hs:s.size<=4000) (hil:i<=s.size)
 (hP:∀ W,Fr w W (· = br)->Calls prog 249 #[.string (s.extract i (z6_ s i)),.int .i64 10,.int .i64 64] W (z0m W (s.extract i (z6_ s i)))) :
 Calls prog 211 #[.pointer (some ⟨br,0,none⟩),.int .i64 lo,.int .i64 hi] w (zn1 w br sv rv s i nb lo hi):=by
 refine hq_ λ POST Q_=>?_;obtain⟨l1,l2,l3,l4⟩:=zju hil;have c3:=h.c3;have hC1:=q_ (zsn h hs hil);have hC2:H_ (∀ W,RdAt W br sv rv s (sgn s i) nb->Calls prog 216 #[.pointer (some ⟨br,0,none⟩),.func (.func 248) #[] #[]] W λ e w'=>e=.returned (.string (z4_ s i))/\Fr W w' (· = br)/\RdAt w' br sv rv s (z6_ s i) nb):=q_ (λ W hW=>zm2 hW hs l2)
 have hbad:H_ (¬ zay s i->∀ W,Fr w W (· = br)->RdAt W br sv rv s (z6_ s i) nb->POST (.returned (.tuple #[.int .i64 0,.bool false])) W):=q_ (λ hn W hf hR=>by
  rw[Q_.o]
  exact⟨0,false,rfl,hf,hR,⟨λ e=>absurd e (by decide),λ e=>absurd e.1 hn⟩,λ e=>absurd e (by decide)⟩)
 have hgood:H_ (zay s i->∀ n b W,Fr w W (· = br)->RdAt W br sv rv s (z6_ s i) nb->(b=true↔∃ v,Lib.parseIntB 64 (s.extract i (z6_ s i)).data.toList=.ok v/\lo<=v/\v<=hi)->(b=true->Lib.parseIntB 64 (s.extract i (z6_ s i)).data.toList=.ok n)->POST (.returned (.tuple #[.int .i64 n,.bool b])) W):=q_ (λ hn n b W hf hR hb hv=>by
  rw[Q_.o]
  exact⟨n,b,rfl,hf,hR,hb.trans ⟨λ e=>⟨hn,e⟩,λ e=>e.2⟩,hv⟩)
 replace hP:=q_ hP;have hfit:zay s i=(0<(z4_ s i).size/\¬ (bt (z4_ s i) 0=48/\(1<(z4_ s i).size\/xu_ s i=true))):=rfl
 have l5:i<=z6_ s i:=by omega
 clear l1 l2 l3 h;generalize z4_ s i=t at hC2 hfit;generalize z6_ s i=k at *;generalize xu_ s i=neg at *;generalize sgn s i=j at *
 by_cases ht0:t.size=0
 ·have e0:t.toList=[]:=by rw[ByteArray.toList_eq];exact ca_ (by rw[Array.length_toList];exact ht0)
  have hnf:=q_ (show ¬ zay s i by rw[hfit];omega);clear hfit
  go_in
  go_wp2_with (first
   |(go_at_call 164;refine hC1.o.mono ?_;rintro e w1 ⟨rfl,hf1,h1⟩;have F1:=q_ hf1;have R1:=q_ h1;clear hf1 h1)
   |(go_at_call 216;refine(hC2.o _ R1.o).mono ?_;rintro e w2 ⟨rfl,hf2,h2⟩;have F2:=q_ (F1.o.trans hf2 u_);have R2:=q_ h2;clear hf2 h2))
  exact hbad.o hnf.o _ F2.o R2.o
 ·have h0:0<t.size:=by omega
  have e0:¬ t.toList=[]:=by
   rw[ByteArray.toList_eq];intro e;have:t.data.toList.length=t.size:=Array.length_toList;rw[e,ax_] at this;omega
  have e1:t.toList.isEmpty=false:=by cases hh:t.toList with|nil=>exact absurd hh e0|cons _ _=>rfl
  obtain⟨c,hc⟩:∃ c,bt t 0=c:=⟨_,rfl⟩
  have hbk:((t[0]'h0).toNat:Int)=(c:Int):=by rw[<- hc,zbh t 0 h0]
  rw[hc] at hfit;replace hc:=q_ hc
  have harm:(c=48/\neg=true)\/(c=48/\neg=false/\1<t.size)\/c≠48\/(c=48/\neg=false/\t.size=1):=by
   cases neg
   ·by_cases c=48
    ·by_cases 1<t.size
     ·simp_all
     ·exact .inr (.inr (.inr ⟨by assumption,rfl,by omega⟩))
    ·simp_all
   ·by_cases c=48<;>simp_all
  rcases harm with⟨rfl,rfl⟩|⟨rfl,rfl,h1⟩|hne|⟨rfl,rfl,h1⟩
  ·have hnf:=q_ (show ¬ zay s i by rw[hfit];simp);clear hfit
   go_in
   go_wp2_with (first
    |(go_at_call 164;refine hC1.o.mono ?_;rintro e w1 ⟨rfl,hf1,h1⟩;have F1:=q_ hf1;have R1:=q_ h1;clear hf1 h1)
    |(go_at_call 216;refine(hC2.o _ R1.o).mono ?_;rintro e w2 ⟨rfl,hf2,h2⟩;have F2:=q_ (F1.o.trans hf2 u_);have R2:=q_ h2;clear hf2 h2))
   exact hbad.o hnf.o _ F2.o R2.o
  ·have hnf:=q_ (show ¬ zay s i by rw[hfit];simp[h1]);clear hfit
   have h1':(1:Int)<(t.size:Int):=by omega
   go_in
   go_wp2_with (first
    |(go_at_call 164;refine hC1.o.mono ?_;rintro e w1 ⟨rfl,hf1,h1⟩;have F1:=q_ hf1;have R1:=q_ h1;clear hf1 h1)
    |(go_at_call 216;refine(hC2.o _ R1.o).mono ?_;rintro e w2 ⟨rfl,hf2,h2⟩;have F2:=q_ (F1.o.trans hf2 u_);have R2:=q_ h2;clear hf2 h2))
   exact hbad.o hnf.o _ F2.o R2.o
  case' neg.inr.inr.inl=>have hf:=q_ (show zay s i by rw[hfit];exact⟨h0,λ e=>hne e.1⟩)
  case' neg.inr.inr.inl=>have hcn:((c:Int)==48)=false:=by simp;omega
  case' neg.inr.inr.inr=>have hf:=q_ (show zay s i by rw[hfit];exact⟨h0,by simp[h1]⟩)
  case' neg.inr.inr.inr=>have h1':¬ (1:Int)<(t.size:Int):=by omega
  all_goals clear hfit
  all_goals
   go_in
   go_wp2_with (first
    |(go_at_call 164;refine hC1.o.mono ?_;rintro e w1 ⟨rfl,hf1,h1⟩;have F1:=q_ hf1;have R1:=q_ h1;clear hf1 h1)
    |(go_at_call 216;refine(hC2.o _ R1.o).mono ?_;rintro e w2 ⟨rfl,hf2,h2⟩;have F2:=q_ (F1.o.trans hf2 u_);have R2:=q_ h2;clear hf2 h2))
   have s2:=R2.o.c2;have s3:=R2.o.c3;refine z8_ (λ W=>W.cell? ⟨br,2,none⟩=some (.string s)/\W.cell? ⟨br,3,none⟩=some (.int .i64 (k:Int))) (by kernel_rfl) ?_;refine zc_ 0 (.pointer (some ⟨br,0,none⟩)) rfl (by kernel_rfl) (λ _ _ _ h=>h) (by kernel_rfl) (by rintro W ⟨h1,h2⟩;go_simp) ?_;refine zc_ 1 (.pointer (some ⟨br,0,none⟩)) rfl (by kernel_rfl) (λ _ _ _ h=>h) (by kernel_rfl) (by rintro W ⟨h1,h2⟩;go_simp) ?_;refine zc_ 2 (.pointer (some ⟨br,2,none⟩)) rfl (by kernel_rfl) (λ _ _ _ h=>h) (by kernel_rfl) (by rintro W ⟨h1,h2⟩;go_simp) ?_;refine zc_ 3 (.string s) rfl (by kernel_rfl) (λ _ _ _ h=>h) (by kernel_rfl) (by rintro W ⟨h1,h2⟩;go_simp) ?_;refine zc_ 4 (.int .i64 (i:Int)) rfl (by kernel_rfl) (λ _ _ _ h=>h) (by kernel_rfl) (by rintro W ⟨h1,h2⟩;go_simp) ?_;refine zc_ 5 (.pointer (some ⟨br,0,none⟩)) rfl (by kernel_rfl) (λ _ _ _ h=>h) (by kernel_rfl) (by rintro W ⟨h1,h2⟩;go_simp) ?_;refine zc_ 6 (.pointer (some ⟨br,0,none⟩)) rfl (by kernel_rfl) (λ _ _ _ h=>h) (by kernel_rfl) (by rintro W ⟨h1,h2⟩;go_simp) ?_;refine zc_ 7 (.pointer (some ⟨br,3,none⟩)) rfl (by kernel_rfl) (λ _ _ _ h=>h) (by kernel_rfl) (by rintro W ⟨h1,h2⟩;go_simp) ?_;refine zc_ 8 (.int .i64 (k:Int)) rfl (by kernel_rfl) (λ _ _ _ h=>h) (by kernel_rfl) (by rintro W ⟨h1,h2⟩;go_simp) ?_;refine zc_ 9 (.string (s.extract i k)) rfl (by kernel_rfl) (λ _ _ _ h=>h) (by kernel_rfl) (by rintro W ⟨h1,h2⟩;go_simp) ?_;refine zr_ 10 rfl (by kernel_rfl) ⟨s2,s3⟩ (λ K hK=>?_);go_simp;refine(hP.o _ F2.o.drew).mono ?_;rintro e w3 ⟨hf3,hm⟩;have F3:=q_ (F2.o.drew.trans hf3 v_);have R3:H_ (RdAt w3 br sv rv s k nb):=q_ (hf3.blk R2.o id);have x2:=R3.o.c2;have x3:=R3.o.c3;replace hm:=q_ hm;clear hf3 s2 s3
   rcases hm.o with⟨v,hv,rfl⟩|⟨hno,v,T,x,rfl⟩
   ·replace hv:=q_ hv;refine hK _ _ ?_;clear hK K;refine zc_ 11 (.tuple #[.int .i64 v,.nilIface]) rfl (by kernel_rfl) (λ _ _ _ h=>h) (by kernel_rfl) (by rintro W ⟨h1,h2⟩;go_simp) ?_;refine zc_ 12 (.int .i64 v) rfl (by kernel_rfl) (λ _ _ _ h=>h) (by kernel_rfl) (by rintro W ⟨h1,h2⟩;go_simp) ?_;refine zc_ 13 .nilIface rfl (by kernel_rfl) (λ _ _ _ h=>h) (by kernel_rfl) (by rintro W ⟨h1,h2⟩;go_simp) ?_;refine zc_ 14 (.int .i64 v) rfl (by kernel_rfl) (λ _ _ _ h=>h) (by kernel_rfl) (by rintro W ⟨h1,h2⟩;go_simp) ?_;refine zc_ 15 .nilIface rfl (by kernel_rfl) (λ _ _ _ h=>h) (by kernel_rfl) (by rintro W ⟨h1,h2⟩;go_simp) ?_;refine z5_ (by kernel_rfl) ⟨x2,x3⟩ ?_ _
    by_cases hlo:v≥lo
    ·have dlo:decide (v≥lo)=true:=decide_eq_true hlo
     by_cases hhi:v<=hi
     ·have dhi:decide (v<=hi)=true:=decide_eq_true hhi
      go_wp2_with fail
      exact hgood.o hf.o v true _ F3.o R3.o ⟨λ _=>⟨v,hv.o,hlo,hhi⟩,λ _=>rfl⟩ (λ _=>hv.o)
     ·have dhi:decide (v<=hi)=false:=decide_eq_false hhi
      go_wp2_with fail
      exact hgood.o hf.o v false _ F3.o R3.o ⟨λ e=>absurd e (by decide),λ ⟨u,hu,_,h2⟩=>by rw[hv.o] at hu;cases hu;exact absurd h2 (by omega)⟩ (λ e=>absurd e (by decide))
    ·have dlo:decide (v≥lo)=false:=decide_eq_false hlo
     go_wp2_with fail
     exact hgood.o hf.o v false _ F3.o R3.o ⟨λ e=>absurd e (by decide),λ ⟨u,hu,h1,_⟩=>by rw[hv.o] at hu;cases hu;exact absurd h1 (by omega)⟩ (λ e=>absurd e (by decide))
   ·replace hno:=q_ hno;refine hK _ _ ?_;clear hK K;refine zc_ 11 (.tuple #[.int .i64 v,.iface T x]) rfl (by kernel_rfl) (λ _ _ _ h=>h) (by kernel_rfl) (by rintro W ⟨h1,h2⟩;go_simp) ?_;refine zc_ 12 (.int .i64 v) rfl (by kernel_rfl) (λ _ _ _ h=>h) (by kernel_rfl) (by rintro W ⟨h1,h2⟩;go_simp) ?_;refine zc_ 13 (.iface T x) rfl (by kernel_rfl) (λ _ _ _ h=>h) (by kernel_rfl) (by rintro W ⟨h1,h2⟩;go_simp) ?_;refine zc_ 14 (.int .i64 v) rfl (by kernel_rfl) (λ _ _ _ h=>h) (by kernel_rfl) (by rintro W ⟨h1,h2⟩;go_simp) ?_;refine zc_ 15 (.iface T x) rfl (by kernel_rfl) (λ _ _ _ h=>h) (by kernel_rfl) (by rintro W ⟨h1,h2⟩;go_simp) ?_;refine z5_ (by kernel_rfl) ⟨x2,x3⟩ ?_ _
    go_wp2_with fail
    exact hgood.o hf.o v false _ F3.o R3.o ⟨λ e=>absurd e (by decide),λ ⟨u,hu,_,_⟩=>absurd hu (hno.o u)⟩ (λ e=>absurd e (by decide))
end
open Go.RowKit
theorem zh5 (n:Int) (h : -9223372036854775808<=n) (h':n<=9223372036854775807):wrap64 n=n:=by
 have:=IntKind.wrap_i64 n;unfold wrap64;omega
theorem zov:∀ a b:List UInt8,dv (a++b)=dv a*10 ^ b.length+dv b
 | [],b=>by simp[dv]
 | c::r,b=>by
  simp only[bn_,dv,zov r b,al_,Nat.pow_add,Nat.add_mul,Nat.mul_assoc];omega
theorem zyu {t:BA}{a:Nat}(h:a<t.size):∃ c,t.data.toList[a]?=some c/\bt t a=c.toNat:=by
 refine⟨t[a],?_,zbh t a h⟩;rw[Array.getElem?_toList];exact Array.getElem?_eq_getElem h
theorem zbn {neg:Bool}{t:BA}(hd:digs t.data.toList) (hb:dv t.data.toList<=9223372036854775807+(if neg=true then 1 else 0)) :
 ∀ a,a<=t.size->numV neg t a=if neg=true then -(dv (t.data.toList.take a):Int) else (dv (t.data.toList.take a):Int):=by
 intro a
 induction a with
 | zero=>intro _;simp[numV,dv]
 | succ a ih=>
  intro ha;obtain⟨c,hc,hbt⟩:=zyu (t:=t) (a:=a) (by omega);have hm:c∈t.data.toList:=ak_ hc;have hcd:=hd c hm
  have htk:t.data.toList.take (a+1)=t.data.toList.take a++[c]:=by rw[ba_,hc];rfl
  have h1:=zov (t.data.toList.take a) [c];have h2:=zov (t.data.toList.take (a+1)) (t.data.toList.drop (a+1));rw[List.take_append_drop] at h2
  have h3:dv (t.data.toList.take (a+1))<=dv t.data.toList:=by
   have:1<=10 ^ (t.data.toList.drop (a+1)).length:=Nat.one_le_pow _ _ (by decide);have:=Nat.mul_le_mul_left (dv (t.data.toList.take (a+1))) this;omega
  simp only[ai_,Nat.pow_one,dv,ax_,Nat.pow_zero,Nat.mul_one,a7_] at h1;rw[htk] at h3⊢;rw[numV,ih (by omega),hbt];rw[h1] at h3⊢;generalize dv (t.data.toList.take a)=x at *;generalize dv t.data.toList=y at *
  cases neg with
  | true=>
   simp only[if_true] at hb⊢;unfold zm0;rw[if_pos rfl,zh5 (10 * -(x:Int)) (by omega) (by omega),zh5 (c.toNat:Int) (by omega) (by omega),zh5 ((c.toNat:Int)-48) (by omega) (by omega),zh5 _ (by omega) (by omega)];omega
  | false=>
   simp only[az_,if_false,a7_] at hb⊢;unfold zm0;rw[if_neg (by decide),zh5 (10*(x:Int)) (by omega) (by omega),zh5 (c.toNat:Int) (by omega) (by omega),zh5 ((c.toNat:Int)-48) (by omega) (by omega),zh5 _ (by omega) (by omega)];omega
theorem zkf {s:BA}{i:Nat}{v:Int}(h0:0<(z4_ s i).size) (hp:Lib.parseIntB 64 (s.extract i (z6_ s i)).data.toList=.ok v) :
 numV (xu_ s i) (z4_ s i) (z4_ s i).size=v/\-9223372036854775808<=v/\v<=9223372036854775807:=by
 have hd:digs (z4_ s i).data.toList:=zbv s (sgn s i);have hsz:(z4_ s i).size=(z4_ s i).data.toList.length:=Array.length_toList.symm
 have hne:(z4_ s i).data.toList≠[]:=by
  intro e;rw[e,ax_] at hsz;omega
 have htk:(z4_ s i).data.toList.take (z4_ s i).size=(z4_ s i).data.toList:=by rw[hsz];exact List.take_length
 by_cases h45:bt s i=45
 ·have hneg:xu_ s i=true:=by unfold xu_;rw[h45];rfl
  have hlt:i<s.size:=zl_ (by omega)
  have hs:sgn s i=i+1:=by unfold sgn;rw[if_pos h45]
  have hge:=yj_ 48 57 s _ (i+1) l_
  have he:(s.extract i (z6_ s i)).data.toList=45::(z4_ s i).data.toList:=by
   unfold z4_ z6_;rw[hs,j5_ (by omega) (hge.2 (by omega))];refine List.cons_eq_cons.2 ⟨?_,rfl⟩;rw[zbh s i hlt] at h45;exact UInt8.toNat_inj.1 (h45.trans (by decide))
  rw[he,znh hne hd] at hp;split at hp
  ·rename_i hle;cases hp;refine⟨?_,by omega,by omega⟩;rw[hneg,zbn hd (by simp only[if_true];omega) _ l_,if_pos rfl,htk]
  ·cases hp
 ·have hneg:xu_ s i=false:=by
   unfold xu_;exact beq_eq_false_iff_ne.2 (by omega)
  have hs:sgn s i=i:=by unfold sgn;rw[if_neg h45]
  have he:s.extract i (z6_ s i)=z4_ s i:=by unfold z4_;rw[hs]
  rw[he,zgb hne hd] at hp;split at hp
  ·rename_i hle;cases hp;refine⟨?_,by omega,by omega⟩;rw[hneg,zbn hd (by simp only[az_,if_false];omega) _ l_,if_neg (by decide),htk]
  ·cases hp
end Go.Proofs.YthmjjpkjgjklmaaGreatDoor
