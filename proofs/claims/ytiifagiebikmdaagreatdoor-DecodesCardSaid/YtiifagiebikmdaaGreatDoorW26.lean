import Derived.Test.YtiifagiebikmdaaGreatDoorW25
import Derived.Test.YtiifagiebikmdaaGreatDoorW08
import Derived.Laws.BitsLemmas
import Derived.Test.YtiifagiebikmdaaGreatDoorA00
set_option maxHeartbeats 16000000
set_option maxRecDepth 100000
set_option linter.unusedSimpArgs false
open Go.Proofs.Tryz
namespace Go.Proofs.YtiifagiebikmdaaGreatDoor
open Go.RowKit
def zze (W:World) (t:BA) (e:Ending) (w':World):Prop:=Fr W w' (λ _=>False)/\
 ((∃ v,Lib.parseIntB 64 t.data.toList=.ok v/\e=.returned (.tuple #[.int .i64 v,.nilIface]))\/((∀ v,Lib.parseIntB 64 t.data.toList≠.ok v)/\∃ v T x,e=.returned (.tuple #[.int .i64 v,.iface T x])))
def zcz (s:BA) (i:Nat):Prop:=0<(y6_ s i).size/\¬ (bt (y6_ s i) 0=48/\(1<(y6_ s i).size\/jb_ s i=true))
def zs3 (w:World) (br:Nat) (sv rv:Value) (s:BA) (i:Nat) (nb:Bool) (lo hi:Int) (e:Ending) (w':World):Prop:=
 ∃ n b,e=.returned (.tuple #[.int .i64 n,.bool b])/\Fr w w' (· = br)/\RdAt w' br sv rv s (xe_ s i) nb/\
  (b=true↔(zcz s i/\∃ v,Lib.parseIntB 64 (s.extract i (xe_ s i)).data.toList=.ok v/\lo<=v/\v<=hi))/\(b=true->Lib.parseIntB 64 (s.extract i (xe_ s i)).data.toList=.ok n)
section
variable {w:World} {br:Nat} {sv rv:Value} {s:BA} {i:Nat} {nb:Bool} {lo hi:Int}
theorem zra (h:RdAt w br sv rv s i nb) (hs:s.size<=4000) (hi:i<=s.size) :
 Calls prog 114 #[.pointer (some ⟨br,0,none⟩),.int .u8 45] w λ e w'=>e=.returned (.bool (jb_ s i))/\Fr w w' (· = br)/\RdAt w' br sv rv s (sgn s i) nb:=by
 refine(zfs 45 h hs hi rfl (by decide)).mono ?_;rintro e w' ⟨b,rfl,a,d⟩
 rcases d with⟨c,rfl,h1,_⟩|⟨hn,rfl,h1⟩
 ·refine⟨?_,a,?_⟩
  ·unfold jb_;rw[c];rfl
  ·unfold sgn;rw[if_pos c];exact h1
 ·refine⟨?_,a,?_⟩
  ·have:jb_ s i=false:=by unfold jb_;exact beq_eq_false_iff_ne.2 (by omega)
   rw[this]
  ·unfold sgn;rw[if_neg hn];exact h1
theorem zvb (hi:i<=s.size):i<=sgn s i/\sgn s i<=s.size/\sgn s i<=xe_ s i/\xe_ s i<=s.size:=by
 have h1:i<=sgn s i/\sgn s i<=s.size:=by
  unfold sgn;split
  ·rename_i h
   have:i<s.size:=by
    by_cases b:i<s.size
    ·exact b
    ·unfold bt at h;rw[dif_neg b] at h;exact absurd h (by decide)
   omega
  ·omega
 have a:=vh_ 48 57 s _ (sgn s i) l_;exact⟨h1.1,h1.2,a.1,a.2 h1.2⟩
theorem zj5 (h:RdAt w br sv rv s i nb) (hs:s.size<=4000) (S:i<=s.size)
 (hP:∀ W,Fr w W (· = br)->Calls prog 164 #[.string (s.extract i (xe_ s i)),.int .i64 10,.int .i64 64] W (zze W (s.extract i (xe_ s i)))) :
 Calls prog 141 #[.pointer (some ⟨br,0,none⟩),.int .i64 lo,.int .i64 hi] w (zs3 w br sv rv s i nb lo hi):=by
 refine hq_ λ P Q=>?_;obtain⟨l1,l2,l3,l4⟩:=zvb S;have c3:=h.c3;have D:=q_ (zra h hs S);have A:H_ (∀ W,RdAt W br sv rv s (sgn s i) nb->Calls prog 147 #[.pointer (some ⟨br,0,none⟩),.func (.func 163) #[] #[]] W λ e w'=>e=.returned (.string (y6_ s i))/\Fr W w' (· = br)/\RdAt w' br sv rv s (xe_ s i) nb):=q_ (λ W hW=>zl8 hW hs l2)
 have H:H_ (¬ zcz s i->∀ W,Fr w W (· = br)->RdAt W br sv rv s (xe_ s i) nb->P (.returned (.tuple #[.int .i64 0,.bool false])) W):=q_ (λ hn W m G=>by
  rw[Q.o]
  exact⟨0,false,rfl,m,G,⟨λ e=>absurd e (by decide),λ e=>absurd e.1 hn⟩,λ e=>absurd e (by decide)⟩)
 have F:H_ (zcz s i->∀ n b W,Fr w W (· = br)->RdAt W br sv rv s (xe_ s i) nb->(b=true↔∃ v,Lib.parseIntB 64 (s.extract i (xe_ s i)).data.toList=.ok v/\lo<=v/\v<=hi)->(b=true->Lib.parseIntB 64 (s.extract i (xe_ s i)).data.toList=.ok n)->P (.returned (.tuple #[.int .i64 n,.bool b])) W):=q_ (λ hn n b W m G hb q=>by
  rw[Q.o]
  exact⟨n,b,rfl,m,G,hb.trans ⟨λ e=>⟨hn,e⟩,λ e=>e.2⟩,q⟩)
 replace hP:=q_ hP;have g:zcz s i=(0<(y6_ s i).size/\¬ (bt (y6_ s i) 0=48/\(1<(y6_ s i).size\/jb_ s i=true))):=rfl
 have l5:i<=xe_ s i:=by omega
 clear l1 l2 l3 h;generalize y6_ s i=t at A g;generalize xe_ s i=k at *;generalize jb_ s i=neg at *;generalize sgn s i=j at *
 by_cases a4:t.size=0
 ·have R:t.toList=[]:=by rw[ByteArray.toList_eq];exact List.eq_nil_of_length_eq_zero (by rw[Array.length_toList];exact a4)
  have B:=q_ (show ¬ zcz s i by rw[g];omega);clear g
  go_in
  go_wp2_with (first
   |(go_at_call 114;refine D.o.mono ?_;rintro e w1 ⟨rfl,d,h1⟩;have r:=q_ d;have y:=q_ h1;clear d h1)
   |(go_at_call 147;refine(A.o _ y.o).mono ?_;rintro e O ⟨rfl,f,a⟩;have p:=q_ (r.o.trans f u_);have l:=q_ a;clear f a))
  exact H.o B.o _ p.o l.o
 ·have h0:0<t.size:=by omega
  have R:¬ t.toList=[]:=by
   rw[ByteArray.toList_eq];intro e;have:t.data.toList.length=t.size:=Array.length_toList;rw[e,ao_] at this;omega
  have e1:t.toList.isEmpty=false:=by cases hh:t.toList with|nil=>exact absurd hh R|cons _ _=>rfl
  obtain⟨c,hc⟩:∃ c,bt t 0=c:=⟨_,rfl⟩
  have a5:((t[0]'h0).toNat:Int)=(c:Int):=by rw[<- hc,j5_ t 0 h0]
  rw[hc] at g;replace hc:=q_ hc
  have a2:(c=48/\neg=true)\/(c=48/\neg=false/\1<t.size)\/c≠48\/(c=48/\neg=false/\t.size=1):=by
   cases neg
   ·by_cases c=48
    ·by_cases 1<t.size
     ·simp_all
     ·exact .inr (.inr (.inr ⟨by assumption,rfl,by omega⟩))
    ·simp_all
   ·by_cases c=48<;>simp_all
  rcases a2 with⟨rfl,rfl⟩|⟨rfl,rfl,h1⟩|a3|⟨rfl,rfl,h1⟩
  ·have B:=q_ (show ¬ zcz s i by rw[g];simp);clear g
   go_in
   go_wp2_with (first
    |(go_at_call 114;refine D.o.mono ?_;rintro e w1 ⟨rfl,d,h1⟩;have r:=q_ d;have y:=q_ h1;clear d h1)
    |(go_at_call 147;refine(A.o _ y.o).mono ?_;rintro e O ⟨rfl,f,a⟩;have p:=q_ (r.o.trans f u_);have l:=q_ a;clear f a))
   exact H.o B.o _ p.o l.o
  ·have B:=q_ (show ¬ zcz s i by rw[g];simp[h1]);clear g
   have a1:(1:Int)<(t.size:Int):=by omega
   go_in
   go_wp2_with (first
    |(go_at_call 114;refine D.o.mono ?_;rintro e w1 ⟨rfl,d,h1⟩;have r:=q_ d;have y:=q_ h1;clear d h1)
    |(go_at_call 147;refine(A.o _ y.o).mono ?_;rintro e O ⟨rfl,f,a⟩;have p:=q_ (r.o.trans f u_);have l:=q_ a;clear f a))
   exact H.o B.o _ p.o l.o
  case' neg.inr.inr.inl=>have m:=q_ (show zcz s i by rw[g];exact⟨h0,λ e=>a3 e.1⟩)
  case' neg.inr.inr.inl=>have a6:((c:Int)==48)=false:=by simp;omega
  case' neg.inr.inr.inr=>have m:=q_ (show zcz s i by rw[g];exact⟨h0,by simp[h1]⟩)
  case' neg.inr.inr.inr=>have a1:¬ (1:Int)<(t.size:Int):=by omega
  all_goals clear g
  all_goals
   go_in
   go_wp2_with (first
    |(go_at_call 114;refine D.o.mono ?_;rintro e w1 ⟨rfl,d,h1⟩;have r:=q_ d;have y:=q_ h1;clear d h1)
    |(go_at_call 147;refine(A.o _ y.o).mono ?_;rintro e O ⟨rfl,f,a⟩;have p:=q_ (r.o.trans f u_);have l:=q_ a;clear f a))
   have U:=l.o.c2;have V:=l.o.c3;refine z9_ (λ W=>W.cell? ⟨br,2,none⟩=some (.string s)/\W.cell? ⟨br,3,none⟩=some (.int .i64 (k:Int))) (by kernel_rfl) ?_;refine z2_ 0 (.pointer (some ⟨br,0,none⟩)) rfl (by kernel_rfl) (λ _ _ _ h=>h) (by kernel_rfl) (by rintro W ⟨h1,a⟩;go_simp) ?_;refine z2_ 1 (.pointer (some ⟨br,0,none⟩)) rfl (by kernel_rfl) (λ _ _ _ h=>h) (by kernel_rfl) (by rintro W ⟨h1,a⟩;go_simp) ?_;refine z2_ 2 (.pointer (some ⟨br,2,none⟩)) rfl (by kernel_rfl) (λ _ _ _ h=>h) (by kernel_rfl) (by rintro W ⟨h1,a⟩;go_simp) ?_;refine z2_ 3 (.string s) rfl (by kernel_rfl) (λ _ _ _ h=>h) (by kernel_rfl) (by rintro W ⟨h1,a⟩;go_simp) ?_;refine z2_ 4 (.int .i64 (i:Int)) rfl (by kernel_rfl) (λ _ _ _ h=>h) (by kernel_rfl) (by rintro W ⟨h1,a⟩;go_simp) ?_;refine z2_ 5 (.pointer (some ⟨br,0,none⟩)) rfl (by kernel_rfl) (λ _ _ _ h=>h) (by kernel_rfl) (by rintro W ⟨h1,a⟩;go_simp) ?_;refine z2_ 6 (.pointer (some ⟨br,0,none⟩)) rfl (by kernel_rfl) (λ _ _ _ h=>h) (by kernel_rfl) (by rintro W ⟨h1,a⟩;go_simp) ?_;refine z2_ 7 (.pointer (some ⟨br,3,none⟩)) rfl (by kernel_rfl) (λ _ _ _ h=>h) (by kernel_rfl) (by rintro W ⟨h1,a⟩;go_simp) ?_;refine z2_ 8 (.int .i64 (k:Int)) rfl (by kernel_rfl) (λ _ _ _ h=>h) (by kernel_rfl) (by rintro W ⟨h1,a⟩;go_simp) ?_;refine z2_ 9 (.string (s.extract i k)) rfl (by kernel_rfl) (λ _ _ _ h=>h) (by kernel_rfl) (by rintro W ⟨h1,a⟩;go_simp) ?_;refine zu_ 10 rfl (by kernel_rfl) ⟨U,V⟩ (λ K E=>?_);go_simp;refine(hP.o _ p.o.drew).mono ?_;rintro e w3 ⟨I,M⟩;have C:=q_ (p.o.drew.trans I v_);have z:H_ (RdAt w3 br sv rv s k nb):=q_ (I.blk l.o id);have X:=z.o.c2;have Y:=z.o.c3;replace M:=q_ M;clear I U V
   rcases M.o with⟨v,q,rfl⟩|⟨N,v,T,x,rfl⟩
   ·replace q:=q_ q;refine E _ _ ?_;clear E K;refine z2_ 11 (.tuple #[.int .i64 v,.nilIface]) rfl (by kernel_rfl) (λ _ _ _ h=>h) (by kernel_rfl) (by rintro W ⟨h1,a⟩;go_simp) ?_;refine z2_ 12 (.int .i64 v) rfl (by kernel_rfl) (λ _ _ _ h=>h) (by kernel_rfl) (by rintro W ⟨h1,a⟩;go_simp) ?_;refine z2_ 13 .nilIface rfl (by kernel_rfl) (λ _ _ _ h=>h) (by kernel_rfl) (by rintro W ⟨h1,a⟩;go_simp) ?_;refine z2_ 14 (.int .i64 v) rfl (by kernel_rfl) (λ _ _ _ h=>h) (by kernel_rfl) (by rintro W ⟨h1,a⟩;go_simp) ?_;refine z2_ 15 .nilIface rfl (by kernel_rfl) (λ _ _ _ h=>h) (by kernel_rfl) (by rintro W ⟨h1,a⟩;go_simp) ?_;refine z8_ (by kernel_rfl) ⟨X,Y⟩ ?_ _
    by_cases L:v≥lo
    ·have a0:decide (v≥lo)=true:=decide_eq_true L
     by_cases J:v<=hi
     ·have Z:decide (v<=hi)=true:=decide_eq_true J
      go_wp2_with fail
      exact F.o m.o v true _ C.o z.o ⟨λ _=>⟨v,q.o,L,J⟩,λ _=>rfl⟩ (λ _=>q.o)
     ·have Z:decide (v<=hi)=false:=decide_eq_false J
      go_wp2_with fail
      exact F.o m.o v false _ C.o z.o ⟨λ e=>absurd e (by decide),λ ⟨u,hu,_,a⟩=>by rw[q.o] at hu;cases hu;exact absurd a (by omega)⟩ (λ e=>absurd e (by decide))
    ·have a0:decide (v≥lo)=false:=decide_eq_false L
     go_wp2_with fail
     exact F.o m.o v false _ C.o z.o ⟨λ e=>absurd e (by decide),λ ⟨u,hu,h1,_⟩=>by rw[q.o] at hu;cases hu;exact absurd h1 (by omega)⟩ (λ e=>absurd e (by decide))
   ·replace N:=q_ N;refine E _ _ ?_;clear E K;refine z2_ 11 (.tuple #[.int .i64 v,.iface T x]) rfl (by kernel_rfl) (λ _ _ _ h=>h) (by kernel_rfl) (by rintro W ⟨h1,a⟩;go_simp) ?_;refine z2_ 12 (.int .i64 v) rfl (by kernel_rfl) (λ _ _ _ h=>h) (by kernel_rfl) (by rintro W ⟨h1,a⟩;go_simp) ?_;refine z2_ 13 (.iface T x) rfl (by kernel_rfl) (λ _ _ _ h=>h) (by kernel_rfl) (by rintro W ⟨h1,a⟩;go_simp) ?_;refine z2_ 14 (.int .i64 v) rfl (by kernel_rfl) (λ _ _ _ h=>h) (by kernel_rfl) (by rintro W ⟨h1,a⟩;go_simp) ?_;refine z2_ 15 (.iface T x) rfl (by kernel_rfl) (λ _ _ _ h=>h) (by kernel_rfl) (by rintro W ⟨h1,a⟩;go_simp) ?_;refine z8_ (by kernel_rfl) ⟨X,Y⟩ ?_ _
    go_wp2_with fail
    exact F.o m.o v false _ C.o z.o ⟨λ e=>absurd e (by decide),λ ⟨u,hu,_,_⟩=>absurd hu (N.o u)⟩ (λ e=>absurd e (by decide))
end
open Go.RowKit
theorem zi2 (n:Int) (h : -9223372036854775808<=n) (a:n<=9223372036854775807):wrap64 n=n:=by
 have:=IntKind.wrap_i64 n;unfold wrap64;omega
theorem zr5:∀ a b:List UInt8,dv (a++b)=dv a*10 ^ b.length+dv b
 | [],b=>by simp[dv]
 | c::r,b=>by
  simp only[a4_,dv,zr5 r b,ah_,Nat.pow_add,Nat.add_mul,Nat.mul_assoc];omega
theorem zxf {t:BA}{a:Nat}(h:a<t.size):∃ c,t.data.toList[a]?=some c/\bt t a=c.toNat:=by
 refine⟨t[a],?_,j5_ t a h⟩;rw[Array.getElem?_toList];exact Array.getElem?_eq_getElem h
theorem znh {neg:Bool}{t:BA}(hd:digs t.data.toList) (hb:dv t.data.toList<=9223372036854775807+(if neg=true then 1 else 0)) :
 ∀ a,a<=t.size->numV neg t a=if neg=true then -(dv (t.data.toList.take a):Int) else (dv (t.data.toList.take a):Int):=by
 intro a
 induction a with
 | zero=>intro _;simp[numV,dv]
 | succ a ih=>
  intro h;obtain⟨c,hc,e⟩:=zxf (t:=t) (a:=a) (by omega);have f:c∈t.data.toList:=aw_ hc;have j:=hd c f
  have g:t.data.toList.take (a+1)=t.data.toList.take a++[c]:=by rw[bi_,hc];rfl
  have h1:=zr5 (t.data.toList.take a) [c];have d:=zr5 (t.data.toList.take (a+1)) (t.data.toList.drop (a+1));rw[List.take_append_drop] at d
  have b:dv (t.data.toList.take (a+1))<=dv t.data.toList:=by
   have:1<=10 ^ (t.data.toList.drop (a+1)).length:=Nat.one_le_pow _ _ (by decide);have:=b3_ (dv (t.data.toList.take (a+1))) this;omega
  simp only[am_,Nat.pow_one,dv,ao_,Nat.pow_zero,Nat.mul_one,bp_] at h1;rw[g] at b⊢;rw[numV,ih (by omega),e];rw[h1] at b⊢;generalize dv (t.data.toList.take a)=x at *;generalize dv t.data.toList=y at *
  cases neg with
  | true=>
   simp only[if_true] at hb⊢;unfold zh0;rw[if_pos rfl,zi2 (10 * -(x:Int)) (by omega) (by omega),zi2 (c.toNat:Int) (by omega) (by omega),zi2 ((c.toNat:Int)-48) (by omega) (by omega),zi2 _ (by omega) (by omega)];omega
  | false=>
   simp only[a3_,if_false,bp_] at hb⊢;unfold zh0;rw[if_neg (by decide),zi2 (10*(x:Int)) (by omega) (by omega),zi2 (c.toNat:Int) (by omega) (by omega),zi2 ((c.toNat:Int)-48) (by omega) (by omega),zi2 _ (by omega) (by omega)];omega
theorem zq8 {s:BA}{i:Nat}{v:Int}(h0:0<(y6_ s i).size) (a:Lib.parseIntB 64 (s.extract i (xe_ s i)).data.toList=.ok v) :
 numV (jb_ s i) (y6_ s i) (y6_ s i).size=v/\-9223372036854775808<=v/\v<=9223372036854775807:=by
 have hd:digs (y6_ s i).data.toList:=znq s (sgn s i);have f:(y6_ s i).size=(y6_ s i).data.toList.length:=Array.length_toList.symm
 have d:(y6_ s i).data.toList≠[]:=by
  intro e;rw[e,ao_] at f;omega
 have g:(y6_ s i).data.toList.take (y6_ s i).size=(y6_ s i).data.toList:=by rw[f];exact List.take_length
 by_cases b:bt s i=45
 ·have c:jb_ s i=true:=by unfold jb_;rw[b];rfl
  have k:i<s.size:=zj_ (by omega)
  have hs:sgn s i=i+1:=by unfold sgn;rw[if_pos b]
  have h:=vh_ 48 57 s _ (i+1) l_
  have he:(s.extract i (xe_ s i)).data.toList=45::(y6_ s i).data.toList:=by
   unfold y6_ xe_;rw[hs,zef (by omega) (h.2 (by omega))];refine List.cons_eq_cons.2 ⟨?_,rfl⟩;rw[j5_ s i k] at b;exact UInt8.toNat_inj.1 (b.trans (by decide))
  rw[he,zrv d hd] at a;split at a
  ·rename_i j;cases a;refine⟨?_,by omega,by omega⟩;rw[c,znh hd (by simp only[if_true];omega) _ l_,if_pos rfl,g]
  ·cases a
 ·have c:jb_ s i=false:=by
   unfold jb_;exact beq_eq_false_iff_ne.2 (by omega)
  have hs:sgn s i=i:=by unfold sgn;rw[if_neg b]
  have he:s.extract i (xe_ s i)=y6_ s i:=by unfold y6_;rw[hs]
  rw[he,zru d hd] at a;split at a
  ·rename_i j;cases a;refine⟨?_,by omega,by omega⟩;rw[c,znh hd (by simp only[a3_,if_false];omega) _ l_,if_neg (by decide),g]
  ·cases a
end Go.Proofs.YtiifagiebikmdaaGreatDoor
