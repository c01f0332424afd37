import Derived.Test.YtiifagiebikmdaaGreatDoorW03
import Derived.Deep.DeepCutAuto
import Derived.Test.YtiifagiebikmdaaGreatDoorW00
import Derived.Test.YtiifagiebikmdaaGreatDoorA00
set_option maxHeartbeats 16000000
set_option maxRecDepth 100000
set_option linter.unusedSimpArgs false
open Go.Proofs.Tryz
namespace Go.Proofs.YtiifagiebikmdaaGreatDoor
open Go.RowKit
def LAt (w:World) (bl:Nat) (s:BA) (bz:Nat) (pl:Bool) (i:Nat) (bad:Bool):Prop:=
 Blk w bl [.string s,.int .i64 (i:Int),.bool bad,.pointer (some ⟨bz,0,none⟩),.bool pl] 98
section
variable {w w':World} {bl:Nat} {s:BA} {bz:Nat} {pl:Bool} {i:Nat} {bad:Bool}
theorem LAt.c0 (h:LAt w bl s bz pl i bad):w.cell? ⟨bl,0,none⟩=some (.string s):=by rw[Blk.cell h];rfl
theorem LAt.c1 (h:LAt w bl s bz pl i bad):w.cell? ⟨bl,1,none⟩=some (.int .i64 (i:Int)):=by rw[Blk.cell h];rfl
theorem LAt.c2 (h:LAt w bl s bz pl i bad):w.cell? ⟨bl,2,none⟩=some (.bool bad):=by rw[Blk.cell h];rfl
theorem LAt.c3 (h:LAt w bl s bz pl i bad):w.cell? ⟨bl,3,none⟩=some (.pointer (some ⟨bz,0,none⟩)):=by rw[Blk.cell h];rfl
theorem LAt.c4 (h:LAt w bl s bz pl i bad):w.cell? ⟨bl,4,none⟩=some (.bool pl):=by rw[Blk.cell h];rfl
theorem LAt.thaw (h:LAt w bl s bz pl i bad) (o:Nat):w.frozen? ⟨bl,o,none⟩=false:=Blk.thaw h o
theorem LAt.still (h:LAt w bl s bz pl i bad) (a:zd_ w w'):LAt w' bl s bz pl i bad:=by obtain⟨n,rfl⟩:=a;exact h
theorem LAt.inc (h:LAt w bl s bz pl i bad):LAt (w.setCell ⟨bl,1,none⟩ (.int .i64 ((i:Int)+1))) bl s bz pl (i+1) bad:=Blk.set h 1 _
theorem LAt.spoil (h:LAt w bl s bz pl i bad):LAt (w.setCell ⟨bl,2,none⟩ (.bool true)) bl s bz pl i true:=Blk.set h 2 _
end
def lk (s:BA) (i:Nat) (bad:Bool):Nat:=if bad=true then 0 else bt s i
theorem y9_ {w:World}{bl:Nat}{s:BA}{bz:Nat}{pl:Bool}{i:Nat}{bad:Bool}(h:LAt w bl s bz pl i bad) (_hs:s.size<=4000) (a:i<=s.size) :
 Calls prog 60 #[.pointer (some ⟨bl,0,none⟩)] w λ e w'=>e=.returned (.int .u8 (lk s i bad:Int))/\zd_ w w':=by
 obtain⟨c0,c1,c2⟩:=h.d3;clear h
 cases bad with
 | true=>
  go_in
  go_wp2
  go_quiet (fail)
  go_wp2
  go_ret
  exact⟨by simp[lk],_,rfl⟩
 | false=>
  by_cases hl:i<s.size
  ·have b:(i:Int)<(s.size:Int):=by omega
   go_in
   go_wp2
   go_quiet (fail)
   go_wp2
   go_quiet (fail)
   go_wp2
   go_ret
   exact⟨by simp[lk,j5_ s i hl],(zd_.drewN _ _).trans (zd_.drewN _ _)⟩
  ·go_in
   go_wp2
   go_quiet (fail)
   go_wp2
   go_ret
   refine⟨?_,⟨_,rfl⟩⟩
   have:bt s i=0:=by
    by_cases h0:bt s i=0
    ·exact h0
    ·exact absurd (zj_ (by omega)) hl
   simp[lk,this]
def LEat (w:World) (bl:Nat) (s:BA) (bz:Nat) (pl:Bool) (i:Nat) (bad:Bool) (d:Nat) (w':World):Prop:=
 (if lk s i bad=d then LAt w' bl s bz pl (i+1) bad/\i<s.size else LAt w' bl s bz pl i true)/\Fr w w' (· = bl)
theorem xo_ {w:World}{bl:Nat}{s:BA}{bz:Nat}{pl:Bool}{i:Nat}{bad:Bool}{c:Int}(d:Nat) (h:LAt w bl s bz pl i bad) (hs:s.size<=4000) (g:i<=s.size) (hd:c=(d:Int)) (l:0<d) :
 Calls prog 59 #[.pointer (some ⟨bl,0,none⟩),.int .u8 c] w λ e w'=>e=.returned (.tuple #[])/\LEat w bl s bz pl i bad d w':=by
 subst hd
 go_in
 go_wp2_with (go_at_call 60;refine(y9_ h hs g).mono ?_;rintro e w' ⟨rfl,f⟩;have a:=h.still f;have c1:=a.c1;have c2:=a.c2;have j:=a.thaw 1;have k:=a.thaw 2)
 ·go_end0
  rename_i hc
  have b:lk s i bad=d:=by simp at hc;omega
  refine⟨rfl,?_,((Fr.refl w _).still f).setCell _ _ (λ _=>rfl)⟩;rw[if_pos b];refine⟨a.inc,?_⟩;unfold lk at b;split at b
  ·omega
  ·exact zj_ (by omega)
 ·go_end0
  rename_i hc;refine⟨rfl,?_,((Fr.refl w _).still f).setCell _ _ (λ _=>rfl)⟩;rw[if_neg (by simp at hc;omega)];exact a.spoil
def z0_ (lo hi:Nat) (s:BA) (i:Nat):Nat:=
 if h:i<s.size then (if lo<=bt s i/\bt s i<=hi then z0_ lo hi s (i+1) else i) else i
 termination_by s.size-i
theorem za8 {lo a:Nat}{s:BA}{i:Nat}(h:i<s.size) (hb:lo<=bt s i/\bt s i<=a):z0_ lo a s i=z0_ lo a s (i+1):=by
 conv=>lhs;unfold z0_
 rw[dif_pos h,if_pos hb]
theorem ve_ {lo a:Nat}{s:BA}{i:Nat}(hb:¬ (lo<=bt s i/\bt s i<=a)):z0_ lo a s i=i:=by
 unfold z0_
 simp[hb]
def zvt (w:World) (bl:Nat) (s:BA) (bz:Nat) (pl:Bool) (i e:Nat) (m:Nat) (W:World):Prop:=
 ∃ k,LAt W bl s bz pl k false/\Fr w W (· = bl)/\i<=k/\k<=s.size/\z0_ 97 122 s k=e/\s.size-k<=m
def zbm (w:World) (bl:Nat) (s:BA) (bz:Nat) (pl:Bool) (i:Nat) (bad:Bool) (e:Ending) (w':World):Prop:=
 ∃ k,k=(if bad=true then i else z0_ 97 122 s i)/\i<=k/\k<=s.size/\e=.returned (.string (s.extract i k))/\LAt w' bl s bz pl k bad/\Fr w w' (· = bl)
theorem zo6 {w W:World}{bl:Nat}{s:BA}{bz:Nat}{pl:Bool}{i k:Nat}(h:LAt W bl s bz pl k false) (a:Fr w W (· = bl)) (b:i<=k) (c:k<=s.size) (he:z0_ 97 122 s k=z0_ 97 122 s i) (ho:¬ (97<=bt s k/\bt s k<=122)) :
 zbm w bl s bz pl i false (.returned (.string (s.extract i k))) W:=
 ⟨k,by rw[if_neg (by decide),<- he,ve_ ho],b,c,rfl,h,a⟩
theorem zar {w:World}{bl:Nat}{s:BA}{bz:Nat}{pl:Bool}{i:Nat}{bad:Bool}(h:LAt w bl s bz pl i bad) (hs:s.size<=4000) (l:i<=s.size) :
 Calls prog 62 #[.pointer (some ⟨bl,0,none⟩)] w (zbm w bl s bz pl i bad):=by
 obtain⟨x,j⟩:∃ P,H_ (P=zbm w bl s bz pl i bad):=⟨_,rfl⟩;rw[<- j.o];have c1:=h.c1
 cases bad with
 | true=>
  replace h:=q_ h
  go_in
  go_wp2_with fail
  clear c1
  go_loopg [] 0 (λ _ W=>zd_ w W)
  case atStart=>exact zd_.refl w
  case round=>
   have h1:=q_ (h.o.still hrel);have b:=q_ (show(decide ((97:Int)<=((lk s i true:Nat):Int))&&decide (((lk s i true:Nat):Int)<=122))=false by simp[lk])
   have C:(i:Int)<=(s.size:Int):=by omega
   replace hrel:=q_ hrel
   go_wp2_with (first
    |(go_at_call 60;refine(y9_ h1.o hs l).mono ?_;rintro e t ⟨rfl,d⟩;have a:=h1.o.still d;have c0:=a.c0;have c1:=a.c1;replace a:=q_ a)
    |(go_at_call 38;refine(yz_ _ _ _ _).mono ?_;rintro e w' ⟨rfl,g⟩;rw[g,b.o]))
   go_quiet (fail)
   go_wp2_with fail
   try go_ret
   rw[j.o];exact⟨i,by simp,l_,l,by simp,a.o.still (zd_.drewN _ _),(((Fr.refl w _).still hrel.o).still d).still (zd_.drewN _ _)⟩
 | false=>
  have r:=q_ (⟨i,h,Fr.refl _ _,l_,l,rfl,l_⟩:zvt w bl s bz pl i (z0_ 97 122 s i) (s.size-i) w);replace h:=q_ h
  go_in
  go_wp2_with fail
  clear c1
  go_loopg [] (s.size-i) (λ n W=>zvt w bl s bz pl i (z0_ 97 122 s i) n W)
  case atStart=>exact r.o
  case round=>
   clear r;obtain⟨k,h1,f,u,m,he,B⟩:=hrel;obtain⟨c,hc⟩:∃ c,bt s k=c:=⟨_,rfl⟩;replace he:=q_ he
   by_cases q:97<=c/\c<=122
   ·have b:(decide ((97:Int)<=(c:Int))&&decide ((c:Int)<=122))=true:=by simp;omega
    have hk:k<s.size:=zj_ (by omega);have p:=q_ (show lk s k false=c by simp[lk,hc]);have ho:=q_ (he.o.symm.trans (za8 hk (by rw[hc];exact q)));replace h1:=q_ h1;replace f:=q_ f;replace hc:=q_ hc;replace b:=q_ b
    go_wp2_with (first
     |(go_at_call 60;refine(y9_ h1.o hs m).mono ?_;rintro e t ⟨rfl,d⟩;rw[p.o];have a:=h1.o.still d;have c1:=a.c1;have y:=a.thaw 1;replace a:=q_ a)
     |(go_at_call 38;refine(yz_ _ _ _ _).mono ?_;rintro e w' ⟨rfl,g⟩;rw[g,b.o]))
    go_roundg (s.size-(k+1))
    case measure=>omega
    case rel=>exact⟨k+1,a.o.inc,(f.o.still d).setCell _ _ (λ _=>rfl),by omega,by omega,ho.o.symm,l_⟩
   ·have b:(decide ((97:Int)<=(c:Int))&&decide ((c:Int)<=122))=false:=by simp;omega
    have p:=q_ (show lk s k false=c by simp[lk,hc]);have v:=q_ (show ¬ (97<=bt s k/\bt s k<=122) by rw[hc];exact q);replace h1:=q_ h1;replace f:=q_ f;replace hc:=q_ hc;replace b:=q_ b
    have z:(i:Int)<=(k:Int):=by omega
    have A:(k:Int)<=(s.size:Int):=by omega
    go_wp2_with (first
     |(go_at_call 60;refine(y9_ h1.o hs m).mono ?_;rintro e t ⟨rfl,d⟩;rw[p.o];have a:=h1.o.still d;have c0:=a.c0;have c1:=a.c1;replace a:=q_ a)
     |(go_at_call 38;refine(yz_ _ _ _ _).mono ?_;rintro e w' ⟨rfl,g⟩;rw[g,b.o]))
    go_quiet (fail)
    go_wp2_with fail
    try go_ret
    rw[j.o];exact zo6 (a.o.still (zd_.drewN _ _)) ((f.o.still d).still (zd_.drewN _ _)) u m he.o v.o
open Go.RowKit
def zcm (c:Nat) (neg:Bool):BA:=
 if c=105 then (if neg=true then ⟨#[50,49,52,55,52,56,51,54,52,56]⟩ else ⟨#[50,49,52,55,52,56,51,54,52,55]⟩)
 else (if neg=true then ⟨#[57,50,50,51,51,55,50,48,51,54,56,53,52,55,55,53,56,48,56]⟩ else ⟨#[57,50,50,51,51,55,50,48,51,54,56,53,52,55,55,53,56,48,55]⟩)
theorem zrq (c:Nat) (neg:Bool) (w:World) :
 Calls prog 89 #[.int .u8 (c:Int),.bool neg] w λ e w'=>e=.returned (.string (zcm c neg))/\w'=w:=by
 obtain⟨T,a⟩:∃ T,H_ (T=zcm c neg):=⟨_,rfl⟩;rw[<- a.o]
 by_cases hc:c=105
 ·subst hc;cases neg
  all_goals
   go_in
   go_wp2
   go_ret
   exact⟨by rw[a.o];rfl,rfl⟩
 ·have b:((c:Int)==105)=false:=by simp;omega
  have hd:=q_ (show zcm c neg=(if neg=true then ⟨#[57,50,50,51,51,55,50,48,51,54,56,53,52,55,55,53,56,48,56]⟩ else ⟨#[57,50,50,51,51,55,50,48,51,54,56,53,52,55,55,53,56,48,55]⟩) by unfold zcm;rw[if_neg hc]);cases neg
  all_goals
   go_in
   go_wp2
   go_ret
   exact⟨by rw[a.o,hd.o];rfl,rfl⟩
open Go.RowKit
def sgn (s:BA) (i:Nat):Nat:=if bt s i=45 then i+1 else i
def zvr (w:World) (bl:Nat) (s:BA) (bz:Nat) (pl:Bool) (i e:Nat) (m:Nat) (W:World):Prop:=
 ∃ k,LAt W bl s bz pl k false/\Fr w W (· = bl)/\i<=k/\k<=s.size/\z0_ 48 57 s k=e/\s.size-k<=m
def zcy (kd:Nat) (neg:Bool) (t:BA):Prop:=
 0<t.size/\¬ (bt t 0=48/\(1<t.size\/neg=true))/\t.size<=(zcm kd neg).size/\(t.size=(zcm kd neg).size->(!Op.bytesLess t.toList (zcm kd neg).toList && !(t.toList==(zcm kd neg).toList))=false)
def zh0 (neg:Bool) (x:Int) (d:Nat):Int:=if neg=true then wrap64 (wrap64 (10*x)-wrap64 (wrap64 (d:Int)-48)) else wrap64 (wrap64 (10*x)+wrap64 (wrap64 (d:Int)-48))
def numV (neg:Bool) (t:BA):Nat->Int
 | 0=>0
 | a+1=>zh0 neg (numV neg t a) (bt t a)
def zd5 (w:World) (bl:Nat) (s:BA) (bz:Nat) (pl:Bool) (i kd:Nat) (e:Ending) (w':World):Prop:=
 ∃ k neg t,neg=((bt s i:Int)==45)/\t=s.extract (sgn s i) k/\k=z0_ 48 57 s (sgn s i)/\i<=k/\k<=s.size/\Fr w w' (· = bl)/\
  ((zcy kd neg t/\i<k/\LAt w' bl s bz pl k false/\e=.returned (.int .i64 (numV neg t t.size)))\/(¬ zcy kd neg t/\LAt w' bl s bz pl k true/\e=.returned (.int .i64 0)))
theorem zg4 {w:World}{bl:Nat}{s:BA}{bz:Nat}{pl:Bool}{i kd:Nat}(h:LAt w bl s bz pl i false) (hs:s.size<=4000) (hi:i<=s.size) :
 Calls prog 61 #[.pointer (some ⟨bl,0,none⟩),.int .u8 (kd:Int)] w (zd5 w bl s bz pl i kd):=by
 obtain⟨d8,u⟩:∃ P,H_ (P=zd5 w bl s bz pl i kd):=⟨_,rfl⟩;rw[<- u.o];obtain⟨c,hc⟩:∃ c,bt s i=c:=⟨_,rfl⟩;have a4:=q_ (show lk s i false=c by simp[lk,hc]);obtain⟨neg,r⟩:∃ b,((c:Int)==45)=b:=⟨_,rfl⟩;obtain⟨l,p⟩:∃ k,k=sgn s i:=⟨_,rfl⟩
 have d1:l<=s.size/\i<=l/\l<=i+1:=by
  rw[p];unfold sgn;split
  ·rename_i e1;have:=zj_ (s:=s) (i:=i) (by omega);omega
  ·omega
 replace h:=q_ h;replace hc:=q_ hc;replace r:=q_ r;have d6:=r.o;replace p:=q_ p
 go_in
 go_upto_if 15 with(go_at_call 60;refine(y9_ h.o hs hi).mono ?_;rintro e J ⟨rfl,m⟩;rw[a4.o];have f:=h.o.still m;have c1:=f.c1;have f1:=f.thaw 1;replace f:=q_ f)
 go_cut [] (λ W=>LAt W bl s bz pl l false/\Fr w W (· = bl))
 case first=>
  cases hb:neg
  ·subst hb
   go_wp2_with fail
   go_meet
   case rel=>
    refine⟨?_,(Fr.refl w _).still m⟩
    have R:l=i:=by rw[p.o];unfold sgn;rw[if_neg (by have:=r.o;have:=hc.o;simp at *;omega)]
    rw[R];exact f.o
  ·subst hb
   go_wp2_with fail
   go_meet
   case rel=>
    refine⟨?_,((Fr.refl w _).still m).setCell _ _ (λ _=>rfl)⟩
    have R:l=i+1:=by rw[p.o];unfold sgn;rw[if_pos (by have:=r.o;have:=hc.o;simp at *;omega)]
    rw[R];exact f.o.inc
 case rest=>
  clear c1 f1 f m;obtain⟨L,U⟩:=hcut;have c1:=L.c1;have b4:=q_ (show zvr w bl s bz pl l (z0_ 48 57 s l) (s.size-l) wc from⟨l,L,U,l_,d1.1,rfl,l_⟩);replace L:=q_ L;replace U:=q_ U
  go_wp2_with fail
  clear c1
  go_loopg [] (s.size-l) (λ n W=>zvr w bl s bz pl l (z0_ 48 57 s l) n W)
  case atStart=>exact b4.o
  case round=>
   clear b4;obtain⟨k,h1,y,e6,O,he,hm⟩:=hrel;obtain⟨d,hd⟩:∃ c,bt s k=c:=⟨_,rfl⟩;replace he:=q_ he;have X:=q_ (show lk s k false=d by simp[lk,hd])
   by_cases a3:48<=d/\d<=57
   ·have B:(decide ((48:Int)<=(d:Int))&&decide ((d:Int)<=57))=true:=by simp;omega
    have hk:k<s.size:=zj_ (by omega);have ho:=q_ (he.o.symm.trans (za8 hk (by rw[hd];exact a3)));replace h1:=q_ h1;replace y:=q_ y;replace B:=q_ B
    go_wp2_with (first
     |(go_at_call 60;refine(y9_ h1.o hs O).mono ?_;rintro e J ⟨rfl,m⟩;rw[X.o];have f:=h1.o.still m;have c1:=f.c1;have f1:=f.thaw 1;replace f:=q_ f)
     |(go_at_call 38;refine(yz_ _ _ _ _).mono ?_;rintro e w' ⟨rfl,j⟩;rw[j,B.o]))
    go_roundg (s.size-(k+1))
    case measure=>omega
    case rel=>exact⟨k+1,f.o.inc,(y.o.still m).setCell _ _ (λ _=>rfl),by omega,by omega,ho.o.symm,l_⟩
   ·have B:(decide ((48:Int)<=(d:Int))&&decide ((d:Int)<=57))=false:=by simp;omega
    have Y:=q_ (show ¬ (48<=bt s k/\bt s k<=57) by rw[hd];exact a3);replace h1:=q_ h1;replace y:=q_ y;replace B:=q_ B
    have e7:(l:Int)<=(k:Int):=by omega
    have e8:(k:Int)<=(s.size:Int):=by omega
    go_wp2_with (first
     |(go_at_call 60;refine(y9_ h1.o hs O).mono ?_;rintro e J ⟨rfl,m⟩;rw[X.o];have f:=h1.o.still m;have c0:=f.c0;have c1:=f.c1;have f2:=f.thaw 2;have c2:=f.c2;replace f:=q_ f)
     |(go_at_call 38;refine(yz_ _ _ _ _).mono ?_;rintro e w' ⟨rfl,j⟩;rw[j,B.o]))
    go_quiet (fail)
    obtain⟨t,z⟩:∃ t,s.extract l k=t:=⟨_,rfl⟩;obtain⟨g,H⟩:∃ t,zcm kd neg=t:=⟨_,rfl⟩
    go_wp2_with fail
    have f3:t.size<=4000:=by rw[<- z];simp;omega
    have f4:=q_ (show g.size=10\/g.size=19 by rw[<- H];unfold zcm;split<;>split<;>simp[ByteArray.size])
    have C:H_ (∀ W:World,Calls prog 89 #[.int .u8 (kd:Int),.bool neg] W λ e w'=>e=.returned (.string g)/\w'=W):=λ W=>by rw[<- H];exact zrq _ _ _
    rw[z];replace z:=q_ z;replace H:=q_ H
    have D:=q_ (λ (hn:¬ zcy kd neg t) (W:World) (G:zd_ J W)=>show zd5 w bl s bz pl i kd (.returned (.int .i64 0)) (W.setCell ⟨bl,2,none⟩ (.bool true)) from
     ⟨k,neg,t,by rw[hc.o];exact r.o.symm,by rw[<- p.o];exact z.o.symm,by rw[<- p.o,<- he.o];exact(ve_ Y.o).symm,by omega,O,((y.o.still m).still G).setCell _ _ (λ _=>rfl),.inr ⟨hn,(f.o.still G).spoil,rfl⟩⟩)
    have a1:=q_ (λ (hn:zcy kd neg t) (W:World) (G:zd_ J W)=>show zd5 w bl s bz pl i kd (.returned (.int .i64 (numV neg t t.size))) W from
     ⟨k,neg,t,by rw[hc.o];exact r.o.symm,by rw[<- p.o];exact z.o.symm,by rw[<- p.o,<- he.o];exact(ve_ Y.o).symm,by omega,O,(y.o.still m).still G,.inl ⟨hn,by have h5:=hn.1;rw[<- z.o] at h5;simp at h5;omega,f.o.still G,rfl⟩⟩)
    have E:=q_ (show zcy kd neg t↔(0<t.size/\¬ (bt t 0=48/\(1<t.size\/neg=true))/\t.size<=g.size/\(t.size=g.size->(!Op.bytesLess t.toList g.toList && !(t.toList==g.toList))=false)) by rw[<- H.o];rfl)
    by_cases h0:t.size=0
    ·have K:(t.size:Int)=0:=by omega
     have q:=q_ (D.o (λ h=>by have:=h.1;omega))
     go_wp2_with (go_at_call 89;refine(C.o _).mono ?_;rintro e w' ⟨rfl,j⟩;rw[j])
     try go_ret
     rw[u.o];exact q.o _ (zd_.drewN _ _)
    ·have K:0<t.size:=by omega
     have e0:(0:Int)<(t.size:Int):=by omega
     have d9:((t.size:Int)==0)=false:=by rw[beq_eq_false_iff_ne];omega
     obtain⟨b,hb⟩:∃ b:Nat,((t[0]'K).toNat:Int)=(b:Int):=⟨_,rfl⟩;have T:=q_ (show bt t 0=b by rw[j5_ t 0 K];exact Int.ofNat_inj.1 hb);obtain⟨lt,a5⟩:∃ x,Op.bytesLess t.toList g.toList=x:=⟨_,rfl⟩;obtain⟨F,a2⟩:∃ x,(t.toList==g.toList)=x:=⟨_,rfl⟩
     by_cases A:b=48/\(1<t.size\/neg=true)
     ·obtain⟨rfl,A⟩:=A
      by_cases h1:1<t.size
      ·have b5:(1:Int)<(t.size:Int):=by omega
       have q:=q_ (D.o (λ h=>by have:=E.o.1 h;exact this.2.1 ⟨T.o,.inl h1⟩))
       go_wp2_with (go_at_call 89;refine(C.o _).mono ?_;rintro e w' ⟨rfl,j⟩;rw[j])
       try go_ret
       rw[u.o];exact q.o _ (zd_.drewN _ _)
      ·have b5:¬ (1:Int)<(t.size:Int):=by omega
       have a6:neg=true:=by rcases A with h|h;exact absurd h h1;exact h
       have q:=q_ (D.o (λ h=>by have:=E.o.1 h;exact this.2.1 ⟨T.o,.inr a6⟩));subst a6
       go_wp2_with (go_at_call 89;refine(C.o _).mono ?_;rintro e w' ⟨rfl,j⟩;rw[j])
       try go_ret
       rw[u.o];exact q.o _ (zd_.drewN _ _)
     ·have Z:((b:Int)==48)=false\/(((b:Int)==48)=true/\(t.size:Int)<=1/\neg=false):=by
       by_cases a0:b=48
       ·refine .inr ⟨by simp;omega,?_,?_⟩
        ·by_cases h1:1<t.size
         ·exact absurd ⟨a0,.inl h1⟩ A
         ·omega
        ·cases hn:neg
         ·rfl
         ·exact absurd ⟨a0,.inr hn⟩ A
       ·exact .inl (by simp;omega)
      have a9:=q_ (show ¬ (bt t 0=48/\(1<t.size\/neg=true)) by rw[T.o];exact A);clear A
      by_cases e5:g.size<t.size
      ·have d0:(g.size:Int)<(t.size:Int):=by omega
       have q:=q_ (D.o (λ h=>by have:=E.o.1 h;omega))
       rcases Z with I|⟨I,a7,rfl⟩
       all_goals
        go_wp2_with (go_at_call 89;refine(C.o _).mono ?_;rintro e w' ⟨rfl,j⟩;rw[j])
        try go_ret
        rw[u.o];exact q.o _ (zd_.drewN _ _)
      ·have d0:¬ (g.size:Int)<(t.size:Int):=by omega
       by_cases N:t.size=g.size/\(!lt && !F)=true
       ·obtain⟨b9,S⟩:=N
        have e4:(g.size:Int)=(t.size:Int):=by omega
        have q:=q_ (D.o (λ h=>by have:=(E.o.1 h).2.2.2 b9;rw[a5,a2,S] at this;cases this))
        have hl:lt=false/\F=false:=by revert S;cases lt<;>cases F<;>simp
        obtain⟨rfl,rfl⟩:=hl;clear S
        rcases Z with I|⟨I,a7,rfl⟩
        all_goals
         go_wp2_with (go_at_call 89;refine(C.o _).mono ?_;rintro e w' ⟨rfl,j⟩;rw[j])
         try go_ret
         rw[u.o];exact q.o _ (zd_.drewN _ _)
       ·have a8:=q_ (a1.o (E.o.2 ⟨K,a9.o,by omega,λ he=>by
         cases hx:(!Op.bytesLess t.toList g.toList && !(t.toList==g.toList))
         ·rfl
         ·exact absurd ⟨he,by rw[<- a5,<- a2];exact hx⟩ N⟩))
        have d7:(((t.size:Int)==(g.size:Int))=false)\/((g.size:Int)=(t.size:Int)/\lt=true)\/((g.size:Int)=(t.size:Int)/\lt=false/\F=true):=by
         by_cases he:t.size=g.size
         ·cases lt
          ·cases F
           ·exact absurd ⟨he,rfl⟩ N
           ·exact .inr (.inr ⟨by omega,rfl,rfl⟩)
          ·exact .inr (.inl ⟨by omega,rfl⟩)
         ·exact .inl (by rw[beq_eq_false_iff_ne];omega)
        clear N D a1;obtain⟨V,M⟩:∃ V:Nat->Int,V=numV neg t:=⟨_,rfl⟩;have b6:=q_ (show V 0=0 by rw[M];rfl);have b7:=q_ (show ∀ a,V (a+1)=zh0 neg (V a) (bt t a) by rw[M];intro a;rfl);rw[<- M] at a8;clear M;clear E a9 d6 r p Y he a4 X
        cases neg<;>rcases d7 with q1|⟨q1,rfl⟩|⟨q1,rfl,rfl⟩<;>rcases Z with I|⟨I,a7,d2⟩
        all_goals try(cases d2;done)
        all_goals
         go_wp2_with (go_at_call 89;refine(C.o _).mono ?_;rintro e w' ⟨rfl,j⟩;rw[j])
         go_loopg [9,10] t.size (λ n v iv W=>zd_ J W/\∃ a:Nat,iv=.int .i64 (a:Int)/\v=.int .i64 (V a)/\a<=t.size/\t.size-a<=n)
         case atStart=>exact⟨zd_.drewN _ _,0,rfl,by rw[b6.o],by omega,by omega⟩
         case round=>
          obtain⟨Q,a,rfl,rfl,e3,e9⟩:=hrel;replace Q:=q_ Q
          by_cases ha:a<t.size
          ·have b8:(a:Int)<(t.size:Int):=by omega
           have f0:((t[a]'ha).toNat:Int)=(bt t a:Int):=by rw[j5_ t a ha]
           go_wp2_with fail
           go_roundg (t.size-(a+1))
           case measure=>omega
           case rel=>exact⟨Q.o,a+1,by simp,by rw[b7.o];rfl,by omega,l_⟩
          ·have b8:¬ (a:Int)<(t.size:Int):=by omega
           have e2:a=t.size:=by omega
           go_wp2_with fail
           try go_ret
           rw[u.o];exact a8.o _ Q.o
open Go.RowKit
inductive DT where
 | mk (k:Nat) (n:Int) (tx:BA) (ks:List BA) (ds:List DT)
 deriving Inhabited
def noB:BA:=⟨#[]⟩
instance (kd:Nat) (neg:Bool) (t:BA):Decidable (zcy kd neg t):=by unfold zcy;infer_instance
def xe_ (s:BA) (i:Nat):Nat:=z0_ 48 57 s (sgn s i)
def jb_ (s:BA) (i:Nat):Bool:=((bt s i:Int)==45)
def y6_ (s:BA) (i:Nat):BA:=s.extract (sgn s i) (xe_ s i)
def jj_ (s:BA) (kd i:Nat):Option (Int×Nat):=
 if zcy kd (jb_ s i) (y6_ s i) then some (numV (jb_ s i) (y6_ s i) (y6_ s i).size,xe_ s i) else none
def zw_ (s:BA) (i:Nat):Nat:=z0_ 97 122 s i
def zgo (last:Option BA) (k:BA):Bool:=match last with|none=>true|some l=>Op.bytesLess l.toList k.toList
def zfh (s:BA) (keyed:Bool) (last:Option BA) (i:Nat):Option (BA×Nat):=
 if keyed=true then
  if bt s (zw_ s i)=58/\zgo last (s.extract i (zw_ s i))=true then some (s.extract i (zw_ s i),zw_ s i+1) else none
 else some (noB,i)
def xi_ (R:Nat->Option (DT×Nat)) (s:BA) (fin:Nat) (keyed:Bool):Nat->Option BA->Nat->Option (List (BA×DT)×Nat)
 | 0,_,_=>none
 | n+1,last,i=>
  match zfh s keyed last i with
  | none=>none
  | some (k,i1)=>
   match R i1 with
   | none=>none
   | some (d,j)=>
    if bt s j=fin then some ([(k,d)],j+1)
    else if bt s j=44 then
     match xi_ R s fin keyed n (some k) (j+1) with
     | none=>none
     | some (l,e)=>some ((k,d)::l,e)
    else none
def zb0 (R:Nat->Option (DT×Nat)) (s:BA) (fin:Nat) (keyed:Bool) (i:Nat):Option (List (BA×DT)×Nat):=
 if bt s i=fin then some ([],i+1) else xi_ R s fin keyed (s.size+2) none i
def ya_ (R:PT->Nat->Option (DT×Nat)) (s:BA):Bool->List PT->Nat->Option (List DT×Nat)
 | _,[],i=>some ([],i)
 | first,t::r,i=>
  if first=true then
   match R t i with
   | none=>none
   | some (d,j)=>match ya_ R s false r j with|none=>none|some (ds,e)=>some (d::ds,e)
  else if bt s i=44 then
   match R t (i+1) with
   | none=>none
   | some (d,j)=>match ya_ R s false r j with|none=>none|some (ds,e)=>some (d::ds,e)
  else none
def yo_ (R:PT->Nat->Option (DT×Nat)) (s:BA) (pb:PB) (i:Nat):Option (DT×Nat):=
 match pb with
 | .recd fs=>
  if bt s i=40 then
   match ya_ R s true (fs.map PF.ty) (i+1) with
   | none=>none
   | some (ds,j)=>if bt s j=41 then some (.mk 114 0 noB [] ds,j+1) else none
  else none
 | .enum l _=>
  if i<s.size then
   match (l.map Prod.fst).findIdx? (λ c=>c==bt s i) with
   | none=>none
   | some q=>some (.mk 101 q noB [] [],i+1)
  else none
 | .bytes n=>
  if bt s i=39/\zw_ s (i+1)-(i+1)=n/\bt s (zw_ s (i+1))=39 then some (.mk 102 0 (s.extract (i+1) (zw_ s (i+1))) [] [],zw_ s (i+1)+1) else none
def zk1 (s:BA) (i:Nat):Nat:=min (z0_ 48 57 s i) (i+3)
def zxg (s:BA) (i:Nat):Nat->Nat
 | 0=>0
 | n+1=>10*zxg s i n+(bt s (i+n)-48)
def zan (R:PT->Nat->Option (DT×Nat)) (s:BA) (pl:Bool) (ts:List PT) (i:Nat):Option (DT×Nat):=
 if pl=true then
  match ts with
  | []=>none
  | t::_=>match R t i with|none=>none|some (d,j)=>some (.mk 40 0 noB [] [d],j)
 else if bt s i=60/\zk1 s (i+1)≠i+1/\¬ (bt s (i+1)=48/\zk1 s (i+1)-(i+1) > 1)/\bt s (zk1 s (i+1))=58 then
  match ts[zxg s (i+1) (zk1 s (i+1)-(i+1))]? with
  | none=>none
  | some t=>
   match R t (zk1 s (i+1)+1) with
   | none=>none
   | some (d,j)=>if bt s j=62 then some (.mk 40 (zxg s (i+1) (zk1 s (i+1)-(i+1)):Nat) noB [] [d],j+1) else none
 else none
def xx_ (R:PT->Nat->Option (DT×Nat)) (s:BA) (env:Nat->Option PB) (c i:Nat):Option (DT×Nat):=
 if c=110 then (if bt s i=78 then some (.mk 110 0 noB [] [],i+1) else none)
 else if c=116 then (if bt s i=84 then some (.mk 116 1 noB [] [],i+1) else if bt s i=70 then some (.mk 116 0 noB [] [],i+1) else none)
 else if c=105\/c=108 then (match jj_ s c i with|none=>none|some (n,j)=>some (.mk c n noB [] [],j))
 else if c=115 then (if bt s i=34/\bt s (zw_ s (i+1))=34 then some (.mk 115 0 (s.extract (i+1) (zw_ s (i+1))) [] [],zw_ s (i+1)+1) else none)
 else match env c with|none=>none|some pb=>yo_ R s pb i
def vy_ (R:Nat->Option (DT×Nat)) (s:BA) (c i:Nat):Option (DT×Nat):=
 if bt s i=c then
  match zb0 R s (xq_ c) (c==123) (i+1) with
  | none=>none
  | some (l,j)=>some (.mk c 0 noB (if (c==123)=true then l.map Prod.fst else []) (l.map Prod.snd),j)
 else none
def rdT (s:BA) (env:Nat->Option PB) (pl:Bool):Nat->PT->Nat->Option (DT×Nat)
 | 0,_,_=>none
 | f+1,.leaf c _,i=>xx_ (rdT s env pl f) s env c i
 | f+1,.wrap c _ t,i=>vy_ (rdT s env pl f t) s c i
 | f+1,.alts _ ts,i=>zan (rdT s env pl f) s pl ts i
def Goes (s:BA) (R:Nat->Option (DT×Nat)):Prop:=∀ i d j,R i=some (d,j)->i<j/\j<=s.size
theorem vh_ (lo a:Nat) (s:BA):∀ n i,s.size-i<=n->i<=z0_ lo a s i/\(i<=s.size->z0_ lo a s i<=s.size):=by
 intro n
 induction n with
 | zero=>intro i h;rw[z0_,dif_neg (by omega)];exact⟨l_,λ h=>h⟩
 | succ n ih=>
  intro i h;rw[z0_];split
  ·split
   ·have:=ih (i+1) (by omega);exact⟨by omega,λ _=>this.2 (by omega)⟩
   ·exact⟨l_,λ h=>h⟩
  ·exact⟨l_,λ h=>h⟩
theorem jn_ (s:BA) (i:Nat):i<=zw_ s i:=(vh_ 97 122 s _ i l_).1
theorem zoe {s:BA}{keyed:Bool}{last:Option BA}{i:Nat}{k:BA}{j:Nat}(h:zfh s keyed last i=some (k,j)):i<=j:=by
 unfold zfh at h;split at h
 ·split at h
  ·simp only[ag_,ad_] at h;have:=jn_ s i;omega
  ·simp at h
 ·simp only[ag_,ad_] at h;omega
theorem zjh {s:BA}{R:Nat->Option (DT×Nat)}(b:Goes s R){a:Nat}(g:0<a){keyed:Bool}:∀ (n:Nat) (last:Option BA) (i:Nat) (l:List (BA×DT)) (j:Nat),xi_ R s a keyed n last i=some (l,j)->i<j/\j<=s.size:=by
 intro n
 induction n with
 | zero=>intro last i l j h;simp[xi_] at h
 | succ n ih=>
  intro last i l j h;unfold xi_ at h;split at h
  ·simp at h
  ·rename_i k m hk;have h1:=zoe hk;split at h
   ·simp at h
   ·rename_i d c hd;have f:=b _ _ _ hd;split at h
    ·rename_i hb;have:=zj_ (s:=s) (i:=c) (by omega);simp only[ag_,ad_] at h;omega
    ·split at h
     ·split at h
      ·simp at h
      ·rename_i o e he;have:=ih _ _ _ _ he;simp only[ag_,ad_] at h;omega
     ·simp at h
theorem zht {s:BA}{R:PT->Nat->Option (DT×Nat)}(b:∀ t,Goes s (R t)):∀ (ts:List PT) (first:Bool) (i:Nat) (l:List DT) (j:Nat),i<=s.size->ya_ R s first ts i=some (l,j)->i<=j/\j<=s.size:=by
 intro ts
 induction ts with
 | nil=>intro first i l j c h;simp[ya_] at h;omega
 | cons t r ih=>
  intro first i l j c h
  unfold ya_ at h;split at h
  ·split at h
   ·simp at h
   ·rename_i d f hd;have a:=b _ _ _ _ hd;split at h
    ·simp at h
    ·rename_i g e he;have:=ih _ _ _ _ a.2 he;simp only[ag_,ad_] at h;omega
  ·split at h
   ·split at h
    ·simp at h
    ·rename_i d f hd;have a:=b _ _ _ _ hd;split at h
     ·simp at h
     ·rename_i g e he;have:=ih _ _ _ _ a.2 he;simp only[ag_,ad_] at h;omega
   ·simp at h
theorem zjg {s:BA}{R:PT->Nat->Option (DT×Nat)}(a:∀ t,Goes s (R t)) (pb:PB):Goes s (yo_ R s pb):=by
 intro i d j h;unfold yo_ at h;split at h
 ·split at h
  ·rename_i hb;have h0:=zj_ (s:=s) (i:=i) (by omega);split at h
   ·simp at h
   ·rename_i ds b hd;have h1:=zht a _ _ _ _ _ (by omega) hd;split at h
    ·rename_i hc;have:=zj_ (s:=s) (i:=b) (by omega);simp only[ag_,ad_] at h;omega
    ·simp at h
  ·simp at h
 ·split at h
  ·split at h
   ·simp at h
   ·simp only[ag_,ad_] at h;omega
  ·simp at h
 ·split at h
  ·rename_i hb;have:=zj_ (s:=s) (i:=zw_ s (i+1)) (by omega);have:=jn_ s (i+1);simp only[ag_,ad_] at h;omega
  ·simp at h
theorem zmp (c:Nat):0<xq_ c:=by unfold xq_;split<;>omega
theorem zod {s:BA}{kd i:Nat}{n:Int}{j:Nat}(h:jj_ s kd i=some (n,j)):i<j/\j<=s.size:=by
 unfold jj_ at h;split at h
 ·rename_i hn;simp only[ag_,ad_] at h;have h0:=hn.1
  have hs:i<=sgn s i:=by unfold sgn;split<;>omega
  unfold y6_ at h0;rw[bb_] at h0;have hg:=vh_ 48 57 s _ (sgn s i) l_;unfold xe_ at *;rw[<- h.2];refine⟨by omega,hg.2 (by omega)⟩
 ·simp at h
theorem zam (s:BA) (env:Nat->Option PB) (pl:Bool) (f:Nat):∀ t,Goes s (rdT s env pl f t):=by
 induction f with
 | zero=>intro t i d j h;simp[rdT] at h
 | succ f ih=>
  intro t i d j h
  cases t with
  | leaf c p=>
   simp only[rdT] at h;unfold xx_ at h
   have one:∀ {k x},bt s i=k->0<k->some (x,i+1)=some (d,j)->i<j/\j<=s.size:=λ hb h0 h=>by
    have:=zj_ (s:=s) (i:=i) (by omega);simp only[ag_,ad_] at h;omega
   split at h
   ·split at h
    ·rename_i hb;exact one hb (by omega) h
    ·simp at h
   ·split at h
    ·split at h
     ·rename_i hb;exact one hb (by omega) h
     ·split at h
      ·rename_i hb;exact one hb (by omega) h
      ·simp at h
    ·split at h
     ·split at h
      ·simp at h
      ·rename_i n a hn;have:=zod hn;simp only[ag_,ad_] at h;omega
     ·split at h
      ·split at h
       ·rename_i hb;have:=zj_ (s:=s) (i:=zw_ s (i+1)) (by omega);have:=jn_ s (i+1);simp only[ag_,ad_] at h;omega
       ·simp at h
      ·split at h
       ·simp at h
       ·exact zjg ih _ _ _ _ h
  | wrap c p t=>
   simp only[rdT] at h;unfold vy_ at h;split at h
   ·split at h
    ·simp at h
    ·rename_i l a hl;simp only[ag_,ad_] at h;unfold zb0 at hl;have hc:=zmp c;split at hl
     ·rename_i hb;have:=zj_ (s:=s) (i:=i+1) (by omega);simp only[ag_,ad_] at hl;omega
     ·have:=zjh (ih t) hc _ _ _ _ _ hl;omega
   ·simp at h
  | alts p ts=>
   simp only[rdT] at h;unfold zan at h;split at h
   ·split at h
    ·simp at h
    ·split at h
     ·simp at h
     ·rename_i b a hd;have:=ih _ _ _ _ hd;simp only[ag_,ad_] at h;omega
   ·split at h
    ·rename_i hb;have hg:=(vh_ 48 57 s _ (i+1) l_).1
     have e:i+1<=zk1 s (i+1):=by unfold zk1;omega
     split at h
     ·simp at h
     ·split at h
      ·simp at h
      ·rename_i b a hd;have h1:=ih _ _ _ _ hd;split at h
       ·rename_i hc;have:=zj_ (s:=s) (i:=a) (by omega);simp only[ag_,ad_] at h;omega
       ·simp at h
    ·simp at h
end Go.Proofs.YtiifagiebikmdaaGreatDoor
