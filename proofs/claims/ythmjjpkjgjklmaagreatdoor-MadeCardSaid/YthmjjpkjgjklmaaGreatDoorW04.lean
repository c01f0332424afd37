import Derived.Test.YthmjjpkjgjklmaaGreatDoorW02
import Derived.Deep.DeepCutAuto
import Derived.Test.YthmjjpkjgjklmaaGreatDoorW00
import Derived.Test.YthmjjpkjgjklmaaGreatDoorA00
set_option maxHeartbeats 16000000
set_option maxRecDepth 100000
set_option linter.unusedSimpArgs false
namespace Go.Proofs.YthmjjpkjgjklmaaGreatDoor
open Go.RowKit
def LAt (w:World) (bl:Nat) (s:BA) (bz:Nat) (pl:Bool) (i:Nat) (bad:Bool):Prop:=
 Blk w bl [.string s,.int .i64 (i:Int),.bool bad,.pointer (some ⟨bz,0,none⟩),.bool pl] 161
section
variable {w w':World} {bl:Nat} {s:BA} {bz:Nat} {pl:Bool} {i:Nat} {bad:Bool}
theorem LAt.c0 (h:LAt w bl s bz pl i bad):w.cell? ⟨bl,0,none⟩=some (.string s):=by rw[Blk.cell h];rfl
theorem LAt.c1 (h:LAt w bl s bz pl i bad):w.cell? ⟨bl,1,none⟩=some (.int .i64 (i:Int)):=by rw[Blk.cell h];rfl
theorem LAt.c2 (h:LAt w bl s bz pl i bad):w.cell? ⟨bl,2,none⟩=some (.bool bad):=by rw[Blk.cell h];rfl
theorem LAt.c3 (h:LAt w bl s bz pl i bad):w.cell? ⟨bl,3,none⟩=some (.pointer (some ⟨bz,0,none⟩)):=by rw[Blk.cell h];rfl
theorem LAt.c4 (h:LAt w bl s bz pl i bad):w.cell? ⟨bl,4,none⟩=some (.bool pl):=by rw[Blk.cell h];rfl
theorem LAt.thaw (h:LAt w bl s bz pl i bad) (o:Nat):w.frozen? ⟨bl,o,none⟩=false:=Blk.thaw h o
theorem LAt.still (h:LAt w bl s bz pl i bad) (hw:ze_ w w'):LAt w' bl s bz pl i bad:=by obtain⟨n,rfl⟩:=hw;exact h
theorem LAt.inc (h:LAt w bl s bz pl i bad):LAt (w.setCell ⟨bl,1,none⟩ (.int .i64 ((i:Int)+1))) bl s bz pl (i+1) bad:=Blk.set h 1 _
end
def lk (s:BA) (i:Nat) (bad:Bool):Nat:=if bad=true then 0 else bt s i
def LEat (w:World) (bl:Nat) (s:BA) (bz:Nat) (pl:Bool) (i:Nat) (bad:Bool) (d:Nat) (w':World):Prop:=
 (if lk s i bad=d then LAt w' bl s bz pl (i+1) bad/\i<s.size else LAt w' bl s bz pl i true)/\Fr w w' (· = bl)
def zm_ (lo hi:Nat) (s:BA) (i:Nat):Nat:=
 if h:i<s.size then (if lo<=bt s i/\bt s i<=hi then zm_ lo hi s (i+1) else i) else i
 termination_by s.size-i
theorem zfq {lo hi:Nat}{s:BA}{i:Nat}(h:i<s.size) (hb:lo<=bt s i/\bt s i<=hi):zm_ lo hi s i=zm_ lo hi s (i+1):=by
 conv=>lhs;unfold zm_
 rw[dif_pos h,if_pos hb]
theorem vf_ {lo hi:Nat}{s:BA}{i:Nat}(hb:¬ (lo<=bt s i/\bt s i<=hi)):zm_ lo hi s i=i:=by
 unfold zm_
 simp[hb]
def zux (w:World) (bl:Nat) (s:BA) (bz:Nat) (pl:Bool) (i:Nat) (bad:Bool) (e:Ending) (w':World):Prop:=
 ∃ k,k=(if bad=true then i else zm_ 97 122 s i)/\i<=k/\k<=s.size/\e=.returned (.string (s.extract i k))/\LAt w' bl s bz pl k bad/\Fr w w' (· = bl)
open Go.RowKit
def zjs (c:Nat) (neg:Bool):BA:=
 if c=105 then (if neg=true then ⟨#[50,49,52,55,52,56,51,54,52,56]⟩ else ⟨#[50,49,52,55,52,56,51,54,52,55]⟩)
 else (if neg=true then ⟨#[57,50,50,51,51,55,50,48,51,54,56,53,52,55,55,53,56,48,56]⟩ else ⟨#[57,50,50,51,51,55,50,48,51,54,56,53,52,55,55,53,56,48,55]⟩)
open Go.RowKit
def sgn (s:BA) (i:Nat):Nat:=if bt s i=45 then i+1 else i
def zfy (kd:Nat) (neg:Bool) (t:BA):Prop:=
 0<t.size/\¬ (bt t 0=48/\(1<t.size\/neg=true))/\t.size<=(zjs kd neg).size/\(t.size=(zjs kd neg).size->(!Op.bytesLess t.toList (zjs kd neg).toList && !(t.toList==(zjs kd neg).toList))=false)
def zm0 (neg:Bool) (x:Int) (d:Nat):Int:=if neg=true then wrap64 (wrap64 (10*x)-wrap64 (wrap64 (d:Int)-48)) else wrap64 (wrap64 (10*x)+wrap64 (wrap64 (d:Int)-48))
def numV (neg:Bool) (t:BA):Nat->Int
 | 0=>0
 | a+1=>zm0 neg (numV neg t a) (bt t a)
def zuw (w:World) (bl:Nat) (s:BA) (bz:Nat) (pl:Bool) (i kd:Nat) (e:Ending) (w':World):Prop:=
 ∃ k neg t,neg=((bt s i:Int)==45)/\t=s.extract (sgn s i) k/\k=zm_ 48 57 s (sgn s i)/\i<=k/\k<=s.size/\Fr w w' (· = bl)/\
  ((zfy kd neg t/\i<k/\LAt w' bl s bz pl k false/\e=.returned (.int .i64 (numV neg t t.size)))\/(¬ zfy kd neg t/\LAt w' bl s bz pl k true/\e=.returned (.int .i64 0)))
open Go.RowKit
inductive DT where
 | mk (k:Nat) (n:Int) (tx:BA) (ks:List BA) (ds:List DT)
 deriving Inhabited
def noB:BA:=⟨#[]⟩
instance (kd:Nat) (neg:Bool) (t:BA):Decidable (zfy kd neg t):=by unfold zfy;infer_instance
def z6_ (s:BA) (i:Nat):Nat:=zm_ 48 57 s (sgn s i)
def xu_ (s:BA) (i:Nat):Bool:=((bt s i:Int)==45)
def z4_ (s:BA) (i:Nat):BA:=s.extract (sgn s i) (z6_ s i)
def vr_ (s:BA) (kd i:Nat):Option (Int×Nat):=
 if zfy kd (xu_ s i) (z4_ s i) then some (numV (xu_ s i) (z4_ s i) (z4_ s i).size,z6_ s i) else none
def zp_ (s:BA) (i:Nat):Nat:=zm_ 97 122 s i
def zen (last:Option BA) (k:BA):Bool:=match last with|none=>true|some l=>Op.bytesLess l.toList k.toList
def zeo (s:BA) (keyed:Bool) (last:Option BA) (i:Nat):Option (BA×Nat):=
 if keyed=true then
  if bt s (zp_ s i)=58/\zen last (s.extract i (zp_ s i))=true then some (s.extract i (zp_ s i),zp_ s i+1) else none
 else some (noB,i)
def y3_ (R:Nat->Option (DT×Nat)) (s:BA) (fin:Nat) (keyed:Bool):Nat->Option BA->Nat->Option (List (BA×DT)×Nat)
 | 0,_,_=>none
 | n+1,last,i=>
  match zeo s keyed last i with
  | none=>none
  | some (k,i1)=>
   match R i1 with
   | none=>none
   | some (d,j)=>
    if bt s j=fin then some ([(k,d)],j+1)
    else if bt s j=44 then
     match y3_ R s fin keyed n (some k) (j+1) with
     | none=>none
     | some (l,e)=>some ((k,d)::l,e)
    else none
def zcr (R:Nat->Option (DT×Nat)) (s:BA) (fin:Nat) (keyed:Bool) (i:Nat):Option (List (BA×DT)×Nat):=
 if bt s i=fin then some ([],i+1) else y3_ R s fin keyed (s.size+2) none i
def zv_ (R:PT->Nat->Option (DT×Nat)) (s:BA):Bool->List PT->Nat->Option (List DT×Nat)
 | _,[],i=>some ([],i)
 | first,t::r,i=>
  if first=true then
   match R t i with
   | none=>none
   | some (d,j)=>match zv_ R s false r j with|none=>none|some (ds,e)=>some (d::ds,e)
  else if bt s i=44 then
   match R t (i+1) with
   | none=>none
   | some (d,j)=>match zv_ R s false r j with|none=>none|some (ds,e)=>some (d::ds,e)
  else none
def y6_ (R:PT->Nat->Option (DT×Nat)) (s:BA) (pb:PB) (i:Nat):Option (DT×Nat):=
 match pb with
 | .recd fs=>
  if bt s i=40 then
   match zv_ R s true (fs.map PF.ty) (i+1) with
   | none=>none
   | some (ds,j)=>if bt s j=41 then some (.mk 114 0 noB [] ds,j+1) else none
  else none
 | .enum l _=>
  if i<s.size then
   match (l.map Prod.fst).findIdx? (λ c=>c==bt s i) with
   | none=>none
   | some q=>some (.mk 101 q noB [] [],i+1)
  else none
 | .bytes n=>
  if bt s i=39/\zp_ s (i+1)-(i+1)=n/\bt s (zp_ s (i+1))=39 then some (.mk 102 0 (s.extract (i+1) (zp_ s (i+1))) [] [],zp_ s (i+1)+1) else none
def y5_ (s:BA) (i:Nat):Nat:=min (zm_ 48 57 s i) (i+3)
def zd1 (s:BA) (i:Nat):Nat->Nat
 | 0=>0
 | n+1=>10*zd1 s i n+(bt s (i+n)-48)
def y9_ (R:PT->Nat->Option (DT×Nat)) (s:BA) (pl:Bool) (ts:List PT) (i:Nat):Option (DT×Nat):=
 if pl=true then
  match ts with
  | []=>none
  | t::_=>match R t i with|none=>none|some (d,j)=>some (.mk 40 0 noB [] [d],j)
 else if bt s i=60/\y5_ s (i+1)≠i+1/\¬ (bt s (i+1)=48/\y5_ s (i+1)-(i+1) > 1)/\bt s (y5_ s (i+1))=58 then
  match ts[zd1 s (i+1) (y5_ s (i+1)-(i+1))]? with
  | none=>none
  | some t=>
   match R t (y5_ s (i+1)+1) with
   | none=>none
   | some (d,j)=>if bt s j=62 then some (.mk 40 (zd1 s (i+1) (y5_ s (i+1)-(i+1)):Nat) noB [] [d],j+1) else none
 else none
def va_ (R:PT->Nat->Option (DT×Nat)) (s:BA) (env:Nat->Option PB) (c i:Nat):Option (DT×Nat):=
 if c=110 then (if bt s i=78 then some (.mk 110 0 noB [] [],i+1) else none)
 else if c=116 then (if bt s i=84 then some (.mk 116 1 noB [] [],i+1) else if bt s i=70 then some (.mk 116 0 noB [] [],i+1) else none)
 else if c=105\/c=108 then (match vr_ s c i with|none=>none|some (n,j)=>some (.mk c n noB [] [],j))
 else if c=115 then (if bt s i=34/\bt s (zp_ s (i+1))=34 then some (.mk 115 0 (s.extract (i+1) (zp_ s (i+1))) [] [],zp_ s (i+1)+1) else none)
 else match env c with|none=>none|some pb=>y6_ R s pb i
def vt_ (R:Nat->Option (DT×Nat)) (s:BA) (c i:Nat):Option (DT×Nat):=
 if bt s i=c then
  match zcr R s (x7_ c) (c==123) (i+1) with
  | none=>none
  | some (l,j)=>some (.mk c 0 noB (if (c==123)=true then l.map Prod.fst else []) (l.map Prod.snd),j)
 else none
def rdT (s:BA) (env:Nat->Option PB) (pl:Bool):Nat->PT->Nat->Option (DT×Nat)
 | 0,_,_=>none
 | f+1,.leaf c _,i=>va_ (rdT s env pl f) s env c i
 | f+1,.wrap c _ t,i=>vt_ (rdT s env pl f t) s c i
 | f+1,.alts _ ts,i=>y9_ (rdT s env pl f) s pl ts i
def Goes (s:BA) (R:Nat->Option (DT×Nat)):Prop:=∀ i d j,R i=some (d,j)->i<j/\j<=s.size
theorem yj_ (lo hi:Nat) (s:BA):∀ n i,s.size-i<=n->i<=zm_ lo hi s i/\(i<=s.size->zm_ lo hi s i<=s.size):=by
 intro n
 induction n with
 | zero=>intro i h;rw[zm_,dif_neg (by omega)];exact⟨l_,λ h=>h⟩
 | succ n ih=>
  intro i h;rw[zm_];split
  ·split
   ·have:=ih (i+1) (by omega);exact⟨by omega,λ _=>this.2 (by omega)⟩
   ·exact⟨l_,λ h=>h⟩
  ·exact⟨l_,λ h=>h⟩
theorem vo_ (s:BA) (i:Nat):i<=zp_ s i:=(yj_ 97 122 s _ i l_).1
theorem zdm {s:BA}{keyed:Bool}{last:Option BA}{i:Nat}{k:BA}{j:Nat}(h:zeo s keyed last i=some (k,j)):i<=j:=by
 unfold zeo at h;split at h
 ·split at h
  ·simp only[ad_,ab_] at h;have:=vo_ s i;omega
  ·simp at h
 ·simp only[ad_,ab_] at h;omega
theorem zj0 {s:BA}{R:Nat->Option (DT×Nat)}(hR:Goes s R){fin:Nat}(hf:0<fin){keyed:Bool}:∀ (n:Nat) (last:Option BA) (i:Nat) (l:List (BA×DT)) (j:Nat),y3_ R s fin keyed n last i=some (l,j)->i<j/\j<=s.size:=by
 intro n
 induction n with
 | zero=>intro last i l j h;simp[y3_] at h
 | succ n ih=>
  intro last i l j h;unfold y3_ at h;split at h
  ·simp at h
  ·rename_i k i1 hk;have h1:=zdm hk;split at h
   ·simp at h
   ·rename_i d j1 hd;have h2:=hR _ _ _ hd;split at h
    ·rename_i hb;have:=zl_ (s:=s) (i:=j1) (by omega);simp only[ad_,ab_] at h;omega
    ·split at h
     ·split at h
      ·simp at h
      ·rename_i l' e he;have:=ih _ _ _ _ he;simp only[ad_,ab_] at h;omega
     ·simp at h
theorem zib {s:BA}{R:PT->Nat->Option (DT×Nat)}(hR:∀ t,Goes s (R t)):∀ (ts:List PT) (first:Bool) (i:Nat) (l:List DT) (j:Nat),i<=s.size->zv_ R s first ts i=some (l,j)->i<=j/\j<=s.size:=by
 intro ts
 induction ts with
 | nil=>intro first i l j hi h;simp[zv_] at h;omega
 | cons t r ih=>
  intro first i l j hi h
  unfold zv_ at h;split at h
  ·split at h
   ·simp at h
   ·rename_i d j1 hd;have h2:=hR _ _ _ _ hd;split at h
    ·simp at h
    ·rename_i l' e he;have:=ih _ _ _ _ h2.2 he;simp only[ad_,ab_] at h;omega
  ·split at h
   ·split at h
    ·simp at h
    ·rename_i d j1 hd;have h2:=hR _ _ _ _ hd;split at h
     ·simp at h
     ·rename_i l' e he;have:=ih _ _ _ _ h2.2 he;simp only[ad_,ab_] at h;omega
   ·simp at h
theorem zjy {s:BA}{R:PT->Nat->Option (DT×Nat)}(hR:∀ t,Goes s (R t)) (pb:PB):Goes s (y6_ R s pb):=by
 intro i d j h;unfold y6_ at h;split at h
 ·split at h
  ·rename_i hb;have h0:=zl_ (s:=s) (i:=i) (by omega);split at h
   ·simp at h
   ·rename_i ds j1 hd;have h1:=zib hR _ _ _ _ _ (by omega) hd;split at h
    ·rename_i hc;have:=zl_ (s:=s) (i:=j1) (by omega);simp only[ad_,ab_] at h;omega
    ·simp at h
  ·simp at h
 ·split at h
  ·split at h
   ·simp at h
   ·simp only[ad_,ab_] at h;omega
  ·simp at h
 ·split at h
  ·rename_i hb;have:=zl_ (s:=s) (i:=zp_ s (i+1)) (by omega);have:=vo_ s (i+1);simp only[ad_,ab_] at h;omega
  ·simp at h
theorem znm (c:Nat):0<x7_ c:=by unfold x7_;split<;>omega
theorem zdl {s:BA}{kd i:Nat}{n:Int}{j:Nat}(h:vr_ s kd i=some (n,j)):i<j/\j<=s.size:=by
 unfold vr_ at h;split at h
 ·rename_i hn;simp only[ad_,ab_] at h;have h0:=hn.1
  have hs:i<=sgn s i:=by unfold sgn;split<;>omega
  unfold z4_ at h0;rw[as_] at h0;have hg:=yj_ 48 57 s _ (sgn s i) l_;unfold z6_ at *;rw[<- h.2];refine⟨by omega,hg.2 (by omega)⟩
 ·simp at h
theorem j2_ (s:BA) (env:Nat->Option PB) (pl:Bool) (f:Nat):∀ t,Goes s (rdT s env pl f t):=by
 induction f with
 | zero=>intro t i d j h;simp[rdT] at h
 | succ f ih=>
  intro t i d j h
  cases t with
  | leaf c p=>
   simp only[rdT] at h;unfold va_ at h
   have one:∀ {k x},bt s i=k->0<k->some (x,i+1)=some (d,j)->i<j/\j<=s.size:=λ hb h0 h=>by
    have:=zl_ (s:=s) (i:=i) (by omega);simp only[ad_,ab_] at h;omega
   split at h
   ·split at h
    ·rename_i hb;exact one hb (by omega) h
    ·simp at h
   ·split at h
    ·split at h
     ·rename_i hb;exact one hb (by omega) h
     ·split at h
      ·rename_i hb;exact one hb (by omega) h
      ·simp at h
    ·split at h
     ·split at h
      ·simp at h
      ·rename_i n j1 hn;have:=zdl hn;simp only[ad_,ab_] at h;omega
     ·split at h
      ·split at h
       ·rename_i hb;have:=zl_ (s:=s) (i:=zp_ s (i+1)) (by omega);have:=vo_ s (i+1);simp only[ad_,ab_] at h;omega
       ·simp at h
      ·split at h
       ·simp at h
       ·exact zjy ih _ _ _ _ h
  | wrap c p t=>
   simp only[rdT] at h;unfold vt_ at h;split at h
   ·split at h
    ·simp at h
    ·rename_i l j1 hl;simp only[ad_,ab_] at h;unfold zcr at hl;have hc:=znm c;split at hl
     ·rename_i hb;have:=zl_ (s:=s) (i:=i+1) (by omega);simp only[ad_,ab_] at hl;omega
     ·have:=zj0 (ih t) hc _ _ _ _ _ hl;omega
   ·simp at h
  | alts p ts=>
   simp only[rdT] at h;unfold y9_ at h;split at h
   ·split at h
    ·simp at h
    ·split at h
     ·simp at h
     ·rename_i d1 j1 hd;have:=ih _ _ _ _ hd;simp only[ad_,ab_] at h;omega
   ·split at h
    ·rename_i hb;have hg:=(yj_ 48 57 s _ (i+1) l_).1
     have hbe:i+1<=y5_ s (i+1):=by unfold y5_;omega
     split at h
     ·simp at h
     ·split at h
      ·simp at h
      ·rename_i d1 j1 hd;have h1:=ih _ _ _ _ hd;split at h
       ·rename_i hc;have:=zl_ (s:=s) (i:=j1) (by omega);simp only[ad_,ab_] at h;omega
       ·simp at h
    ·simp at h
end Go.Proofs.YthmjjpkjgjklmaaGreatDoor
