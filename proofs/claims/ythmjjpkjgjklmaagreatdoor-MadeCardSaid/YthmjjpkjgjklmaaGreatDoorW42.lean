import Derived.Test.YthmjjpkjgjklmaaGreatDoorW41
import Derived.Test.YthmjjpkjgjklmaaGreatDoorW40
import Derived.Test.YthmjjpkjgjklmaaGreatDoorW08
import Derived.Test.YthmjjpkjgjklmaaGreatDoorW11
import Derived.Test.YthmjjpkjgjklmaaGreatDoorW17
import Derived.Test.YthmjjpkjgjklmaaGreatDoorA00
set_option maxHeartbeats 16000000
set_option maxRecDepth 100000
set_option linter.unusedSimpArgs false
open Go.Proofs.Tryz
namespace Go.Proofs.YthmjjpkjgjklmaaGreatDoor
open Go.RowKit
variable {s s':BA}{P Q:Nat->Prop}{x y t:PT}{ew er env:Nat->Option PB}{R:Ending->World->Prop}{v:Value}{Z:PB->Value->Prop}{ds:List PD}{ua:Option Addr}{un uc:Nat}{df:PF->Option DT}
theorem MtV.iface {w:World}(h:MtV w P Q s s' ew er Z x y v):∃ T u,v=.iface T u:=by
 rcases h.kind with⟨_,rfl⟩|⟨_,T,u,rfl,_,_⟩
 ·exact⟨_,_,rfl⟩
 ·exact⟨_,_,rfl⟩
theorem zqj {w:World}(h:MtV w P Q s s' ew er Z x y v) :
 Calls prog 196 #[v] w λ e w'=>e=.returned (.bool (!matP ew er x y))/\Fr w w' (λ _=>False):=by
 rcases h.kind with⟨hk,rfl⟩|⟨hk,T,u,rfl,h1,h2⟩
 ·rw[hk];exact znf
 ·rw[hk];exact zqk T h1 u
theorem zg3 {w:World}{ds':List PD}{sv sv' uv:Value}{xs xs':List Value}{sT rT:TypeId}{sx rx:Value}{a:Value}{rs:List PT}{X:Nat->Value}{p:Nat}
 (D:DRow w P s ds sv xs) (E:DRow w Q s' ds' sv' xs') (ha:TyV w P x a) (fx:jw_ x) (ex:∀ c p,x=.leaf c p->z0_ c=true->∃ X,za_ ds c=some X)
 (ho:w.ownsRow 0 88 1 uv rs.length ((List.range rs.length).map X)) (hoQ:∀ g,uv.ownBlock=some g->Q g) (hX:∀ i t,rs[i]?=some t->TyV w Q t (X i)) (hl:rs.length<=1000)
 (fl:∀ t∈rs,jw_ t) (ey:∀ t∈rs,∀ c p,t=.leaf c p->z0_ c=true->∃ Y,za_ ds' c=some Y) :
 Calls prog 147 #[.agg #[sv,.iface sT sx,sv',.iface rT rx],a,.agg #[.int .i64 (p:Int),uv]] w λ e w'=>∃ v,e=.returned v/\Fr w w' (λ _=>False)/\BrV w' P Q s s' (za_ ds) (za_ ds') (ZV ds' xs') x rs (vs_ (za_ ds) (za_ ds') x rs 0 none) v:=by
 obtain⟨POST,Q_⟩:∃ R,H_ (R=λ (e:Ending) (w':World)=>∃ v,e=.returned v/\Fr w w' (λ _=>False)/\BrV w' P Q s s' (za_ ds) (za_ ds') (ZV ds' xs') x rs (vs_ (za_ ds) (za_ ds') x rs 0 none) v):=⟨_,rfl⟩;rw[<- Q_.o];have hM:=q_ (λ W (hW:Fr w W (λ _=>False)) r b (hr:r∈rs) (hb:TyV W Q r b)=>zkr (sT:=sT) (rT:=rT) (sx:=sx) (rx:=rx) (D.fr hW u_) (E.fr hW u_) (ha.fr hW u_) hb fx (fl r hr) ex (ey r hr));obtain⟨sa,sc,rfl⟩:=zf_ D.row;obtain⟨ra,rc,rfl⟩:=zf_ E.row;obtain⟨ua,uc,rfl⟩:=zf_ ho;obtain⟨aT,ax,rfl⟩:=ha.iface;clear D E ha fx ex ey;obtain⟨wz,hwz⟩:∃ W,W=(w.alloc (.cells #[.slice sa ds.length sc,.iface sT sx,.slice ra ds'.length rc,.iface rT rx] 127)).alloc (.cells #[.int .i64 (p:Int),.slice ua rs.length uc] 258):=⟨_,rfl⟩
 have Fz:Fr w wz (λ _=>False):=by rw[hwz];exact((Fr.refl w (λ _=>False)).alloc _).alloc _
 have B0:Blk wz w.heap.size [.slice sa ds.length sc,.iface sT sx,.slice ra ds'.length rc,.iface rT rx] 127:=by
  rw[hwz];exact(Blk.new w #[.slice sa ds.length sc,.iface sT sx,.slice ra ds'.length rc,.iface rT rx] 127).alloc _
 replace Fz:=q_ Fz;replace B0:=q_ B0;replace hwz:=q_ hwz;replace ho:=q_ ho;replace hoQ:=q_ hoQ;replace hX:=q_ hX;replace fl:=q_ fl;generalize hew:za_ ds=ew at hM Q_;generalize her:za_ ds'=er at hM Q_;generalize hzz:ZV ds' xs'=Z at hM Q_;clear hew her hzz
 go_in
 go_wp2_with fail
 rw[<- hwz.o]
 go_loopg [7,16] (rs.length+1) (λ m v7 v W=>∃ q:Nat,v=.int .i64 (q:Int)/\q<=rs.length/\rs.length+1-q<=m/\Fr wz W (λ _=>False)/\BrV W P Q s s' ew er Z x rs (vs_ ew er x (rs.take q) 0 none) v7)
 case atStart=>exact⟨0,rfl,aj_ _,by omega,Fr.refl _ _,rfl⟩
 case round=>
  obtain⟨q,rfl,hq,hm,hf,hB⟩:=hrel
  by_cases hlt:q<rs.length
  ·have hlt':(q:Int)<(rs.length:Int):=by omega
   have hd:rs[q]?=some rs[q]:=am_ hlt;have hmem:rs[q]∈rs:=bd_ hlt;generalize rs[q]=r at hd hmem;obtain⟨g,cap,hgc⟩:=zk_ ho.o (by omega);cases hgc;have hfw:=Fz.o.trans hf u_;have ty:=(hX.o q r hd).fr hfw u_;have c0:=zs_ (zb_ ho.o hfw u_) rfl (k:=q) (x:=X q) (by rw[a4_,List.getElem?_range hlt];rfl);obtain⟨bT,bx,hXq⟩:=ty.iface;rw[hXq] at ty c0;have b0:=hf.blk B0.o id;obtain⟨k0,k1,k2,k3⟩:=b0.d4;have hstep:=q_ (zpm (ew:=ew) (er:=er) (x:=x) hd);have hT:=q_ ty;replace hfw:=q_ hfw;have hmem:=q_ hmem;have hIn:=q_ (λ W (hW:Fr wr W (λ _=>False))=>zor (hT.o.fr hW u_) (fl.o r hmem.o));clear b0 ty hXq;have hNv:=q_ (λ W m (h:MtV W P Q s s' ew er Z x r m)=>zqj h);cases hk:matP ew er x r
   ·rw[hk] at hNv;have hst:H_ (vs_ ew er x (rs.take (q+1)) 0 none=vs_ ew er x (rs.take q) 0 none):=q_ (by rw[hstep.o,hk];rfl);replace hB:=q_ hB;replace hf:=q_ hf
    go_wp2_with (first
     |(go_at_call 148;refine(hM.o _ hfw.o r _ hmem.o hT.o).mono ?_;rintro e w1 ⟨m1,rfl,hf1,hm1⟩;obtain⟨mT,mu,rfl⟩:=hm1.iface;have hm1:=q_ hm1;have F1:=q_ hf1;clear hf1)
     |(go_at_call 196;refine(hNv.o _ _ hm1.o).mono ?_;rintro e w2 ⟨rfl,hf2⟩;have F2:=q_ (F1.o.trans hf2 u_);have hm2:=q_ (hm1.o.fr hf2 u_ u_);clear hf2))
    go_roundg (rs.length+1-(q+1))
    case measure=>omega
    case rel=>
     refine⟨q+1,rfl,hlt,l_,hf.o.trans F2.o u_,?_⟩;rw[hst.o];exact hB.o.fr F2.o u_ u_
   ·rw[hk] at hNv;cases hpk:vs_ ew er x (rs.take q) 0 none
    ·rw[hpk] at hB;have hst:H_ (vs_ ew er x (rs.take (q+1)) 0 none=some q):=q_ (by rw[hstep.o,hk,hpk];rfl);replace hB:u7=_:=hB;subst hB;replace hf:=q_ hf
     go_wp2_with (first
      |(go_at_call 148;refine(hM.o _ hfw.o r _ hmem.o hT.o).mono ?_;rintro e w1 ⟨m1,rfl,hf1,hm1⟩;obtain⟨mT,mu,rfl⟩:=hm1.iface;have hm1:=q_ hm1;have F1:=q_ hf1;clear hf1)
      |(go_at_call 196;refine(hNv.o _ _ hm1.o).mono ?_;rintro e w2 ⟨rfl,hf2⟩;have F2:=q_ (F1.o.trans hf2 u_);have hm2:=q_ (hm1.o.fr hf2 u_ u_);clear hf2)
      |(go_at_call 197;refine(zto _ (by decide) _).mono ?_;rintro e w3 ⟨rfl,hf3⟩;have F3:=q_ (F2.o.trans hf3 u_);have hm3:=q_ (hm2.o.fr hf3 u_ u_);clear hf3))
     go_roundg (rs.length+1-(q+1))
     case measure=>omega
     case rel=>
      refine⟨q+1,rfl,hlt,l_,hf.o.trans F3.o u_,?_⟩;rw[hst.o];exact⟨r,mT,mu,hd,rfl,hk,hm3.o⟩
    ·rename_i i0;cases hkd:(r.kind==105)
     ·rw[hkd] at hIn;have hst:H_ (vs_ ew er x (rs.take (q+1)) 0 none=vs_ ew er x (rs.take q) 0 none):=q_ (by rw[hstep.o,hk,hpk,hkd];rfl);rw[hpk] at hst hB;have hB':=hB;obtain⟨r',T',u',h1',h2',h3',h4'⟩:=hB';subst h2';clear h1' h3' h4';replace hB:=q_ hB;replace hf:=q_ hf
      go_wp2_with (first
       |(go_at_call 148;refine(hM.o _ hfw.o r _ hmem.o hT.o).mono ?_;rintro e w1 ⟨m1,rfl,hf1,hm1⟩;obtain⟨mT,mu,rfl⟩:=hm1.iface;have hm1:=q_ hm1;have F1:=q_ hf1;clear hf1)
       |(go_at_call 196;refine(hNv.o _ _ hm1.o).mono ?_;rintro e w2 ⟨rfl,hf2⟩;have F2:=q_ (F1.o.trans hf2 u_);have hm2:=q_ (hm1.o.fr hf2 u_ u_);clear hf2)
       |(go_at_call 197;refine zhm.mono ?_;rintro e w3 ⟨rfl,hf3⟩;have F3:=q_ (F2.o.trans hf3 u_);have hm3:=q_ (hm2.o.fr hf3 u_ u_);clear hf3)
       |(go_at_call 198;refine(hIn.o _ F3.o).mono ?_;rintro e w4 ⟨rfl,hf4⟩;have F4:=q_ (F3.o.trans hf4 u_);have hm4:=q_ (hm3.o.fr hf4 u_ u_);clear hf4))
      go_roundg (rs.length+1-(q+1))
      case measure=>omega
      case rel=>
       refine⟨q+1,rfl,hlt,l_,hf.o.trans F4.o u_,?_⟩;rw[hst.o];exact hB.o.fr F4.o u_ u_
     ·rw[hkd] at hIn;have hst:H_ (vs_ ew er x (rs.take (q+1)) 0 none=some q):=q_ (by rw[hstep.o,hk,hkd];simp);rw[hpk] at hB;obtain⟨r',T',u',h1',h2',h3',h4'⟩:=hB;subst h2';clear h1' h3' h4';replace hf:=q_ hf
      go_wp2_with (first
       |(go_at_call 148;refine(hM.o _ hfw.o r _ hmem.o hT.o).mono ?_;rintro e w1 ⟨m1,rfl,hf1,hm1⟩;obtain⟨mT,mu,rfl⟩:=hm1.iface;have hm1:=q_ hm1;have F1:=q_ hf1;clear hf1)
       |(go_at_call 196;refine(hNv.o _ _ hm1.o).mono ?_;rintro e w2 ⟨rfl,hf2⟩;have F2:=q_ (F1.o.trans hf2 u_);have hm2:=q_ (hm1.o.fr hf2 u_ u_);clear hf2)
       |(go_at_call 197;refine zhm.mono ?_;rintro e w3 ⟨rfl,hf3⟩;have F3:=q_ (F2.o.trans hf3 u_);have hm3:=q_ (hm2.o.fr hf3 u_ u_);clear hf3)
       |(go_at_call 198;refine(hIn.o _ F3.o).mono ?_;rintro e w4 ⟨rfl,hf4⟩;have F4:=q_ (F3.o.trans hf4 u_);have hm4:=q_ (hm3.o.fr hf4 u_ u_);clear hf4))
      go_roundg (rs.length+1-(q+1))
      case measure=>omega
      case rel=>
       refine⟨q+1,rfl,hlt,l_,hf.o.trans F4.o u_,?_⟩;rw[hst.o];exact⟨r,mT,mu,hd,rfl,hk,hm4.o⟩
  ·have hlt':¬ ((q:Int)<(rs.length:Int)):=by omega
   rw[a3_ (by omega)] at hB;replace hB:=q_ hB;replace hf:=q_ hf
   go_wp2_with fail
   try go_ret
   rw[Q_.o];exact⟨_,rfl,Fz.o.trans hf.o u_,hB.o⟩
open Go.RowKit
section
variable {w:World} {p:Nat} {sa ra:Option Addr} {sn sc rn rc:Nat} {sT rT aT bT:TypeId} {sx rx ax bx:Value}
theorem zsy (ha:aT≠258) (h:∀ W,Fr w W (λ _=>False)->Calls prog 147 #[.agg #[.slice sa sn sc,.iface sT sx,.slice ra rn rc,.iface rT rx],.iface aT ax,.agg #[.int .i64 (p:Int),.slice ua un uc]] W (λ e w'=>∃ v,e=.returned v/\R (.returned v) w')) :
 Calls prog 92 #[.agg #[.slice sa sn sc,.iface sT sx,.slice ra rn rc,.iface rT rx],.iface aT ax,.iface 258 (.agg #[.int .i64 (p:Int),.slice ua un uc])] w R:=by
 refine hq_ λ POST Q_=>?_;have A:=q_ (λ o o' o''=>(((Fr.refl w (λ _=>False)).alloc o).alloc o').alloc o'');replace h:=q_ h;have an:=ym_ aT ha;have bn:=x1_
 go_in
 go_wp2_with (go_at_call 147;refine(h.o _ (A.o _ _ _)).mono ?_;rintro e w1 ⟨v,rfl,hR⟩;replace hR:=q_ hR)
 try go_ret
 rw[Q_.o];exact hR.o
end
inductive MeV (w:World) (P Q:Nat->Prop) (s s':BA) (ew er:Nat->Option PB) (Z:PB->Value->Prop):PT->PT->Value->Prop
 | outb {p:Nat} {ws:List PT} {y:PT} {uv b:Value} (X:Nat->Value) (ho:w.ownsRow 0 88 1 uv ws.length ((List.range ws.length).map X)) (hX:∀ i t,ws[i]?=some t->TyV w P t (X i)) (hb:TyV w Q y b):MeV w P Q s s' ew er Z (.alts p ws) y (.iface 275 (.agg #[uv,b]))
 | into {x:PT} {p:Nat} {rs:List PT} {v:Value} (fx:jw_ x) (h:BrV w P Q s s' ew er Z x rs (vs_ ew er x rs 0 none) v):MeV w P Q s s' ew er Z x (.alts p rs) v
 | flat {x y:PT} {v:Value} (fx:jw_ x) (fy:jw_ y) (h:MtV w P Q s s' ew er Z x y v):MeV w P Q s s' ew er Z x y v
theorem BrV.iface {w:World}{rs:List PT}{k:Option Nat}(h:BrV w P Q s s' ew er Z x rs k v):∃ T u,v=.iface T u:=by
 cases k with
 | none=>exact⟨_,_,h⟩
 | some i=>obtain⟨_,_,_,_,rfl,_⟩:=h;exact⟨_,_,rfl⟩
theorem MeV.iface {w:World}(h:MeV w P Q s s' ew er Z x y v):∃ T u,v=.iface T u:=by
 cases h with
 | outb=>exact⟨_,_,rfl⟩
 | into fx h=>exact h.iface
 | flat fx fy h=>exact h.iface
theorem zih (h:okT env t) (ha:t.isAlts=false):jw_ t:=by
 cases t with
 | leaf c p=>exact trivial
 | wrap c p u=>unfold okT at h;exact h.1
 | alts p l=>simp[PT.isAlts] at ha
theorem zii (h:okT env t):∀ c p,t=.leaf c p->z0_ c=true->∃ X,env c=some X:=λ c p e hn=>by
 subst e;unfold okT at h
 rcases h with h|h
 ·rw[jh_ hn] at h;cases h
 ·exact h.2
theorem TyV.alts_inv {w:World}{p:Nat}{l:List PT}(h:TyV w P (.alts p l) v):∃ (uv:Value) (X:Nat->Value),v=.iface 258 (.agg #[.int .i64 (p:Int),uv])/\w.ownsRow 0 88 1 uv l.length ((List.range l.length).map X)/\(∀ g,uv.ownBlock=some g->P g)/\∀ i t,l[i]?=some t->TyV w P t (X i):=by
 cases h with
 | alts p X ho hP h=>exact⟨_,X,rfl,ho,hP,h⟩
theorem TyV.flat_ne {w:World}{T:TypeId}{u:Value}(h:TyV w P x (.iface T u)) (fx:jw_ x):T≠258:=by
 cases h with
 | base c p h=>exact(jl_ c).2.2.1
 | name c p h=>decide
 | wrap c p h=>
  rcases fx with rfl|rfl
  ·decide
  ·decide
 | alts p X ho hP h=>exact fx.elim
theorem zv7 {w:World}{ds':List PD}{sv sv':Value}{xs xs':List Value}{sT rT:TypeId}{sx rx:Value}{a b:Value}
 (D:DRow w P s ds sv xs) (E:DRow w Q s' ds' sv' xs') (ha:TyV w P x a) (hb:TyV w Q y b) (hx:okT (za_ ds) x) (hy:okT (za_ ds') y) (fy:fewT y) :
 Calls prog 92 #[.agg #[sv,.iface sT sx,sv',.iface rT rx],a,b] w λ e w'=>∃ v,e=.returned v/\Fr w w' (λ _=>False)/\MeV w' P Q s s' (za_ ds) (za_ ds') (ZV ds' xs') x y v:=by
 obtain⟨sa,sc,hsv⟩:=zf_ D.row;obtain⟨ra,rc,hrv⟩:=zf_ E.row
 cases hxa:x.isAlts with
 | true=>
  cases x with
  | leaf c p=>simp[PT.isAlts] at hxa
  | wrap c p u=>simp[PT.isAlts] at hxa
  | alts p ws=>
   obtain⟨uv,X,rfl,ho,hP,hX⟩:=ha.alts_inv;obtain⟨bT,bx,rfl⟩:=hb.iface;obtain⟨ua,uc,huv⟩:=zf_ ho;subst hsv hrv huv;refine zv6.mono ?_;rintro e w' ⟨rfl,hf⟩;exact⟨_,rfl,hf,.outb X (zb_ ho hf u_) (λ i t h=>(hX i t h).fr hf u_) (hb.fr hf u_)⟩
 | false=>
  have fx:=zih hx hxa
  cases hya:y.isAlts with
  | true=>
   cases y with
   | leaf c p=>simp[PT.isAlts] at hya
   | wrap c p u=>simp[PT.isAlts] at hya
   | alts p rs=>
    obtain⟨uv,X,rfl,ho,hP,hX⟩:=hb.alts_inv;obtain⟨aT,ax,rfl⟩:=ha.iface;obtain⟨ua,uc,huv⟩:=zf_ ho;unfold okT at hy;unfold fewT at fy;have hall:=j6_ hy.2
    have hC:=λ W (hW:Fr w W (λ _=>False))=>(zg3 (sT:=sT) (rT:=rT) (sx:=sx) (rx:=rx) (p:=p) (D.fr hW u_) (E.fr hW u_) (ha.fr hW u_) fx (zii hx) (zb_ ho hW u_) hP (λ i t h=>(hX i t h).fr hW u_) (by omega) (λ t ht=>zih (hall t ht).2 (hall t ht).1) (λ t ht=>zii (hall t ht).2)).mono (λ e w' (q:∃ v,e=.returned v/\Fr W w' (λ _=>False)/\BrV w' P Q s s' (za_ ds) (za_ ds') (ZV ds' xs') x rs (vs_ (za_ ds) (za_ ds') x rs 0 none) v)=>show ∃ v,e=.returned v/\∃ v2,Ending.returned v=.returned v2/\Fr w w' (λ _=>False)/\MeV w' P Q s s' (za_ ds) (za_ ds') (ZV ds' xs') x (.alts p rs) v2 by
     obtain⟨v,h1,h2,h3⟩:=q
     exact⟨v,h1,v,rfl,hW.trans h2 u_,.into fx h3⟩)
    have hne:=ha.flat_ne fx;subst hsv hrv huv;exact zsy hne hC
  | false=>
   have gy:=zih hy hya;obtain⟨aT,ax,rfl⟩:=ha.iface;obtain⟨bT,bx,rfl⟩:=hb.iface
   have hC:=λ W (hW:Fr w W (λ _=>False))=>(zkr (sT:=sT) (rT:=rT) (sx:=sx) (rx:=rx) (D.fr hW u_) (E.fr hW u_) (ha.fr hW u_) (hb.fr hW u_) fx gy (zii hx) (zii hy)).mono (λ e w' (q:∃ v,e=.returned v/\Fr W w' (λ _=>False)/\MtV w' P Q s s' (za_ ds) (za_ ds') (ZV ds' xs') x y v)=>show ∃ v,e=.returned v/\∃ v2,Ending.returned v=.returned v2/\Fr w w' (λ _=>False)/\MeV w' P Q s s' (za_ ds) (za_ ds') (ZV ds' xs') x y v2 by
    obtain⟨v,h1,h2,h3⟩:=q
    exact⟨v,h1,v,rfl,hW.trans h2 u_,.flat fx gy h3⟩)
   have hna:=ha.flat_ne fx;have hnb:=hb.flat_ne gy;subst hsv hrv;exact zsz hna hnb hC
open Go.RowKit
theorem ztb (v:Value) (w:World):(Instr.typeAssert (.iface 273 v) 166 273 true).run prog w=.ok (.tuple #[v,.bool true]) w:=by kernel_rfl
theorem zbp (u:TypeId) (h:u≠273) (v:Value) (w:World):(Instr.typeAssert (.iface u v) 166 273 true).run prog w=.ok (.tuple #[.agg #[],.bool false]) w:=by
 have e:(Instr.typeAssert (.iface u v) 166 273 true).run prog w=(if u=273 then (pure (Value.tuple #[v,.bool true]):Sem Value) else (do pure (Value.tuple #[<- zeroValue 273,.bool false]))).run prog w:=by kernel_rfl
 have e2:(do pure (Value.tuple #[<- zeroValue 273,.bool false]):Sem Value).run prog w=.ok (.tuple #[.agg #[],.bool false]) w:=by kernel_rfl
 rw[e,if_neg h];exact e2
theorem zqc (v:Value) (w:World):(Instr.typeAssert (.iface 275 v) 166 275 true).run prog w=.ok (.tuple #[v,.bool true]) w:=by kernel_rfl
theorem zbe (u:TypeId) (h:u≠275) (v:Value) (w:World):(Instr.typeAssert (.iface u v) 166 275 true).run prog w=.ok (.tuple #[.agg #[.slice none 0 0,.nilIface],.bool false]) w:=by
 have e:(Instr.typeAssert (.iface u v) 166 275 true).run prog w=(if u=275 then (pure (Value.tuple #[v,.bool true]):Sem Value) else (do pure (Value.tuple #[<- zeroValue 275,.bool false]))).run prog w:=by kernel_rfl
 have e2:(do pure (Value.tuple #[<- zeroValue 275,.bool false]):Sem Value).run prog w=.ok (.tuple #[.agg #[.slice none 0 0,.nilIface],.bool false]) w:=by kernel_rfl
 rw[e,if_neg h];exact e2
theorem zta (v:Value) (w:World):(Instr.typeAssert (.iface 278 v) 166 278 true).run prog w=.ok (.tuple #[v,.bool true]) w:=by kernel_rfl
theorem zfa (u:TypeId) (h:u≠278) (v:Value) (w:World):(Instr.typeAssert (.iface u v) 166 278 true).run prog w=.ok (.tuple #[.agg #[.int .i64 0,.nilIface],.bool false]) w:=by
 have e:(Instr.typeAssert (.iface u v) 166 278 true).run prog w=(if u=278 then (pure (Value.tuple #[v,.bool true]):Sem Value) else (do pure (Value.tuple #[<- zeroValue 278,.bool false]))).run prog w:=by kernel_rfl
 have e2:(do pure (Value.tuple #[<- zeroValue 278,.bool false]):Sem Value).run prog w=.ok (.tuple #[.agg #[.int .i64 0,.nilIface],.bool false]) w:=by kernel_rfl
 rw[e,if_neg h];exact e2
theorem zkw (v:Value) (w:World):(Instr.typeAssert (.iface 280 v) 166 280 true).run prog w=.ok (.tuple #[v,.bool true]) w:=by kernel_rfl
theorem zcg (u:TypeId) (h:u≠280) (v:Value) (w:World):(Instr.typeAssert (.iface u v) 166 280 true).run prog w=.ok (.tuple #[.agg #[.nilIface,.nilIface],.bool false]) w:=by
 have e:(Instr.typeAssert (.iface u v) 166 280 true).run prog w=(if u=280 then (pure (Value.tuple #[v,.bool true]):Sem Value) else (do pure (Value.tuple #[<- zeroValue 280,.bool false]))).run prog w:=by kernel_rfl
 have e2:(do pure (Value.tuple #[<- zeroValue 280,.bool false]):Sem Value).run prog w=.ok (.tuple #[.agg #[.nilIface,.nilIface],.bool false]) w:=by kernel_rfl
 rw[e,if_neg h];exact e2
theorem zg5 (v:Value) (w:World):(Instr.typeAssert (.iface 283 v) 166 283 true).run prog w=.ok (.tuple #[v,.bool true]) w:=by kernel_rfl
theorem zc3 (u:TypeId) (h:u≠283) (v:Value) (w:World):(Instr.typeAssert (.iface u v) 166 283 true).run prog w=.ok (.tuple #[.agg #[.int .i64 0,.slice none 0 0,.pointer none,.int .i64 0,.slice none 0 0,.pointer none],.bool false]) w:=by
 have e:(Instr.typeAssert (.iface u v) 166 283 true).run prog w=(if u=283 then (pure (Value.tuple #[v,.bool true]):Sem Value) else (do pure (Value.tuple #[<- zeroValue 283,.bool false]))).run prog w:=by kernel_rfl
 have e2:(do pure (Value.tuple #[<- zeroValue 283,.bool false]):Sem Value).run prog w=.ok (.tuple #[.agg #[.int .i64 0,.slice none 0 0,.pointer none,.int .i64 0,.slice none 0 0,.pointer none],.bool false]) w:=by kernel_rfl
 rw[e,if_neg h];exact e2
theorem zix (v:Value) (w:World):(Instr.typeAssert (.iface 286 v) 166 286 true).run prog w=.ok (.tuple #[v,.bool true]) w:=by kernel_rfl
theorem zkx (u:TypeId) (h:u≠286) (v:Value) (w:World):(Instr.typeAssert (.iface u v) 166 286 true).run prog w=.ok (.tuple #[.agg #[.int .i64 0,.slice none 0 0,.int .i64 0,.slice none 0 0],.bool false]) w:=by
 have e:(Instr.typeAssert (.iface u v) 166 286 true).run prog w=(if u=286 then (pure (Value.tuple #[v,.bool true]):Sem Value) else (do pure (Value.tuple #[<- zeroValue 286,.bool false]))).run prog w:=by kernel_rfl
 have e2:(do pure (Value.tuple #[<- zeroValue 286,.bool false]):Sem Value).run prog w=.ok (.tuple #[.agg #[.int .i64 0,.slice none 0 0,.int .i64 0,.slice none 0 0],.bool false]) w:=by kernel_rfl
 rw[e,if_neg h];exact e2
section
variable {w:World} {sa ra:Option Addr} {sn sc rn rc:Nat} {sT rT aT bT dT:TypeId} {sx rx ax bx dx:Value}
theorem zku (h:∀ W,Fr w W (λ _=>False)->Calls prog 142 #[.agg #[.slice sa sn sc,.iface sT sx,.slice ra rn rc,.iface rT rx],.agg #[.slice ua un uc,.iface bT bx],.iface dT dx] W (λ e w'=>∃ v ev,e=.returned (.tuple #[v,ev])/\R (.returned (.tuple #[v,ev])) w')) :
 Calls prog 91 #[.agg #[.slice sa sn sc,.iface sT sx,.slice ra rn rc,.iface rT rx],.iface 275 (.agg #[.slice ua un uc,.iface bT bx]),.iface dT dx] w R:=by
 refine hq_ λ POST Q_=>?_;have A1:=q_ (λ o=>(Fr.refl w (λ _=>False)).alloc o);have A2:=q_ (λ o o'=>((Fr.refl w (λ _=>False)).alloc o).alloc o');have A3:=q_ (λ o o' o''=>(((Fr.refl w (λ _=>False)).alloc o).alloc o').alloc o'');have A4:=q_ (λ o o' o'' o3=>((((Fr.refl w (λ _=>False)).alloc o).alloc o').alloc o'').alloc o3);replace h:=q_ h;have n0:=zbp 275 (by decide);have ny:=zqc
 go_in
 go_wp2_with (go_at_call 142;refine(h.o _ ?fr).mono ?_;(case fr=>(first|exact A1.o _|exact A2.o _ _|exact A3.o _ _ _|exact A4.o _ _ _ _|exact Fr.refl _ _));rintro e w1 ⟨v,ev,rfl,hR⟩;replace hR:=q_ hR)
 try go_ret
 rw[Q_.o];exact hR.o
theorem zm9 {n:Int}(h:∀ W,Fr w W (λ _=>False)->Calls prog 143 #[.agg #[.slice sa sn sc,.iface sT sx,.slice ra rn rc,.iface rT rx],.agg #[.int .i64 n,.iface bT bx],.iface dT dx] W (λ e w'=>∃ v ev,e=.returned (.tuple #[v,ev])/\R (.returned (.tuple #[v,ev])) w')) :
 Calls prog 91 #[.agg #[.slice sa sn sc,.iface sT sx,.slice ra rn rc,.iface rT rx],.iface 278 (.agg #[.int .i64 n,.iface bT bx]),.iface dT dx] w R:=by
 refine hq_ λ POST Q_=>?_;have A1:=q_ (λ o=>(Fr.refl w (λ _=>False)).alloc o);have A2:=q_ (λ o o'=>((Fr.refl w (λ _=>False)).alloc o).alloc o');have A3:=q_ (λ o o' o''=>(((Fr.refl w (λ _=>False)).alloc o).alloc o').alloc o'');have A4:=q_ (λ o o' o'' o3=>((((Fr.refl w (λ _=>False)).alloc o).alloc o').alloc o'').alloc o3);replace h:=q_ h;have n0:=zbp 278 (by decide);have n1:=zbe 278 (by decide);have ny:=zta
 go_in
 go_wp2_with (go_at_call 143;refine(h.o _ ?fr).mono ?_;(case fr=>(first|exact A1.o _|exact A2.o _ _|exact A3.o _ _ _|exact A4.o _ _ _ _|exact Fr.refl _ _));rintro e w1 ⟨v,ev,rfl,hR⟩;replace hR:=q_ hR)
 try go_ret
 rw[Q_.o];exact hR.o
theorem zb2 (h:∀ W,Fr w W (λ _=>False)->Calls prog 144 #[.agg #[.slice sa sn sc,.iface sT sx,.slice ra rn rc,.iface rT rx],.agg #[.iface aT ax,.iface bT bx],.iface dT dx] W (λ e w'=>∃ v ev,e=.returned (.tuple #[v,ev])/\R (.returned (.tuple #[v,ev])) w')) :
 Calls prog 91 #[.agg #[.slice sa sn sc,.iface sT sx,.slice ra rn rc,.iface rT rx],.iface 280 (.agg #[.iface aT ax,.iface bT bx]),.iface dT dx] w R:=by
 refine hq_ λ POST Q_=>?_;have A1:=q_ (λ o=>(Fr.refl w (λ _=>False)).alloc o);have A2:=q_ (λ o o'=>((Fr.refl w (λ _=>False)).alloc o).alloc o');have A3:=q_ (λ o o' o''=>(((Fr.refl w (λ _=>False)).alloc o).alloc o').alloc o'');have A4:=q_ (λ o o' o'' o3=>((((Fr.refl w (λ _=>False)).alloc o).alloc o').alloc o'').alloc o3);replace h:=q_ h;have n0:=zbp 280 (by decide);have n1:=zbe 280 (by decide);have n2:=zfa 280 (by decide);have ny:=zkw
 go_in
 go_wp2_with (go_at_call 144;refine(h.o _ ?fr).mono ?_;(case fr=>(first|exact A1.o _|exact A2.o _ _|exact A3.o _ _ _|exact A4.o _ _ _ _|exact Fr.refl _ _));rintro e w1 ⟨v,ev,rfl,hR⟩;replace hR:=q_ hR)
 try go_ret
 rw[Q_.o];exact hR.o
theorem zex {p q:Int}{va:Option Addr}{vn vc:Nat}{a b:Option Addr}(h:∀ W,Fr w W (λ _=>False)->Calls prog 145 #[.agg #[.int .i64 p,.slice ua un uc,.pointer a,.int .i64 q,.slice va vn vc,.pointer b],.iface dT dx] W (λ e w'=>∃ v ev,e=.returned (.tuple #[v,ev])/\R (.returned (.tuple #[v,ev])) w')) :
 Calls prog 91 #[.agg #[.slice sa sn sc,.iface sT sx,.slice ra rn rc,.iface rT rx],.iface 283 (.agg #[.int .i64 p,.slice ua un uc,.pointer a,.int .i64 q,.slice va vn vc,.pointer b]),.iface dT dx] w R:=by
 refine hq_ λ POST Q_=>?_;have A1:=q_ (λ o=>(Fr.refl w (λ _=>False)).alloc o);have A2:=q_ (λ o o'=>((Fr.refl w (λ _=>False)).alloc o).alloc o');have A3:=q_ (λ o o' o''=>(((Fr.refl w (λ _=>False)).alloc o).alloc o').alloc o'');have A4:=q_ (λ o o' o'' o3=>((((Fr.refl w (λ _=>False)).alloc o).alloc o').alloc o'').alloc o3);replace h:=q_ h;have n0:=zbp 283 (by decide);have n1:=zbe 283 (by decide);have n2:=zfa 283 (by decide);have n3:=zcg 283 (by decide);have ny:=zg5
 go_in
 go_wp2_with (go_at_call 145;refine(h.o _ ?fr).mono ?_;(case fr=>(first|exact A1.o _|exact A2.o _ _|exact A3.o _ _ _|exact A4.o _ _ _ _|exact Fr.refl _ _));rintro e w1 ⟨v,ev,rfl,hR⟩;replace hR:=q_ hR)
 try go_ret
 rw[Q_.o];exact hR.o
theorem zf5 {p q:Int}{va:Option Addr}{vn vc:Nat}(h:∀ W,Fr w W (λ _=>False)->Calls prog 146 #[.agg #[.slice sa sn sc,.iface sT sx,.slice ra rn rc,.iface rT rx],.agg #[.int .i64 p,.slice ua un uc,.int .i64 q,.slice va vn vc],.iface dT dx] W (λ e w'=>∃ v ev,e=.returned (.tuple #[v,ev])/\R (.returned (.tuple #[v,ev])) w')) :
 Calls prog 91 #[.agg #[.slice sa sn sc,.iface sT sx,.slice ra rn rc,.iface rT rx],.iface 286 (.agg #[.int .i64 p,.slice ua un uc,.int .i64 q,.slice va vn vc]),.iface dT dx] w R:=by
 refine hq_ λ POST Q_=>?_;have A1:=q_ (λ o=>(Fr.refl w (λ _=>False)).alloc o);have A2:=q_ (λ o o'=>((Fr.refl w (λ _=>False)).alloc o).alloc o');have A3:=q_ (λ o o' o''=>(((Fr.refl w (λ _=>False)).alloc o).alloc o').alloc o'');have A4:=q_ (λ o o' o'' o3=>((((Fr.refl w (λ _=>False)).alloc o).alloc o').alloc o'').alloc o3);replace h:=q_ h;have n0:=zbp 286 (by decide);have n1:=zbe 286 (by decide);have n2:=zfa 286 (by decide);have n3:=zcg 286 (by decide);have n4:=zc3 286 (by decide);have ny:=zix
 go_in
 go_wp2_with (go_at_call 146;refine(h.o _ ?fr).mono ?_;(case fr=>(first|exact A1.o _|exact A2.o _ _|exact A3.o _ _ _|exact A4.o _ _ _ _|exact Fr.refl _ _));rintro e w1 ⟨v,ev,rfl,hR⟩;replace hR:=q_ hR)
 try go_ret
 rw[Q_.o];exact hR.o
theorem zf6:Calls prog 91 #[.agg #[.slice sa sn sc,.iface sT sx,.slice ra rn rc,.iface rT rx],.iface 273 (.agg #[]),.iface dT dx] w λ e w'=>e=.returned (.tuple #[.iface dT dx,.nilIface])/\Fr w w' (λ _=>False):=by
 refine hq_ λ POST Q_=>?_;have A1:=q_ (λ o=>(Fr.refl w (λ _=>False)).alloc o);have A2:=q_ (λ o o'=>((Fr.refl w (λ _=>False)).alloc o).alloc o');have A3:=q_ (λ o o' o''=>(((Fr.refl w (λ _=>False)).alloc o).alloc o').alloc o'');have A4:=q_ (λ o o' o'' o3=>((((Fr.refl w (λ _=>False)).alloc o).alloc o').alloc o'').alloc o3);have ny:=ztb
 go_in
 go_wp2_with fail
 try go_ret
 rw[Q_.o];refine⟨rfl,?_⟩
 (first|exact A1.o _|exact A2.o _ _|exact A3.o _ _ _|exact A4.o _ _ _ _|exact Fr.refl _ _)
theorem zea {nt:TypeId}{nx:Value}(hE:ErrV 6 w nt nx):Calls prog 91 #[.agg #[.slice sa sn sc,.iface sT sx,.slice ra rn rc,.iface rT rx],.iface 338 (.agg #[]),.iface dT dx] w λ e w'=>e=.returned (.tuple #[.nilIface,.iface nt nx])/\Fr w w' (λ _=>False):=by
 refine hq_ λ POST Q_=>?_;have A1:=q_ (λ o=>(Fr.refl w (λ _=>False)).alloc o);have he1:=hE.fr ((Fr.refl w (λ _=>False)).alloc (.cells #[.slice sa sn sc,.iface sT sx,.slice ra rn rc,.iface rT rx] 127)) id;unfold ErrV at he1;have n0:=zbp 338 (by decide);have n1:=zbe 338 (by decide);have n2:=zfa 338 (by decide);have n3:=zcg 338 (by decide);have n4:=zc3 338 (by decide);have n5:=zkx 338 (by decide)
 go_in
 go_wp2_with fail
 go_quiet (fail)
 go_wp2_with fail
 try go_ret
 rw[Q_.o];exact⟨rfl,(A1.o _).still (ze_.drewN _ _)⟩
end
open Go.RowKit
theorem zia {R:Nat->Option (DT×Nat)}(hR:∀ i d j,R i=some (d,j)->2*i+ndT d<=2*j){fin:Nat}{keyed:Bool}:∀ (n:Nat) (last:Option BA) (i:Nat) (l:List (BA×DT)) (j:Nat),y3_ R s fin keyed n last i=some (l,j)->2*i+ndTs (l.map Prod.snd)<=2*j:=by
 intro n
 induction n with
 | zero=>intro last i l j h;simp[y3_] at h
 | succ n ih=>
  intro last i l j h;unfold y3_ at h;split at h
  ·simp at h
  ·rename_i k i1 hk;have h1:=zdm hk;split at h
   ·simp at h
   ·rename_i d j1 hd;have h2:=hR _ _ _ hd;split at h
    ·simp only[ad_,ab_] at h;obtain⟨rfl,rfl⟩:=h;simp only[ap_,a1_,ndTs];omega
    ·split at h
     ·split at h
      ·simp at h
      ·rename_i l' e he;have:=ih _ _ _ _ he;simp only[ad_,ab_] at h;obtain⟨rfl,rfl⟩:=h;simp only[ap_,ndTs];omega
     ·simp at h
theorem zg0 {R:PT->Nat->Option (DT×Nat)}:∀ (ts:List PT),(∀ t∈ts,∀ i d j,R t i=some (d,j)->2*i+ndT d<=2*j)->∀ (first:Bool) (i:Nat) (l:List DT) (j:Nat),zv_ R s first ts i=some (l,j)->2*i+ndTs l<=2*j:=by
 intro ts
 induction ts with
 | nil=>
  intro _ first i l j h
  simp only[zv_,ad_,ab_] at h;obtain⟨rfl,rfl⟩:=h;simp only[ndTs];omega
 | cons t r ih=>
  intro hR first i l j h
  have ih:=ih (λ t ht=>hR t (bv_ _ ht));unfold zv_ at h;split at h
  ·split at h
   ·simp at h
   ·rename_i d j1 hd;have h2:=hR _ ay_ _ _ _ hd;split at h
    ·simp at h
    ·rename_i l' e he;have:=ih _ _ _ _ he;simp only[ad_,ab_] at h;obtain⟨rfl,rfl⟩:=h;simp only[ndTs];omega
  ·split at h
   ·split at h
    ·simp at h
    ·rename_i d j1 hd;have h2:=hR _ ay_ _ _ _ hd;split at h
     ·simp at h
     ·rename_i l' e he;have:=ih _ _ _ _ he;simp only[ad_,ab_] at h;obtain⟨rfl,rfl⟩:=h;simp only[ndTs];omega
   ·simp at h
theorem zh9 {R:PT->Nat->Option (DT×Nat)}(hR:∀ t,okT env t->∀ i d j,R t i=some (d,j)->2*i+ndT d<=2*j) (pb:PB) (hb:okB env pb) (i:Nat) (d:DT) (j:Nat) (h:y6_ R s pb i=some (d,j)):2*i+ndT d+1<=2*j:=by
 unfold y6_ at h;split at h
 ·split at h
  ·split at h
   ·simp at h
   ·rename_i fs _ ds j1 hd
    have h1:=zg0 _ (λ t ht=>by
     obtain⟨g,hg,rfl⟩:=bk_.1 ht
     exact hR _ (hb g hg)) _ _ _ _ hd
    split at h
    ·simp only[ad_,ab_] at h;obtain⟨rfl,rfl⟩:=h;unfold ndT;omega
    ·simp at h
  ·simp at h
 ·split at h
  ·split at h
   ·simp at h
   ·simp only[ad_,ab_] at h;obtain⟨rfl,rfl⟩:=h;rw[zbo];omega
  ·simp at h
 ·split at h
  ·have:=vo_ s (i+1);simp only[ad_,ab_] at h;obtain⟨rfl,rfl⟩:=h;rw[zbo];omega
  ·simp at h
theorem zr4 (hE:zes env) (s:BA) (f:Nat):∀ t,okT env t->∀ i d j,rdT s env true f t i=some (d,j)->2*i+ndT d+(if t.isAlts=true then 0 else 1)<=2*j:=by
 induction f with
 | zero=>intro t _ i d j h;simp[rdT] at h
 | succ f ih=>
  intro t ht i d j h
  have ih0:∀ t,okT env t->∀ i d j,rdT s env true f t i=some (d,j)->2*i+ndT d<=2*j:=λ t ht i d j h=>by have:=ih t ht i d j h;omega
  cases t with
  | leaf c p=>
   rw[if_neg (by simp[PT.isAlts])];simp only[rdT] at h;unfold va_ at h
   have one:∀ {k n tx q},i<q->some (DT.mk k n tx [] [],q)=some (d,j)->2*i+ndT d+1<=2*j:=λ hq h=>by
    simp only[ad_,ab_] at h;obtain⟨rfl,rfl⟩:=h;rw[zbo];omega
   split at h
   ·split at h
    ·exact one (by omega) h
    ·simp at h
   ·split at h
    ·split at h
     ·exact one (by omega) h
     ·split at h
      ·exact one (by omega) h
      ·simp at h
    ·split at h
     ·split at h
      ·simp at h
      ·rename_i n j1 hn;have:=zdl hn;exact one this.1 h
     ·split at h
      ·split at h
       ·have:=vo_ s (i+1);exact one (by omega) h
       ·simp at h
      ·split at h
       ·simp at h
       ·rename_i pb hpb;exact zh9 ih0 _ (hE _ _ hpb) _ _ _ h
  | wrap c p t=>
   rw[if_neg (by simp[PT.isAlts])];unfold okT at ht;simp only[rdT] at h;unfold vt_ at h;split at h
   ·split at h
    ·simp at h
    ·rename_i l j1 hl;simp only[ad_,ab_] at h;obtain⟨rfl,rfl⟩:=h;unfold zcr at hl;unfold ndT;split at hl
     ·simp only[ad_,ab_] at hl;obtain⟨rfl,rfl⟩:=hl;simp only[a1_,ndTs];omega
     ·have:=zia (ih0 t ht.2) _ _ _ _ _ hl;omega
   ·simp at h
  | alts p ts=>
   rw[if_pos (show(PT.alts p ts).isAlts=true from rfl)];unfold okT at ht;have ha:=j6_ ht.2;simp only[rdT] at h;unfold y9_ at h;rw[if_pos rfl] at h;split at h
   ·simp at h
   ·rename_i t0 r;split at h
    ·simp at h
    ·rename_i d1 j1 hd;have h1:=ih _ (ha _ (by first|exact ay_|exact ak_ ‹_›)).2 _ _ _ hd;rw[if_neg (by rw[(ha _ (by first|exact ay_|exact ak_ ‹_›)).1];decide)] at h1;simp only[ad_,ab_] at h;obtain⟨rfl,rfl⟩:=h;unfold ndT;simp only[ndTs];omega
theorem zjw (hE:zes env)(ht:okT env t){d:DT}(h:xn_ env true t s=some d):ndT d<=2*s.size:=by
 unfold xn_ at h;split at h
 ·simp at h
 ·rename_i d1 j hd;have h1:=zr4 hE s _ t ht _ _ _ hd;have h2:=(j2_ s env _ _ t _ _ _ hd).2;split at h
  ·simp only[ad_] at h;subst h;omega
  ·simp at h
theorem zho:∀ (fs:List PF) (seen:List Nat),dupF seen fs=[]->(fs.map PF.letter).Nodup/\∀ c∈fs.map PF.letter,c∉seen
 | [],seen,_=>⟨List.nodup_nil,λ c hc=>by cases hc⟩
 | f::r,seen,h=>by
  unfold dupF at h;rw[bz_] at h;obtain⟨h1,h2⟩:=h;obtain⟨a,b⟩:=zho r _ h2
  have hf:f.letter∉seen:=λ e=>by rw[if_pos e] at h1;cases h1
  refine⟨?_,λ c hc=>?_⟩
  ·rw[ap_,List.nodup_cons];exact⟨λ e=>b _ e (b2_ _ (a6_.2 rfl)),a⟩
  ·rw[ap_] at hc
   rcases an_.1 hc with rfl|hc
   ·exact hf
   ·exact λ e=>b c hc (b6_ _ e)
theorem zlm (env:Nat->Option PB):∀ (ds:List PD) (seen:List Nat),defF env seen ds=[]->∀ d∈ds,zb0 env d.body=[]
 | [],_,_,d,hd=>by cases hd
 | x::r,seen,h,d,hd=>by
  unfold defF at h;simp only[bz_] at h
  rcases an_.1 hd with rfl|hd
  ·exact h.2.1
  ·exact zlm env r _ h.2.2 d hd
theorem zyi {c:Nat}{b:PB}(he:za_ ds c=some b):∃ d∈ds,d.body=b:=by
 unfold za_ at he
 cases hl:look 0 c ds with
 | none=>rw[hl] at he;cases he
 | some q=>
  obtain⟨pb',b'⟩:=q;rw[hl] at he;simp only[a2_,ad_] at he;subst he;obtain⟨d,hd,e⟩:=zc4 hl;exact⟨d,hd,e⟩
theorem zr1 (h:v9_ ds t=[]){c:Nat}{fs:List PF}(he:za_ ds c=some (.recd fs)):(fs.map PF.letter).Nodup:=by
 unfold v9_ at h;rw[bz_] at h;obtain⟨d,hd,e⟩:=zyi he;have hb:=zlm _ _ _ h.1 d hd;rw[e] at hb
 have hn:dupF [] fs=[]:=by
  cases hx:dupF [] fs with
  | nil=>rfl
  | cons a l=>
   have:=(zot (za_ ds) fs a []).2 (.inl (by rw[hx];exact ay_));rw[show fldF (za_ ds) [] fs=[] from hb] at this;cases this
 exact(zho fs [] hn).1
def cst:List PF->List DT->Nat->Nat
 | f::fw,d::ds,c=>if f.letter=c then ndT d else cst fw ds c
 | _,_,_=>0
def sm (g:Nat->Nat):List Nat->Nat
 | []=>0
 | c::r=>g c+sm g r
theorem zzh (a x:Nat) (g:Nat->Nat):∀ L:List Nat,(a∉L->sm (λ c=>if a=c then x else g c) L<=sm g L)/\(L.Nodup->sm (λ c=>if a=c then x else g c) L<=x+sm g L)
 | []=>⟨λ _=>l_,λ _=>aj_ _⟩
 | c::r=>by
  obtain⟨h1,h2⟩:=zzh a x g r;refine⟨λ hn=>?_,λ hn=>?_⟩
  ·simp only[an_,not_or] at hn;simp only[sm,if_neg hn.1];have:=h1 hn.2;omega
  ·rw[List.nodup_cons] at hn;simp only[sm]
   by_cases e:a=c
   ·rw[if_pos e];have:=h1 (e▸hn.1);omega
   ·rw[if_neg e];have:=h2 hn.2;omega
theorem zme:∀ L:List Nat,sm (λ _=>0) L=0
 | []=>rfl
 | _::r=>by simp only[sm,zme r]
theorem zw4:∀ (fw:List PF) (ds:List DT) (L:List Nat),L.Nodup->sm (cst fw ds) L<=ndTs ds
 | [],ds,L,_=>by
  have:cst [] ds=λ _=>0:=by funext c;cases ds<;>rfl
  rw[this,zme];exact aj_ _
 | f::fw,[],L,_=>by
  have:cst (f::fw) []=λ _=>0:=by funext c;rfl
  rw[this,zme];exact aj_ _
 | f::fw,d::ds,L,h=>by
  have e:cst (f::fw) (d::ds)=λ c=>if f.letter=c then ndT d else cst fw ds c:=by funext c;rfl
  rw[e];have h1:=(zzh f.letter (ndT d) (cst fw ds) L).2 h;have h2:=zw4 fw ds L h;simp only[ndTs];omega
theorem zxc:∀ (fw:List PF) (ds:List DT) (c i:Nat) (h:PF) (d:DT),idxF fw c=some i->fw[i]?=some h->ds[i]?=some d->cst fw ds c=ndT d
 | [],ds,c,i,h,d,hi,hf,hd=>by simp at hf
 | f::fw,[],c,i,h,d,hi,hf,hd=>by simp at hd
 | f::fw,e::ds,c,i,h,d,hi,hf,hd=>by
  unfold idxF at hi;rw[ap_,List.findIdx?_cons] at hi;unfold cst
  by_cases hc:f.letter=c
  ·rw[if_pos hc];rw[if_pos (by rw[beq_iff_eq];exact hc)] at hi;simp only[ad_] at hi;subst hi;simp only[aa_,ad_] at hd;rw[hd]
  ·rw[if_neg hc];rw[if_neg (by rw[beq_iff_eq];exact hc)] at hi
   cases hq:(fw.map PF.letter).findIdx? (λ x=>x==c) with
   | none=>rw[hq] at hi;cases hi
   | some q=>
    rw[hq] at hi;simp only[a2_,ad_] at hi;subst hi;exact zxc fw ds c q h d hq (by simpa using hf) (by simpa using hd)
theorem zkj {R:PT->PT->DT->Option DT}{C:Nat}(hR:∀ w r d x,R w r d=some x->ndT x<=C*ndT d){fw:List PF}{ds:List DT}:∀ (fr:List PF) (l:List DT),(∀ g∈fr,∀ x,df g=some x->ndT x<=700)->mapO (mkF R df fw ds) fr=some l->ndTs l<=700*fr.length+C*sm (cst fw ds) (fr.map PF.letter)
 | [],l,_,h=>by
  simp only[mapO,ad_] at h;subst h;simp only[ndTs];omega
 | g::fr,l,hd,h=>by
  unfold mapO at h;split at h
  ·cases h
  ·rename_i b hb;split at h
   ·cases h
   ·rename_i l' hl;simp only[ad_] at h;subst h;have h1:=zkj hR fr l' (λ g hg=>hd g (bv_ _ hg)) hl;simp only[ndTs,ar_,ap_,sm,Nat.mul_add];unfold mkF at hb;split at hb
    ·rename_i i hi;split at hb
     ·rename_i h0 d0 hf0 hd0;rw[zxc fw ds _ i h0 d0 hi hf0 hd0];have:=hR _ _ _ _ hb;omega
     ·cases hb
    ·have:=hd g ay_ _ hb;omega
theorem zhj {R:DT->Option DT}{C:Nat}(hR:∀ d x,R d=some x->ndT x<=C*ndT d):∀ (ds l:List DT),mapO R ds=some l->ndTs l<=C*ndTs ds
 | [],l,h=>by
  simp only[mapO,ad_] at h;subst h;simp only[ndTs];omega
 | d::ds,l,h=>by
  unfold mapO at h;split at h
  ·cases h
  ·rename_i b hb;split at h
   ·cases h
   ·rename_i l' hl;simp only[ad_] at h;subst h;have h1:=zhj hR ds l' hl;have:=hR _ _ hb;simp only[ndTs,Nat.mul_add];omega
structure SmE (er:Nat->Option PB) (df:PF->Option DT):Prop where
 few:∀ c fs,er c=some (.recd fs)->fs.length<=300/\(fs.map PF.letter).Nodup
 sml:∀ c fs,er c=some (.recd fs)->∀ g∈fs,∀ x,df g=some x->ndT x<=700
theorem zkk (H:SmE er df){R:PT->PT->DT->Option DT}(hR:∀ w r d x,R w r d=some x->ndT x<=300000*ndT d){w r:PT}{d x:DT}(h:mkB R ew er df w r d=some x):ndT x+1<=300000*ndT d:=by
 obtain⟨k,n,tx,ks,ds⟩:=d;rw[xv_]
 cases w with
 | alts p l=>simp[mkB] at h
 | wrap c p u=>
  cases r with
  | leaf c' p'=>simp[mkB] at h
  | alts p' l'=>simp[mkB] at h
  | wrap c' p' u'=>
   simp only[mkB] at h
   cases hx:mapO (R u u') ds with
   | none=>rw[hx] at h;cases h
   | some l=>
    rw[hx] at h;simp only[a2_,ad_] at h;subst h;have:=zhj (hR u u') ds l hx;rw[xv_];omega
 | leaf c p=>
  cases r with
  | wrap c' p' u'=>simp[mkB] at h
  | alts p' l'=>simp[mkB] at h
  | leaf c' p'=>
   simp only[mkB] at h;split at h
   ·simp only[ad_] at h;subst h;rw[xv_];omega
   ·split at h
    ·rename_i fw fr hw hr
     cases hx:mapO (mkF R df fw ds) fr with
     | none=>rw[hx] at h;cases h
     | some l=>
      rw[hx] at h;simp only[a2_,ad_] at h;subst h;obtain⟨h1,h2⟩:=H.few _ _ hr;have h3:=zkj hR fr l (H.sml _ _ hr) hx;have h4:=zw4 fw ds _ h2;rw[xv_];have h5:300000*sm (cst fw ds) (fr.map PF.letter)<=300000*ndTs ds:=Nat.mul_le_mul_left _ h4;omega
    ·rename_i lw ow lr o hw hr
     cases hx:rdsS lr o ((lw.map Prod.fst).getD n.toNat 0) with
     | none=>rw[hx] at h;cases h
     | some q=>
      rw[hx] at h;simp only[a2_,ad_] at h;subst h;rw[xv_];simp only[ndTs];omega
    ·simp only[ad_] at h;subst h;rw[xv_];omega
    ·cases h
theorem zsw (H:SmE er df):∀ (f:Nat) (w r:PT) (d x:DT),mkP ew er df f w r d=some x->ndT x<=300000*ndT d:=by
 intro f
 induction f with
 | zero=>intro w r d x h;simp[mkP] at h
 | succ f ih=>
  intro w r d x h;unfold mkP at h;split at h
  ·obtain⟨k,n,tx,ks,ds⟩:=d;simp only at h;split at h
   ·rename_i w1 d1 ds1 hw;have:=ih _ _ _ _ h;rw[xv_];simp only[ndTs];omega
   ·cases h
  ·split at h
   ·split at h
    ·cases h
    ·split at h
     ·cases h
     ·rename_i r1 hr1
      cases hx:mkB (mkP ew er df f) ew er df w r1 d with
      | none=>rw[hx] at h;cases h
      | some z=>
       rw[hx] at h;simp only[a2_,ad_] at h;subst h;have:=zkk H ih hx;rw[xv_];simp only[ndTs];omega
   ·split at h
    ·have:=zkk H ih h;omega
    ·cases h
end Go.Proofs.YthmjjpkjgjklmaaGreatDoor
