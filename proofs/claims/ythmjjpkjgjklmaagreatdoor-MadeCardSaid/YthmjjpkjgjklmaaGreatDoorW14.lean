import Derived.Test.YthmjjpkjgjklmaaGreatDoorW03
import Derived.Test.YthmjjpkjgjklmaaGreatDoorW01
import Derived.Test.YthmjjpkjgjklmaaGreatDoorW07
import Derived.Test.YthmjjpkjgjklmaaGreatDoorW02
import Derived.Test.YthmjjpkjgjklmaaGreatDoorW00
import Derived.Test.YthmjjpkjgjklmaaGreatDoorA00
set_option maxHeartbeats 16000000
set_option maxRecDepth 100000
set_option linter.unusedSimpArgs false
open Go.Proofs.Tryz
namespace Go.Proofs.YthmjjpkjgjklmaaGreatDoor
open Go.RowKit
variable {P S Q:Nat->Prop}{c:Int}{et:TypeId}{ex v d a b:Value}{w5:World}{o:Option (Nat×Nat)}{t:PT}{f:PF}{fs:List PF}
def PAt (w:World) (bp:Nat) (s:BA) (i:Nat):Prop:=Blk w bp [.string s,.int .i64 (i:Int)] 139
section
variable {w w':World} {bp:Nat} {s:BA} {i:Nat}
theorem PAt.c0 (h:PAt w bp s i):w.cell? ⟨bp,0,none⟩=some (.string s):=by rw[Blk.cell h];rfl
theorem PAt.c1 (h:PAt w bp s i):w.cell? ⟨bp,1,none⟩=some (.int .i64 (i:Int)):=by rw[Blk.cell h];rfl
theorem PAt.thaw (h:PAt w bp s i) (o:Nat):w.frozen? ⟨bp,o,none⟩=false:=Blk.thaw h o
theorem PAt.still (h:PAt w bp s i) (hw:ze_ w w'):PAt w' bp s i:=by obtain⟨n,rfl⟩:=hw;exact h
theorem PAt.inc (h:PAt w bp s i):PAt (w.setCell ⟨bp,1,none⟩ (.int .i64 ((i:Int)+1))) bp s (i+1):=Blk.set h 1 _
end
theorem yl_ {w:World}{bp:Nat}{s:BA}{i:Nat}(h:PAt w bp s i) :
 Calls prog 153 #[.pointer (some ⟨bp,0,none⟩)] w λ e w'=>e=.returned (.int .i64 (i:Int))/\w'=w:=by
 have c1:=h.c1
 go_in
 go_wp2
 go_ret
 exact⟨rfl,rfl⟩
theorem zcb (c:Nat) (w:World) :
 Calls prog 151 #[.int .u8 (c:Int)] w λ e w'=>e=.returned (.bool (z0_ c))/\w'=w:=by
 have hb:z0_ c=(decide ((65:Int)<=(c:Int))&&decide ((c:Int)<=70)):=by
  unfold z0_;rw[show decide ((65:Int)<=(c:Int))=decide (65<=c) by congr 1;exact propext (by omega),show decide ((c:Int)<=70)=decide (c<=70) by congr 1;exact propext (by omega)]
 rw[hb]
 by_cases h1:(65:Int)<=(c:Int)
 ·go_in
  go_wp2
  go_ret
  exact⟨by simp[h1],rfl⟩
 ·go_in
  go_wp2
  go_ret
  exact⟨by simp;omega,rfl⟩
theorem yf_ {w:World}{bp:Nat}{s:BA}{i:Nat}(h:PAt w bp s i) (_hs:s.size<=300) (hi:i<=s.size) :
 Calls prog 152 #[.pointer (some ⟨bp,0,none⟩)] w λ e w'=>e=.returned (.int .u8 (bt s i:Int))/\ze_ w w':=by
 have c0:=h.c0;have c1:=h.c1;clear h
 by_cases hl:i<s.size
 ·have hl':(i:Int)<(s.size:Int):=by omega
  go_in
  go_wp2
  go_quiet (fail)
  go_wp2
  go_quiet (fail)
  go_wp2
  go_ret
  exact⟨by simp[zbh s i hl],(ze_.drewN _ _).trans (ze_.drewN _ _)⟩
 ·have hl':¬ (i:Int)<(s.size:Int):=by omega
  go_in
  go_wp2
  go_quiet (fail)
  go_wp2
  go_ret
  exact⟨by rw[zef (by omega)];rfl,_,rfl⟩
def z1e (w:World) (bp:Nat) (s:BA) (i d:Nat) (b:Bool) (w':World):Prop:=
 Fr w w' (· = bp)/\((bt s i=d/\b=true/\PAt w' bp s (i+1)/\i<s.size)\/(bt s i≠d/\b=false/\PAt w' bp s i))
theorem zft {w:World}{bp:Nat}{s:BA}{i:Nat}(d:Nat) (h:PAt w bp s i) (hs:s.size<=300) (hi:i<=s.size) (hd:c=(d:Int)) (hd0:0<d) :
 Calls prog 156 #[.pointer (some ⟨bp,0,none⟩),.int .u8 c] w λ e w'=>∃ b,e=.returned (.bool b)/\z1e w bp s i d b w':=by
 subst hd;obtain⟨x,hx⟩:∃ x,bt s i=x:=⟨_,rfl⟩
 by_cases hb:x=d
 ·subst hb;replace hx:=q_ hx
  go_in
  go_wp2_with (go_at_call 152;refine(yf_ h hs hi).mono ?_;rintro e w' ⟨rfl,hw⟩;rw[hx.o];have h':=h.still hw;have c1:=h'.c1;have f1:=h'.thaw 1)
  go_ret
  exact⟨true,rfl,((Fr.refl w _).still hw).setCell _ _ (λ _=>rfl),.inl ⟨hx.o,rfl,h'.inc,zl_ (by rw[hx.o];exact hd0)⟩⟩
 ·have hn:((x:Int) != (d:Int))=true:=by simp;omega
  replace hx:=q_ hx
  go_in
  go_wp2_with (go_at_call 152;refine(yf_ h hs hi).mono ?_;rintro e w' ⟨rfl,hw⟩;rw[hx.o];have h':=h.still hw)
  go_ret
  exact⟨false,rfl,(Fr.refl w _).still hw,.inr ⟨by rw[hx.o];exact hb,rfl,h'⟩⟩
theorem zcs {w:World}{bp:Nat}{s:BA}{i:Nat}(d:Nat) (h:PAt w bp s i) (hs:s.size<=300) (hi:i<=s.size) (hd:c=(d:Int)) (hd0:0<d) (hb:bt s i=d) :
 Calls prog 156 #[.pointer (some ⟨bp,0,none⟩),.int .u8 c] w λ e w'=>e=.returned (.bool true)/\Fr w w' (· = bp)/\PAt w' bp s (i+1):=by
 refine(zft d h hs hi hd hd0).mono ?_;rintro e w' ⟨b,rfl,hf,hT⟩
 rcases hT with⟨_,rfl,h1,_⟩|⟨hn,_⟩
 ·exact⟨rfl,hf,h1⟩
 ·exact absurd hb hn
theorem ze4 {w:World}{bp:Nat}{s:BA}{i:Nat}(d:Nat) (h:PAt w bp s i) (hs:s.size<=300) (hi:i<=s.size) (hd:c=(d:Int)) (hd0:0<d) (hb:bt s i≠d) :
 Calls prog 156 #[.pointer (some ⟨bp,0,none⟩),.int .u8 c] w λ e w'=>e=.returned (.bool false)/\Fr w w' (· = bp)/\PAt w' bp s i:=by
 refine(zft d h hs hi hd hd0).mono ?_;rintro e w' ⟨b,rfl,hf,hT⟩
 rcases hT with⟨hy,_⟩|⟨_,rfl,h1⟩
 ·exact absurd hy hb
 ·exact⟨rfl,hf,h1⟩
open Go.RowKit
def z9_ (w:World) (lo:Nat) (v:Value) (p:Int) (ev:Value):Prop:=
 ∃ g,lo<=g/\v=.iface 210 (.pointer (some ⟨g,0,none⟩))/\Blk w g [.int .i64 p,ev] 212
theorem x2_ {w:World}{bp:Nat}{s:BA}{i:Nat}(h:PAt w bp s i) (hg:w.cell? ⟨0,0,none⟩=some (.iface et ex)) :
 Calls prog 102 #[.pointer (some ⟨bp,0,none⟩)] w λ e w'=>∃ v,e=.returned v/\z9_ w' w.heap.size v (i:Int) (.iface et ex)/\Fr w w' (λ _=>False):=by
 obtain⟨POST,Q_⟩:∃ P,H_ (P=λ (e:Ending) (w':World)=>∃ v,e=.returned v/\z9_ w' w.heap.size v (i:Int) (.iface et ex)/\Fr w w' (λ _=>False)):=⟨_,rfl⟩;rw[<- Q_.o];have c1:=h.c1;replace h:=q_ h
 go_in
 go_wp2_with fail
 refine yp_ 8 (λ W=>W.cell? ⟨bp,1,none⟩=some (.int .i64 (i:Int))/\W.cell? ⟨0,0,none⟩=some (.iface et ex)) (by kernel_rfl) ?_;refine ta_ 0 rfl (by kernel_rfl) (λ _ _ _ h=>h) (by rintro W ⟨h1,h2⟩;go_simp<;>rfl) ?_;refine ta_ 1 rfl (by kernel_rfl) (λ _ _ _ h=>h) (by rintro W ⟨h1,h2⟩;go_simp<;>rfl) ?_;refine ta_ 2 rfl (by kernel_rfl) (λ _ _ _ h=>h) (by rintro W ⟨h1,h2⟩;go_simp<;>rfl) ?_;refine ta_ 3 rfl (by kernel_rfl) (λ _ _ _ h=>h) (by rintro W ⟨h1,h2⟩;go_simp<;>rfl) ?_;refine ta_ 4 rfl (by kernel_rfl) (λ _ _ _ h=>h) (by rintro W ⟨h1,h2⟩;go_simp<;>rfl) ?_;refine ta_ 5 rfl (by kernel_rfl) (λ _ _ _ h=>h) (by rintro W ⟨h1,h2⟩;go_simp<;>rfl) ?_;refine zg_ 6 rfl (by kernel_rfl) (λ _=>⟨c1,hg⟩) (λ K hK=>?_);go_simp;refine hK _ _ ?_;clear hK K
 have c1a:(w.drew.alloc (.cells #[.int .i64 (i:Int),.iface et ex] 212)).cell? ⟨bp,1,none⟩=some (.int .i64 (i:Int)):=by
  rw[World.cell?_alloc_past _ _ _ (World.block_lt_of_cell? w.drew ⟨bp,1,none⟩ c1)];exact c1
 have hga:(w.drew.alloc (.cells #[.int .i64 (i:Int),.iface et ex] 212)).cell? ⟨0,0,none⟩=some (.iface et ex):=by
  rw[World.cell?_alloc_past _ _ _ (World.block_lt_of_cell? w.drew ⟨0,0,none⟩ hg)];exact hg
 refine zg_ 7 rfl (by kernel_rfl) (λ _=>⟨c1a,hga⟩) (λ K hK=>?_);go_simp;refine hK _ _ ?_;clear hK K;refine zg_ 8 rfl (by kernel_rfl) (λ _=>⟨c1a,hga⟩) (λ K hK=>?_);go_simp;refine hK _ _ ?_;clear hK K;refine yc_ (by kernel_rfl) (λ hm=>absurd hm (by decide)) ?_ _
 go_wp2_with fail
 try go_ret
 rw[Q_.o];exact⟨_,rfl,⟨w.heap.size,l_,rfl,(Blk.new w _ _).drew⟩,((Fr.refl w _).alloc _).drew⟩
def Gram (w:World) (et:TypeId) (ex:Value):Prop:=w.cell? ⟨0,0,none⟩=some (.iface et ex)
theorem Gram.fr {w w':World}(h:Gram w et ex) (hf:Fr w w' S) (hS:¬ S 0):Gram w' et ex:=
 (World.cell?_of_block (a:=⟨0,0,none⟩) (hf.block _ (World.block_lt_of_cell? w ⟨0,0,none⟩ h) hS)).trans h
theorem z9_.fr {w w':World}{lo:Nat}{p:Int}{ev:Value}(h:z9_ w lo v p ev) (hf:Fr w w' S) (hS:∀ g,lo<=g->¬ S g):z9_ w' lo v p ev:=by
 obtain⟨g,h1,h2,h3⟩:=h;exact⟨g,h1,h2,hf.blk h3 (hS g h1)⟩
theorem z9_.less {w:World}{lo lo':Nat}{p:Int}{ev:Value}(h:z9_ w lo v p ev) (hl:lo'<=lo):z9_ w lo' v p ev:=by
 obtain⟨g,h1,h2⟩:=h;exact⟨g,ah_ hl h1,h2⟩
def PExp (w:World) (bp:Nat) (s:BA) (i d:Nat) (et:TypeId) (ex:Value) (v:Value) (w':World):Prop:=
 Fr w w' (· = bp)/\((bt s i=d/\v=.nilIface/\PAt w' bp s (i+1)/\i<s.size)\/(bt s i≠d/\z9_ w' w.heap.size v (i:Int) (.iface et ex)/\PAt w' bp s i))
theorem y4_ {w:World}{bp:Nat}{s:BA}{i:Nat}(d:Nat) (h:PAt w bp s i) (hG:Gram w et ex) (hne:bp≠0) (hs:s.size<=300) (hi:i<=s.size) (hd:c=(d:Int)) (hd0:0<d) :
 Calls prog 155 #[.pointer (some ⟨bp,0,none⟩),.int .u8 c] w λ e w'=>∃ v,e=.returned v/\PExp w bp s i d et ex v w':=by
 subst hd;obtain⟨POST,Q_⟩:∃ P,H_ (P=λ (e:Ending) (w':World)=>∃ v,e=.returned v/\PExp w bp s i d et ex v w'):=⟨_,rfl⟩;rw[<- Q_.o]
 by_cases hb:bt s i=d
 ·have hC:=q_ (zcs d h hs hi rfl hd0 hb);have hlt:i<s.size:=zl_ (by omega);replace hb:=q_ hb;replace h:=q_ h;replace hG:=q_ hG
  go_in
  go_wp2_with (go_at_call 156;refine hC.o.mono ?_;rintro e w1 ⟨rfl,hf,h1⟩;replace h1:=q_ h1;replace hf:=q_ hf)
  try go_ret
  rw[Q_.o];exact⟨.nilIface,rfl,hf.o,.inl ⟨hb.o,rfl,h1.o,hlt⟩⟩
 ·have hC:=q_ (ze4 d h hs hi rfl hd0 hb);replace hb:=q_ hb;replace h:=q_ h;replace hG:=q_ hG
  go_in
  go_wp2_with (first
   |(go_at_call 156;refine hC.o.mono ?_;rintro e w1 ⟨rfl,hf,h1⟩;replace h1:=q_ h1;replace hf:=q_ hf)
   |(go_at_call 102;refine(x2_ h1.o (hG.o.fr hf.o (Ne.symm hne))).mono ?_;rintro e w2 ⟨v,rfl,hF,hf2⟩;replace hF:=q_ hF;replace hf2:=q_ hf2))
  try go_ret
  rw[Q_.o];have hsz:=hf.o.size;exact⟨v,rfl,hf.o.trans hf2.o v_,.inr ⟨hb.o,hF.o.less hsz,hf2.o.blk h1.o id⟩⟩
open Go.RowKit
def j1_ (c:Nat):TypeId:=if c=110 then 244 else if c=116 then 245 else if c=105 then 247 else if c=108 then 249 else 250
def zb7 (c:Nat):TypeId:=if c=91 then 252 else 254
inductive TyV (w:World) (P:Nat->Prop):PT->Value->Prop
 | base (c p:Nat) (h:zu_ c=true):TyV w P (.leaf c p) (.iface (j1_ c) (.agg #[.int .i64 (p:Int)]))
 | name (c p:Nat) (h:z0_ c=true):TyV w P (.leaf c p) (.iface 261 (.agg #[.int .i64 (p:Int),.int .u8 (c:Int)]))
 | wrap (c p:Nat) {t:PT} {v:Value} (h:TyV w P t v):TyV w P (.wrap c p t) (.iface (zb7 c) (.agg #[.int .i64 (p:Int),v]))
 | alts (p:Nat) {l:List PT} {sv:Value} (X:Nat->Value) (ho:w.ownsRow 0 88 1 sv l.length ((List.range l.length).map X)) (hP:∀ g,sv.ownBlock=some g->P g) (h:∀ i t,l[i]?=some t->TyV w P t (X i)) :
  TyV w P (.alts p l) (.iface 258 (.agg #[.int .i64 (p:Int),sv]))
theorem TyV.mono {w:World}(h:TyV w P t v) (hQ:∀ g,g<w.heap.size->P g->Q g):TyV w Q t v:=by
 induction h with
 | base c p h=>exact .base c p h
 | name c p h=>exact .name c p h
 | wrap c p h ih=>exact .wrap c p ih
 | alts p X ho hP h ih=>exact .alts p X ho (λ g e=>hQ g (ho.lt g e).2 (hP g e)) ih
theorem TyV.fr {w w':World}(h:TyV w P t v) (hf:Fr w w' S) (hS:∀ g,P g->¬ S g):TyV w' P t v:=by
 induction h with
 | base c p h=>exact .base c p h
 | name c p h=>exact .name c p h
 | wrap c p h ih=>exact .wrap c p ih
 | alts p X ho hP h ih=>exact .alts p X (zb_ ho hf (λ g e=>hS g (hP g e))) hP ih
def IfV (v:Value):Prop:=v=.nilIface\/∃ T x,v=.iface T x
def vp_ (w:World) (bp:Nat) (s:BA) (i:Nat) (et:TypeId) (ex:Value) (e:Ending) (w':World):Prop:=
 ∃ v ev,IfV v/\e=.returned (.tuple #[v,ev])/\Fr w w' (· = bp)/\
 match pT s i with
 | .ok (t,j)=>ev=.nilIface/\PAt w' bp s j/\TyV w' (λ g=>w.heap.size<=g) t v
 | .error k=>z9_ w' w.heap.size ev (k:Int) (.iface et ex)/\∃ j,j<=s.size/\PAt w' bp s j
def jc_ (s:BA) (i:Nat):Prop:=∀ (w:World) (bp:Nat) (et:TypeId) (ex:Value),PAt w bp s i->Gram w et ex->bp≠0->
 Calls prog 101 #[.pointer (some ⟨bp,0,none⟩)] w (vp_ w bp s i et ex)
theorem yt_ {w:World}{bp:Nat}{s:BA}{i x:Nat}(h:PAt w bp s i) (hs:s.size<=300) (hi:i<=s.size) (hx:bt s i=x) (hc:(x:Int)=c) (h0:0<c) :
 Calls prog 156 #[.pointer (some ⟨bp,0,none⟩),.int .u8 c] w λ e w'=>e=.returned (.bool true)/\Fr w w' (· = bp)/\PAt w' bp s (i+1):=
 zcs x h hs hi hc.symm (by omega) hx
theorem yy_ {w:World}{bp:Nat}{s:BA}{i x:Nat}(h:PAt w bp s i) (hs:s.size<=300) (hi:i<=s.size) (hx:bt s i=x) (hc:(x:Int)≠c) (h0:0<c) :
 Calls prog 156 #[.pointer (some ⟨bp,0,none⟩),.int .u8 c] w λ e w'=>e=.returned (.bool false)/\Fr w w' (· = bp)/\PAt w' bp s i:=
 ze4 c.toNat h hs hi (by omega) (by omega) (by rw[hx];omega)
theorem zcu {s:BA}{i c:Nat}(h:bt s i=c) (hb:zu_ c=true):pT s i=.ok (.leaf c i,i+1):=by
 rw[zsa];unfold zdk;rw[h,if_pos hb]
theorem zvr {s:BA}{i:Nat}(hs:s.size<=300) (hi:i<=s.size) (hx:bt s i=110):jc_ s i:=by
 intro w bp et ex h hG hne;obtain⟨POST,Q_⟩:∃ P,H_ (P=vp_ w bp s i et ex):=⟨_,rfl⟩;rw[<- Q_.o];have H:=q_ (And.intro h (Fr.refl w (λ x=>x=bp)));replace hx:=q_ hx;replace hG:=q_ hG;replace h:=q_ h
 go_in
 go_wp2_with (first
  |(go_at_call 153;refine(yl_ H.o.1).mono ?_;rintro e w' ⟨rfl,hw'⟩;rw[hw'])
  |(go_at_call 152;refine(yf_ H.o.1 hs hi).mono ?_;rintro e w' ⟨rfl,hw'⟩;rw[hx.o];replace H:=q_ (And.intro (H.o.1.still hw') (H.o.2.still hw'));clear hw')
  |(go_at_call 156;refine(yt_ H.o.1 hs hi hx.o (by decide) (by decide)).mono ?_;rintro e w' ⟨rfl,hf',h'⟩;have H1:=q_ (And.intro h' (H.o.2.trans hf' u_));clear hf' h')
  |(go_at_call 156;refine(yy_ H.o.1 hs hi hx.o (by decide) (by decide)).mono ?_;rintro e w' ⟨rfl,hf',h'⟩;replace H:=q_ (And.intro h' (H.o.2.trans hf' u_));clear hf' h'))
 try go_ret
 rw[Q_.o];refine⟨.iface (j1_ 110) (.agg #[.int .i64 (i:Int)]),.nilIface,.inr ⟨_,_,rfl⟩,rfl,H1.o.2,?_⟩;rw[zcu hx.o rfl];exact⟨rfl,H1.o.1,.base 110 i rfl⟩
theorem zvp {s:BA}{i:Nat}(hs:s.size<=300) (hi:i<=s.size) (hx:bt s i=116):jc_ s i:=by
 intro w bp et ex h hG hne;obtain⟨POST,Q_⟩:∃ P,H_ (P=vp_ w bp s i et ex):=⟨_,rfl⟩;rw[<- Q_.o];have H:=q_ (And.intro h (Fr.refl w (λ x=>x=bp)));replace hx:=q_ hx;replace hG:=q_ hG;replace h:=q_ h
 go_in
 go_wp2_with (first
  |(go_at_call 153;refine(yl_ H.o.1).mono ?_;rintro e w' ⟨rfl,hw'⟩;rw[hw'])
  |(go_at_call 152;refine(yf_ H.o.1 hs hi).mono ?_;rintro e w' ⟨rfl,hw'⟩;rw[hx.o];replace H:=q_ (And.intro (H.o.1.still hw') (H.o.2.still hw'));clear hw')
  |(go_at_call 156;refine(yt_ H.o.1 hs hi hx.o (by decide) (by decide)).mono ?_;rintro e w' ⟨rfl,hf',h'⟩;have H1:=q_ (And.intro h' (H.o.2.trans hf' u_));clear hf' h')
  |(go_at_call 156;refine(yy_ H.o.1 hs hi hx.o (by decide) (by decide)).mono ?_;rintro e w' ⟨rfl,hf',h'⟩;replace H:=q_ (And.intro h' (H.o.2.trans hf' u_));clear hf' h'))
 try go_ret
 rw[Q_.o];refine⟨.iface (j1_ 116) (.agg #[.int .i64 (i:Int)]),.nilIface,.inr ⟨_,_,rfl⟩,rfl,H1.o.2,?_⟩;rw[zcu hx.o rfl];exact⟨rfl,H1.o.1,.base 116 i rfl⟩
theorem zvt {s:BA}{i:Nat}(hs:s.size<=300) (hi:i<=s.size) (hx:bt s i=105):jc_ s i:=by
 intro w bp et ex h hG hne;obtain⟨POST,Q_⟩:∃ P,H_ (P=vp_ w bp s i et ex):=⟨_,rfl⟩;rw[<- Q_.o];have H:=q_ (And.intro h (Fr.refl w (λ x=>x=bp)));replace hx:=q_ hx;replace hG:=q_ hG;replace h:=q_ h
 go_in
 go_wp2_with (first
  |(go_at_call 153;refine(yl_ H.o.1).mono ?_;rintro e w' ⟨rfl,hw'⟩;rw[hw'])
  |(go_at_call 152;refine(yf_ H.o.1 hs hi).mono ?_;rintro e w' ⟨rfl,hw'⟩;rw[hx.o];replace H:=q_ (And.intro (H.o.1.still hw') (H.o.2.still hw'));clear hw')
  |(go_at_call 156;refine(yt_ H.o.1 hs hi hx.o (by decide) (by decide)).mono ?_;rintro e w' ⟨rfl,hf',h'⟩;have H1:=q_ (And.intro h' (H.o.2.trans hf' u_));clear hf' h')
  |(go_at_call 156;refine(yy_ H.o.1 hs hi hx.o (by decide) (by decide)).mono ?_;rintro e w' ⟨rfl,hf',h'⟩;replace H:=q_ (And.intro h' (H.o.2.trans hf' u_));clear hf' h'))
 try go_ret
 rw[Q_.o];refine⟨.iface (j1_ 105) (.agg #[.int .i64 (i:Int)]),.nilIface,.inr ⟨_,_,rfl⟩,rfl,H1.o.2,?_⟩;rw[zcu hx.o rfl];exact⟨rfl,H1.o.1,.base 105 i rfl⟩
theorem zvs {s:BA}{i:Nat}(hs:s.size<=300) (hi:i<=s.size) (hx:bt s i=108):jc_ s i:=by
 intro w bp et ex h hG hne;obtain⟨POST,Q_⟩:∃ P,H_ (P=vp_ w bp s i et ex):=⟨_,rfl⟩;rw[<- Q_.o];have H:=q_ (And.intro h (Fr.refl w (λ x=>x=bp)));replace hx:=q_ hx;replace hG:=q_ hG;replace h:=q_ h
 go_in
 go_wp2_with (first
  |(go_at_call 153;refine(yl_ H.o.1).mono ?_;rintro e w' ⟨rfl,hw'⟩;rw[hw'])
  |(go_at_call 152;refine(yf_ H.o.1 hs hi).mono ?_;rintro e w' ⟨rfl,hw'⟩;rw[hx.o];replace H:=q_ (And.intro (H.o.1.still hw') (H.o.2.still hw'));clear hw')
  |(go_at_call 156;refine(yt_ H.o.1 hs hi hx.o (by decide) (by decide)).mono ?_;rintro e w' ⟨rfl,hf',h'⟩;have H1:=q_ (And.intro h' (H.o.2.trans hf' u_));clear hf' h')
  |(go_at_call 156;refine(yy_ H.o.1 hs hi hx.o (by decide) (by decide)).mono ?_;rintro e w' ⟨rfl,hf',h'⟩;replace H:=q_ (And.intro h' (H.o.2.trans hf' u_));clear hf' h'))
 try go_ret
 rw[Q_.o];refine⟨.iface (j1_ 108) (.agg #[.int .i64 (i:Int)]),.nilIface,.inr ⟨_,_,rfl⟩,rfl,H1.o.2,?_⟩;rw[zcu hx.o rfl];exact⟨rfl,H1.o.1,.base 108 i rfl⟩
theorem zvq {s:BA}{i:Nat}(hs:s.size<=300) (hi:i<=s.size) (hx:bt s i=115):jc_ s i:=by
 intro w bp et ex h hG hne;obtain⟨POST,Q_⟩:∃ P,H_ (P=vp_ w bp s i et ex):=⟨_,rfl⟩;rw[<- Q_.o];have H:=q_ (And.intro h (Fr.refl w (λ x=>x=bp)));replace hx:=q_ hx;replace hG:=q_ hG;replace h:=q_ h
 go_in
 go_wp2_with (first
  |(go_at_call 153;refine(yl_ H.o.1).mono ?_;rintro e w' ⟨rfl,hw'⟩;rw[hw'])
  |(go_at_call 152;refine(yf_ H.o.1 hs hi).mono ?_;rintro e w' ⟨rfl,hw'⟩;rw[hx.o];replace H:=q_ (And.intro (H.o.1.still hw') (H.o.2.still hw'));clear hw')
  |(go_at_call 156;refine(yt_ H.o.1 hs hi hx.o (by decide) (by decide)).mono ?_;rintro e w' ⟨rfl,hf',h'⟩;have H1:=q_ (And.intro h' (H.o.2.trans hf' u_));clear hf' h')
  |(go_at_call 156;refine(yy_ H.o.1 hs hi hx.o (by decide) (by decide)).mono ?_;rintro e w' ⟨rfl,hf',h'⟩;replace H:=q_ (And.intro h' (H.o.2.trans hf' u_));clear hf' h'))
 try go_ret
 rw[Q_.o];refine⟨.iface (j1_ 115) (.agg #[.int .i64 (i:Int)]),.nilIface,.inr ⟨_,_,rfl⟩,rfl,H1.o.2,?_⟩;rw[zcu hx.o rfl];exact⟨rfl,H1.o.1,.base 115 i rfl⟩
open Go.RowKit
theorem zr5 {s:BA}{i:Nat}(hs:s.size<=300) (hi:i<=s.size) (hn:z0_ (bt s i)=true):jc_ s i:=by
 intro w bp et ex h hG hne;obtain⟨POST,Q_⟩:∃ P,H_ (P=vp_ w bp s i et ex):=⟨_,rfl⟩;rw[<- Q_.o];have H:=q_ (And.intro h (Fr.refl w (λ x=>x=bp)));have hpT:=q_ (show pT s i=.ok (.leaf (bt s i) i,i+1) from zr9 (by simpa[z0_] using hn));obtain⟨x,hx⟩:∃ x,bt s i=x:=⟨_,rfl⟩;rw[hx] at hn hpT
 have hxr:65<=x/\x<=70:=by simpa[z0_] using hn
 have hlt:i<s.size:=zl_ (by omega);replace hx:=q_ hx;replace hG:=q_ hG;replace h:=q_ h;replace hn:=q_ hn
 go_in
 go_wp2_with (first
  |(go_at_call 153;refine(yl_ H.o.1).mono ?_;rintro e w' ⟨rfl,hw'⟩;rw[hw'])
  |(go_at_call 152;refine(yf_ H.o.1 hs hi).mono ?_;rintro e w' ⟨rfl,hw'⟩;rw[hx.o];replace H:=q_ (And.intro (H.o.1.still hw') (H.o.2.still hw'));clear hw')
  |(go_at_call 156;refine(yy_ H.o.1 hs hi hx.o (by omega) (by decide)).mono ?_;rintro e w' ⟨rfl,hf',h'⟩;replace H:=q_ (And.intro h' (H.o.2.trans hf' u_));clear hf' h')
  |(go_at_call 151;refine(zcb x _).mono ?_;rintro e w' ⟨rfl,hw'⟩;rw[hw',hn.o];clear hw';have c1:=H.o.1.c1;have f1:=H.o.1.thaw 1))
 try go_ret
 rw[Q_.o];refine⟨.iface 261 (.agg #[.int .i64 (i:Int),.int .u8 (x:Int)]),.nilIface,.inr ⟨_,_,rfl⟩,rfl,H.o.2.setCell _ _ (λ _=>rfl),?_⟩;rw[hpT.o];exact⟨rfl,H.o.1.inc,.name x i hn.o⟩
open Go.RowKit
theorem zoi {s:BA}{i:Nat}(hs:s.size<=300) (hi:i<=s.size) (h1:¬ zu_ (bt s i)=true) (h2:¬ (bt s i=91\/bt s i=123)) (h3:¬ bt s i=40) (h4:¬ (65<=bt s i/\bt s i<=70)):jc_ s i:=by
 intro w bp et ex h hG hne;obtain⟨POST,Q_⟩:∃ P,H_ (P=vp_ w bp s i et ex):=⟨_,rfl⟩;rw[<- Q_.o];have H:=q_ (And.intro h (Fr.refl w (λ x=>x=bp)));have hpT:=q_ (zzq h1 h2 h3 h4);obtain⟨x,hx⟩:∃ x,bt s i=x:=⟨_,rfl⟩;rw[hx] at h1 h2 h3 h4
 have hn:H_ (z0_ x=false):=q_ (by
  cases hc:z0_ x with
  | false=>rfl
  | true=>exact absurd (by simpa[z0_] using hc) h4)
 simp only[zu_,au_,beq_iff_eq,not_or] at h1
 have hall:x≠110/\x≠116/\x≠105/\x≠108/\x≠115/\x≠91/\x≠123/\x≠40:=by omega
 clear h1 h2 h3 h4;replace hx:=q_ hx;replace hG:=q_ hG;replace h:=q_ h
 go_in
 go_wp2_with (first
  |(go_at_call 153;refine(yl_ H.o.1).mono ?_;rintro e w' ⟨rfl,hw'⟩;rw[hw'])
  |(go_at_call 152;refine(yf_ H.o.1 hs hi).mono ?_;rintro e w' ⟨rfl,hw'⟩;rw[hx.o];replace H:=q_ (And.intro (H.o.1.still hw') (H.o.2.still hw'));clear hw')
  |(go_at_call 156;refine(yy_ H.o.1 hs hi hx.o (by omega) (by decide)).mono ?_;rintro e w' ⟨rfl,hf',h'⟩;replace H:=q_ (And.intro h' (H.o.2.trans hf' u_));clear hf' h')
  |(go_at_call 151;refine(zcb x _).mono ?_;rintro e w' ⟨rfl,hw'⟩;rw[hw',hn.o];clear hw')
  |(go_at_call 102;refine(x2_ H.o.1 (hG.o.fr H.o.2 (Ne.symm hne))).mono ?_;rintro e w2 ⟨v,rfl,hF,hf2⟩;replace hF:=q_ hF;replace hf2:=q_ hf2))
 try go_ret
 rw[Q_.o];have hsz:=H.o.2.size;refine⟨.nilIface,v,.inl rfl,rfl,H.o.2.trans hf2.o v_,?_⟩;rw[hpT.o];exact⟨hF.o.less hsz,i,hi,hf2.o.blk H.o.1 id⟩
def zl4 (w:World) (bp:Nat) (s:BA) (i d:Nat) (et:TypeId) (ex:Value) (e:Ending) (w':World):Prop:=
 ∃ v ev,IfV v/\e=.returned (.tuple #[v,ev])/\Fr w w' (· = bp)/\
 match pT s i with
 | .ok (t,j)=>if bt s j=d then ev=.nilIface/\PAt w' bp s (j+1)/\TyV w' (λ g=>w.heap.size<=g) t v else z9_ w' w.heap.size ev (j:Int) (.iface et ex)/\∃ j,j<=s.size/\PAt w' bp s j
 | .error k=>z9_ w' w.heap.size ev (k:Int) (.iface et ex)/\∃ j,j<=s.size/\PAt w' bp s j
theorem zj2 {w:World}{bp:Nat}{s:BA}{i:Nat}(d:Nat) (hT:jc_ s i) (h:PAt w bp s i) (hG:Gram w et ex) (hne:bp≠0) (hs:s.size<=300) (hi:i<=s.size) (hd:c=(d:Int)) (hd0:0<d) :
 Calls prog 157 #[.pointer (some ⟨bp,0,none⟩),.int .u8 c] w (zl4 w bp s i d et ex):=by
 subst hd;obtain⟨POST,Q_⟩:∃ P,H_ (P=zl4 w bp s i d et ex):=⟨_,rfl⟩;rw[<- Q_.o];have hC:=q_ (hT w bp et ex h hG hne);have hbd:=v7_ (s:=s) hi
 cases hp:pT s i with
 | error k=>
  replace hp:=q_ hp;replace hG:=q_ hG;clear hbd h
  go_in
  go_wp2_with (go_at_call 101;refine hC.o.mono ?_;rintro e w1 ⟨v,ev,_,rfl,hf,hm⟩;rw[hp.o] at hm;obtain⟨⟨g,hg1,rfl,hg2⟩,j1,hj1,h1⟩:=hm;replace hf:=q_ hf;replace h1:=q_ h1;replace hg2:=q_ hg2)
  try go_ret
  rw[Q_.o];refine⟨.nilIface,_,.inl rfl,rfl,hf.o,?_⟩;rw[hp.o];exact⟨⟨g,hg1,rfl,hg2.o⟩,j1,hj1,h1.o⟩
 | ok r=>
  obtain⟨t,j⟩:=r;have hj:=hbd.1 t j hp;have hbp:=h.lt;replace hp:=q_ hp;replace hG:=q_ hG;clear hbd h
  go_in
  go_wp2_with (first
   |(go_at_call 101;refine hC.o.mono ?_;rintro e w1 ⟨v,ev,hI,rfl,hf,hm⟩;rw[hp.o] at hm;obtain⟨rfl,h1,hv⟩:=hm;replace hI:=q_ hI;replace hf:=q_ hf;replace h1:=q_ h1;replace hv:=q_ hv)
   |(go_at_call 155;refine(y4_ d h1.o (hG.o.fr hf.o (Ne.symm hne)) hne hs hj.2 rfl hd0).mono ?_;rintro e w2 ⟨v2,rfl,hf2,hE⟩;replace hf2:=q_ hf2;replace hE:=q_ hE))
  try go_ret
  rw[Q_.o];have hsz:=hf.o.size;refine⟨v,v2,hI.o,rfl,hf.o.trans hf2.o u_,?_⟩;rw[hp.o]
  rcases hE.o with⟨hb,rfl,h2,_⟩|⟨hb,hF,h2⟩
  ·show(if bt s j=d then _ else _);rw[if_pos hb];exact⟨rfl,h2,hv.o.fr hf2.o (λ g hg e=>by omega)⟩
  ·show(if bt s j=d then _ else _);rw[if_neg hb];exact⟨hF.less hsz,j,hj.2,h2⟩
theorem zxv {s:BA}{i:Nat}(hs:s.size<=300) (hi:i<=s.size) (hx:bt s i=91) (hT:jc_ s (i+1)):jc_ s i:=by
 intro w bp et ex h hG hne;obtain⟨POST,Q_⟩:∃ P,H_ (P=vp_ w bp s i et ex):=⟨_,rfl⟩;rw[<- Q_.o];have H:=q_ (And.intro h (Fr.refl w (λ x=>x=bp)));have hlt:i<s.size:=zl_ (by omega);have hpT:=q_ (zr8 (s:=s) (i:=i) (by omega));have hbp:=h.lt;replace hx:=q_ hx;replace hG:=q_ hG;replace h:=q_ h;replace hT:=q_ hT
 go_in
 go_wp2_with (first
  |(go_at_call 153;refine(yl_ H.o.1).mono ?_;rintro e w' ⟨rfl,hw'⟩;rw[hw'])
  |(go_at_call 152;refine(yf_ H.o.1 hs hi).mono ?_;rintro e w' ⟨rfl,hw'⟩;rw[hx.o];replace H:=q_ (And.intro (H.o.1.still hw') (H.o.2.still hw'));clear hw')
  |(go_at_call 156;refine(yt_ H.o.1 hs hi hx.o (by decide) (by decide)).mono ?_;rintro e w' ⟨rfl,hf',h'⟩;have H1:=q_ (And.intro h' (H.o.2.trans hf' u_));clear hf' h')
  |(go_at_call 156;refine(yy_ H.o.1 hs hi hx.o (by decide) (by decide)).mono ?_;rintro e w' ⟨rfl,hf',h'⟩;replace H:=q_ (And.intro h' (H.o.2.trans hf' u_));clear hf' h')
  |(go_at_call 157;refine(zj2 93 hT.o H1.o.1 (hG.o.fr H1.o.2 (Ne.symm hne)) hne hs hlt rfl (by decide)).mono ?_;rintro e w3 ⟨v,ev,hI,rfl,hf3,hm⟩;replace hf3:=q_ hf3;replace hm:=q_ hm;rcases hI with rfl|⟨vT,vx,rfl⟩))
 all_goals
  try go_ret
  rw[Q_.o];have hsz:=H1.o.2.size;refine⟨.iface (zb7 91) (.agg #[.int .i64 (i:Int),_]),ev,.inr ⟨_,_,rfl⟩,rfl,H1.o.2.trans hf3.o u_,?_⟩;rw[hpT.o];have hm':=hm.o
  cases hp:pT s (i+1) with
  | error k=>
   rw[hp] at hm';exact⟨hm'.1.less hsz,hm'.2⟩
  | ok r=>
   obtain⟨t,j⟩:=r;rw[hp] at hm';simp only at hm'⊢;rw[hx.o]
   by_cases hb:bt s j=93
   ·rw[if_pos hb] at hm';rw[show x7_ 91=93 from rfl,if_pos hb];obtain⟨rfl,h2,hv⟩:=hm';exact⟨rfl,h2,.wrap 91 i (hv.mono (λ g _ hg=>ah_ hsz hg))⟩
   ·rw[if_neg hb] at hm';rw[show x7_ 91=93 from rfl,if_neg hb];exact⟨hm'.1.less hsz,hm'.2⟩
theorem zvo {s:BA}{i:Nat}(hs:s.size<=300) (hi:i<=s.size) (hx:bt s i=123) (hT:jc_ s (i+1)):jc_ s i:=by
 intro w bp et ex h hG hne;obtain⟨POST,Q_⟩:∃ P,H_ (P=vp_ w bp s i et ex):=⟨_,rfl⟩;rw[<- Q_.o];have H:=q_ (And.intro h (Fr.refl w (λ x=>x=bp)));have hlt:i<s.size:=zl_ (by omega);have hpT:=q_ (zr8 (s:=s) (i:=i) (by omega));have hbp:=h.lt;replace hx:=q_ hx;replace hG:=q_ hG;replace h:=q_ h;replace hT:=q_ hT
 go_in
 go_wp2_with (first
  |(go_at_call 153;refine(yl_ H.o.1).mono ?_;rintro e w' ⟨rfl,hw'⟩;rw[hw'])
  |(go_at_call 152;refine(yf_ H.o.1 hs hi).mono ?_;rintro e w' ⟨rfl,hw'⟩;rw[hx.o];replace H:=q_ (And.intro (H.o.1.still hw') (H.o.2.still hw'));clear hw')
  |(go_at_call 156;refine(yt_ H.o.1 hs hi hx.o (by decide) (by decide)).mono ?_;rintro e w' ⟨rfl,hf',h'⟩;have H1:=q_ (And.intro h' (H.o.2.trans hf' u_));clear hf' h')
  |(go_at_call 156;refine(yy_ H.o.1 hs hi hx.o (by decide) (by decide)).mono ?_;rintro e w' ⟨rfl,hf',h'⟩;replace H:=q_ (And.intro h' (H.o.2.trans hf' u_));clear hf' h')
  |(go_at_call 157;refine(zj2 125 hT.o H1.o.1 (hG.o.fr H1.o.2 (Ne.symm hne)) hne hs hlt rfl (by decide)).mono ?_;rintro e w3 ⟨v,ev,hI,rfl,hf3,hm⟩;replace hf3:=q_ hf3;replace hm:=q_ hm;rcases hI with rfl|⟨vT,vx,rfl⟩))
 all_goals
  try go_ret
  rw[Q_.o];have hsz:=H1.o.2.size;refine⟨.iface (zb7 123) (.agg #[.int .i64 (i:Int),_]),ev,.inr ⟨_,_,rfl⟩,rfl,H1.o.2.trans hf3.o u_,?_⟩;rw[hpT.o];have hm':=hm.o
  cases hp:pT s (i+1) with
  | error k=>
   rw[hp] at hm';exact⟨hm'.1.less hsz,hm'.2⟩
  | ok r=>
   obtain⟨t,j⟩:=r;rw[hp] at hm';simp only at hm'⊢;rw[hx.o]
   by_cases hb:bt s j=125
   ·rw[if_pos hb] at hm';rw[show x7_ 123=125 from rfl,if_pos hb];obtain⟨rfl,h2,hv⟩:=hm';exact⟨rfl,h2,.wrap 123 i (hv.mono (λ g _ hg=>ah_ hsz hg))⟩
   ·rw[if_neg hb] at hm';rw[show x7_ 123=125 from rfl,if_neg hb];exact⟨hm'.1.less hsz,hm'.2⟩
open Go.RowKit
structure UM (w:World) (bp:Nat) (s:BA) (j:Nat) (p:Int) (sv:Value) (ds:List PT) (X:Nat->Value) (W:World):Prop where
 here:PAt W bp s j
 fr:Fr w W (· = bp)
 lt:bp<w.heap.size
 hB:w.heap.size+1<=W.heap.size
 b:Blk W w.heap.size [.int .i64 p,sv] 258
 row:W.ownsRow (w.heap.size+1) 88 1 sv ds.length ((List.range ds.length).map X)
 ty:∀ i t,ds[i]?=some t->TyV W (λ g=>w.heap.size+1<=g/\sv.ownBlock≠some g) t (X i)
section
variable {w W W':World} {bp:Nat} {s:BA} {j j':Nat} {p:Int} {sv:Value} {ds:List PT} {X:Nat->Value}
theorem UM.call (M:UM w bp s j p sv ds X W) (h:PAt W' bp s j') (hf:Fr W W' (· = bp)):UM w bp s j' p sv ds X W':=by
 have:=M.lt;exact⟨h,M.fr.trans hf u_,M.lt,ah_ M.hB hf.size,hf.blk M.b (by omega),zb_ M.row hf (λ g hg e=>by have:=M.row.lt g hg;omega),λ i t e=>(M.ty i t e).fr hf (λ g hg e=>by omega)⟩
theorem UM.item (M:UM w bp s j p sv ds X W){o:Obj}{v5:Value}(hg:(W.alloc o).grownBy w5 sv.ownBlock) (ho:w5.ownsRow (w.heap.size+1) 88 1 v5 (ds.length+1) ((List.range ds.length).map X++[v]))
 (hl:v5.ownBlock=sv.ownBlock\/v5.ownBlock=some (W.alloc o).heap.size) (hv:TyV W (λ g=>w.heap.size+1<=g/\sv.ownBlock≠some g) t v) :
 UM w bp s j p v5 (ds++[t]) (λ i=>if i<ds.length then X i else v) (w5.setCell ⟨w.heap.size,1,none⟩ v5):=by
 have hlt:=M.lt;have hbB:=M.hB;have hF:Fr W w5 (λ g=>sv.ownBlock=some g):=Fr.grown ((Fr.refl W _).alloc o) hg (λ k e _=>e)
 have hn:∀ g,v5.ownBlock=some g->w.heap.size+1<=g/\(sv.ownBlock=some g\/W.heap.size<=g):=λ g hg'=>by
  rcases hl with e|e
  ·exact⟨(M.row.lt g (e▸hg')).1,.inl (e▸hg')⟩
  ·rw[e] at hg';simp only[ad_] at hg'
   have:(W.alloc o).heap.size=W.heap.size+1:=by simp
   exact⟨by omega,.inr (by omega)⟩
 have hG:Fr w5 (w5.setCell ⟨w.heap.size,1,none⟩ v5) (λ g=>g=w.heap.size):=(Fr.refl w5 (λ g=>g=w.heap.size)).setCell ⟨w.heap.size,1,none⟩ v5 (λ _=>rfl);have hH:Fr W (w5.setCell ⟨w.heap.size,1,none⟩ v5) (λ g=>sv.ownBlock=some g\/g=w.heap.size):=(hF.mono (λ _ _ e=>.inl e)).trans hG (λ _ _ e=>.inr e);have B1:=hF.blk M.b (λ e=>by have:=M.row.lt _ e;omega)
 have keep:∀ {u x},TyV W (λ g=>w.heap.size+1<=g/\sv.ownBlock≠some g) u x->TyV (w5.setCell ⟨w.heap.size,1,none⟩ v5) (λ g=>w.heap.size+1<=g/\v5.ownBlock≠some g) u x:=λ hx=>
  ((hx.mono (Q:=λ g=>(w.heap.size+1<=g/\sv.ownBlock≠some g)/\g<W.heap.size) (λ _ h1 h2=>⟨h2,h1⟩)).fr hH (λ g hg' e=>by
    rcases e with e|e
    ·exact hg'.1.2 e
    ·have:=hg'.1.1;omega)).mono (λ g _ hg'=>⟨hg'.1.1,λ e=>by
    rcases(hn g e).2 with q|q
    ·exact hg'.1.2 q
    ·have:=hg'.2;omega⟩)
 refine⟨hH.blk M.here (λ e=>?_),M.fr.trans hH (λ x hx e=>?_),M.lt,ah_ hbB hH.size,B1.set 1 v5,?_,λ i u hu=>?_⟩
 ·rcases e with e|e
  ·have:=M.row.lt _ e;omega
  ·omega
 ·rcases e with e|e
  ·have:=M.row.lt _ e;omega
  ·omega
 ·rw[al_,ai_,bi_,bq_,ap_,a1_,if_neg (by_ _)];have e:(List.range ds.length).map (λ i=>if i<ds.length then X i else v)=(List.range ds.length).map X:=List.map_congr_left (λ i hi=>by rw[if_pos (List.mem_range.1 hi)]);rw[e];exact zb_ ho hG (λ g hg' e=>by have:=hn g hg';omega)
 ·by_cases hi:i<ds.length
  ·rw[av_ hi] at hu;simp only[hi,if_true];exact keep (M.ty i u hu)
  ·rw[aw_ (by omega)] at hu
   have h0:i-ds.length=0:=by
    rcases bw_ (i-ds.length) with h|h
    ·exact h
    ·rw[bm_ (by simp;omega)] at hu;cases hu
   rw[h0] at hu;simp only[aa_,ad_] at hu;subst hu;simp only[hi,if_false];exact keep hv
theorem UM.itemCell (M:UM w bp s j p sv ds X W){o:Obj}(hg:(W.alloc o).grownBy w5 sv.ownBlock):w5.cell? ⟨w.heap.size,1,none⟩=some sv/\w5.frozen? ⟨w.heap.size,1,none⟩=false:=by
 have hF:Fr W w5 (λ g=>sv.ownBlock=some g):=Fr.grown ((Fr.refl W _).alloc o) hg (λ k e _=>e);have B1:=hF.blk M.b (λ e=>by have:=M.row.lt _ e;omega);exact⟨B1.cell 1,B1.thaw 1⟩
theorem UM.alts (M:UM w bp s j p sv ds X W) (i:Nat) (hp:p=(i:Int)):TyV W (λ g=>w.heap.size<=g) (.alts i ds) (.iface 258 (.agg #[.int .i64 p,sv])):=by
 subst hp;exact .alts i X (vm_ M.row) (λ g e=>by have:=M.row.lt g e;omega) (λ k t e=>(M.ty k t e).mono (λ g _ hg=>by have:=hg.1;omega))
end
theorem zzg:Tryz.prog.underlying 256=some (.slice 88):=by kernel_rfl
theorem z08:(Tryz.prog.info? 88).map (λ i=>(i.zero,i.size,i.bytes))=some (some .nilIface,1,16):=by kernel_rfl
open Go.RowKit
def zxg (w:World) (bp:Nat) (s:BA) (i p:Nat) (et:TypeId) (ex:Value) (e:Ending) (w':World):Prop:=
 ∃ v ev,IfV v/\e=.returned (.tuple #[v,ev])/\Fr w w' (· = bp)/\
 match pA s i with
 | .ok (ts,j)=>if bt s j=41 then ev=.nilIface/\PAt w' bp s (j+1)/\TyV w' (λ g=>w.heap.size<=g) (.alts p ts) v else z9_ w' w.heap.size ev (j:Int) (.iface et ex)/\∃ j,j<=s.size/\PAt w' bp s j
 | .error k=>z9_ w' w.heap.size ev (k:Int) (.iface et ex)/\∃ j,j<=s.size/\PAt w' bp s j
def UInv (w:World) (bp:Nat) (s:BA) (i:Nat) (p:Int) (m:Nat) (W:World):Prop:=
 ∃ j sv ds X,UM w bp s j p sv ds X W/\j<=s.size/\i+ds.length<=j/\s.size+1-j<=m/\pA s i=zn0 ds (pA s j)
theorem zva {w:World}{bp:Nat}{s:BA}{i:Nat}{p:Int}(h:PAt w bp s i):UM w bp s i p (.slice none 0 0) [] (λ _=>.nilIface) (w.alloc (.cells #[.int .i64 p,.slice none 0 0] 258)):=
 ⟨h.alloc _,(Fr.refl w _).alloc _,h.lt,by simp,Blk.new w _ _,World.ownsRow_nil _ _ _ _,λ i t h=>by simp at h⟩
theorem zpl {w:World}{bp:Nat}{s:BA}{i p:Nat}(hT:∀ j,i<=j->j<=s.size->jc_ s j) (h:PAt w bp s i) (hG:Gram w et ex) (hne:bp≠0) (hs:s.size<=300) (hi:i<=s.size) :
 Calls prog 158 #[.pointer (some ⟨bp,0,none⟩),.int .i64 (p:Int)] w (zxg w bp s i p et ex):=by
 obtain⟨POST,Q_⟩:∃ P,H_ (P=zxg w bp s i p et ex):=⟨_,rfl⟩;rw[<- Q_.o];have hbp:=h.lt;have start:=q_ (show UInv w bp s i (p:Int) (s.size+1) (w.alloc (.cells #[.int .i64 (p:Int),.slice none 0 0] 258)) from⟨i,_,[],_,zva h,hi,by simp,by omega,(zuo _).symm⟩);have hgl:=World.block_lt_of_cell? w ⟨0,0,none⟩ hG;replace hG:=q_ hG;replace hT:=q_ hT;clear h
 go_in
 go_wp2_with fail
 go_loopg [] (s.size+1) (λ m W=>UInv w bp s i (p:Int) m W)
 case atStart=>exact start.o
 case round=>
  clear start;obtain⟨j,sv,ds,X,M,hj,hij,hm,hres⟩:=hrel;obtain⟨sa,sc,rfl⟩:=zf_ M.row
  have hds:ds.length<=300:=by omega
  have hC:=q_ (hT.o j (by omega) hj wr bp et ex M.here (hG.o.fr M.fr (Ne.symm hne)) hne);have hsz:=M.fr.size;have hbB:=M.hB;have hbd:=v7_ (s:=s) hj;rw[zx0 s j hj] at hres
  cases hp:pT s j with
  | error k=>
   rw[hp] at hres;replace hres:=q_ hres;replace hp:=q_ hp;replace M:=q_ M;clear hbd
   go_wp2_with (go_at_call 101;refine hC.o.mono ?_;rintro e w1 ⟨v,ev,_,rfl,hf,hm⟩;rw[hp.o] at hm;obtain⟨⟨g,hg1,rfl,hg2⟩,j1,hj1,h1⟩:=hm;replace hf:=q_ hf;replace h1:=q_ h1;replace hg2:=q_ hg2)
   try go_ret
   rw[Q_.o];refine⟨.nilIface,_,.inl rfl,rfl,M.o.fr.trans hf.o u_,?_⟩;rw[hres.o];exact⟨⟨g,ah_ hsz hg1,rfl,hg2.o⟩,j1,hj1,h1.o⟩
  | ok r=>
   obtain⟨t,j2⟩:=r;have hj2:=hbd.1 t j2 hp;rw[hp] at hres;simp only at hres;obtain⟨ti,hi1,hi2,hi3,hi4⟩:=info_parts z08;replace hp:=q_ hp;replace M:=q_ M;clear hbd
   by_cases h44:bt s j2=44
   ·rw[if_pos h44,znx] at hres;replace hres:=q_ hres;have hlt2:j2<s.size:=zl_ (by omega);replace h44:=q_ h44
    go_wp2_with (first
     |(go_at_call 101;refine hC.o.mono ?_;rintro e w1 ⟨v,ev,_,rfl,hf,hm⟩;rw[hp.o] at hm;obtain⟨rfl,h1,hv⟩:=hm;obtain⟨vT,vx,rfl⟩:∃ T x,v=.iface T x:=(by cases hv<;>exact⟨_,_,rfl⟩);have M1:=M.o.call h1 hf;have hv1:=q_ (hv.mono (Q:=λ g=>w.heap.size+1<=g/\(Value.slice sa ds.length sc).ownBlock≠some g) (λ g _ hg=>⟨by omega,λ e=>by have:=M.o.row.lt g e;omega⟩));have t1:=M1.b.c1;have hbB1:=M1.hB;replace M1:=q_ M1;clear hf h1 hv)
     |(at_builtin;go_must (refine wpList_append_own_at _ rfl _ _ 256 rfl (w.heap.size+1) 88 ti _ 1 16 zzg hi1 hi2 hi3 hi4 rfl (by decide) (.slice sa ds.length sc) ds.length ((List.range ds.length).map X) rfl ?hown _ 1 1 [.iface vT vx] rfl rfl (yh_ _ #[.iface vT vx] _ _ ?nn) ?one ?b1 ?b2 ?b3 ?_)
       case hown=>exact World.ownsRow.alloc M1.o.row _
       case nn=>simp
       case one=>simp[Value.oneCell']
       case b1=>unfold maxLen;omega
       case b2=>omega
       case b3=>simp;omega
       intro v5 w5 ho5 hg5 hn5 hl5
       have M5:=M1.o.item hg5 ho5 hl5 hv1.o
       obtain⟨e5,f5⟩:=M1.o.itemCell hg5
       obtain⟨g5,cap5,rfl⟩:=zk_ ho5 (by omega)
       clear hg5 hl5 hn5 ho5
       replace M5:=q_ M5)
     |(go_at_call 156;refine(yt_ M5.o.here hs hj2.2 h44.o (by decide) (by decide)).mono ?_;rintro e w6 ⟨rfl,hf6,h6⟩;have M6:=q_ (M5.o.call h6 hf6);clear hf6 h6))
    go_roundg (s.size+1-(j2+1))
    case measure=>omega
    case rel=>exact⟨j2+1,_,ds++[t],_,M6.o,hlt2,by rw[al_,ai_];omega,l_,hres.o⟩
   ·rw[if_neg h44] at hres;obtain⟨y,hy⟩:∃ y,bt s j2=y:=⟨_,rfl⟩;rw[hy] at h44;replace hy:=q_ hy;replace hres:=q_ hres
    go_wp2_with (first
     |(go_at_call 101;refine hC.o.mono ?_;rintro e w1 ⟨v,ev,_,rfl,hf,hm⟩;rw[hp.o] at hm;obtain⟨rfl,h1,hv⟩:=hm;obtain⟨vT,vx,rfl⟩:∃ T x,v=.iface T x:=(by cases hv<;>exact⟨_,_,rfl⟩);have M1:=M.o.call h1 hf;have hv1:=q_ (hv.mono (Q:=λ g=>w.heap.size+1<=g/\(Value.slice sa ds.length sc).ownBlock≠some g) (λ g _ hg=>⟨by omega,λ e=>by have:=M.o.row.lt g e;omega⟩));have t1:=M1.b.c1;have hbB1:=M1.hB;replace M1:=q_ M1;clear hf h1 hv)
     |(at_builtin;go_must (refine wpList_append_own_at _ rfl _ _ 256 rfl (w.heap.size+1) 88 ti _ 1 16 zzg hi1 hi2 hi3 hi4 rfl (by decide) (.slice sa ds.length sc) ds.length ((List.range ds.length).map X) rfl ?hown _ 1 1 [.iface vT vx] rfl rfl (yh_ _ #[.iface vT vx] _ _ ?nn) ?one ?b1 ?b2 ?b3 ?_)
       case hown=>exact World.ownsRow.alloc M1.o.row _
       case nn=>simp
       case one=>simp[Value.oneCell']
       case b1=>unfold maxLen;omega
       case b2=>omega
       case b3=>simp;omega
       intro v5 w5 ho5 hg5 hn5 hl5
       have M5:=M1.o.item hg5 ho5 hl5 hv1.o
       obtain⟨e5,f5⟩:=M1.o.itemCell hg5
       obtain⟨g5,cap5,rfl⟩:=zk_ ho5 (by omega)
       clear hg5 hl5 hn5 ho5
       replace M5:=q_ M5)
     |(go_at_call 156;refine(yy_ M5.o.here hs hj2.2 hy.o (by omega) (by decide)).mono ?_;rintro e w6 ⟨rfl,hf6,h6⟩;have M6:=q_ (M5.o.call h6 hf6);clear hf6 h6))
    have u0:=M6.o.b.c0;have u1:=M6.o.b.c1;have hd6:ze_ w6 w6.drew:=ze_.drew w6;have M7:=M6.o.call (M6.o.here.still hd6) ((Fr.refl w6 _).still hd6);have hC7:=q_ (y4_ (c:=41) 41 M7.here (hG.o.fr M7.fr (Ne.symm hne)) hne hs hj2.2 rfl (by decide));replace M7:=q_ M7;refine yp_ 5 (λ W=>W.cell? ⟨w.heap.size,0,none⟩=some (.int .i64 (p:Int))/\W.cell? ⟨w.heap.size,1,none⟩=some (.slice (some ⟨g5,0,none⟩) (ds.length+1) cap5)) (by kernel_rfl) ?_;refine ta_ 0 rfl (by kernel_rfl) (λ _ _ _ h=>h) (by rintro W ⟨h1,h2⟩;go_simp<;>rfl) ?_;refine ta_ 1 rfl (by kernel_rfl) (λ _ _ _ h=>h) (by rintro W ⟨h1,h2⟩;go_simp<;>rfl) ?_;refine ta_ 2 rfl (by kernel_rfl) (λ _ _ _ h=>h) (by rintro W ⟨h1,h2⟩;go_simp<;>rfl) ?_;refine zg_ 3 rfl (by kernel_rfl) (λ _=>⟨u0,u1⟩) (λ K hK=>?_);go_simp;refine hC7.o.mono ?_;rintro e w8 ⟨v8,rfl,hf8,hE⟩;refine hK _ _ ?_;clear hK K
    have M8:∃ j8,j8<=s.size/\UM w bp s j8 (p:Int) (.slice (some ⟨g5,0,none⟩) (ds.length+1) cap5) (ds++[t]) (λ i=>if i<ds.length then X i else .iface vT vx) w8:=by
     rcases hE with⟨_,_,h8,hl8⟩|⟨_,_,h8⟩
     ·exact⟨j2+1,hl8,M7.o.call h8 hf8⟩
     ·exact⟨j2,hj2.2,M7.o.call h8 hf8⟩
    obtain⟨j8,hj8,M8⟩:=M8;have x0:=M8.b.c0;have x1:=M8.b.c1;refine zg_ 4 rfl (by kernel_rfl) (λ _=>⟨x0,x1⟩) (λ K hK=>?_);go_simp;refine hK _ _ ?_;clear hK K;refine zg_ 5 rfl (by kernel_rfl) (λ _=>⟨x0,x1⟩) (λ K hK=>?_);go_simp;refine hK _ _ ?_;clear hK K;refine yc_ (by kernel_rfl) (λ hm=>absurd hm (by decide)) ?_ _;replace M8:=q_ M8;replace hE:=q_ hE;replace hf8:=q_ hf8;clear x0 x1 u0 u1
    go_wp2_with fail
    try go_ret
    rw[Q_.o];refine⟨.iface 258 (.agg #[.int .i64 (p:Int),(.slice (some ⟨g5,0,none⟩) (ds.length+1) cap5)]),v8,.inr ⟨_,_,rfl⟩,rfl,M8.o.fr,?_⟩;rw[hres.o];show(if bt s j2=41 then _ else _);have hs7:=M7.o.fr.size
    rcases hE.o with⟨hb,rfl,h8,hl8⟩|⟨hb,hF,h8⟩
    ·rw[if_pos hb];exact⟨rfl,h8,M8.o.alts p rfl⟩
    ·rw[if_neg hb];exact⟨hF.less hs7,j2,hj2.2,h8⟩
open Go.RowKit
theorem zxw {s:BA}{i:Nat}(hs:s.size<=300) (hi:i<=s.size) (hx:bt s i=40) (hT:∀ j,i<j->j<=s.size->jc_ s j):jc_ s i:=by
 intro w bp et ex h hG hne;obtain⟨POST,Q_⟩:∃ P,H_ (P=vp_ w bp s i et ex):=⟨_,rfl⟩;rw[<- Q_.o];have H:=q_ (And.intro h (Fr.refl w (λ x=>x=bp)));have hlt:i<s.size:=zl_ (by omega);have hpT:=q_ (zxy (s:=s) (i:=i) hx);replace hx:=q_ hx;replace hG:=q_ hG;replace h:=q_ h;replace hT:=q_ hT
 go_in
 go_wp2_with (first
  |(go_at_call 153;refine(yl_ H.o.1).mono ?_;rintro e w' ⟨rfl,hw'⟩;rw[hw'])
  |(go_at_call 152;refine(yf_ H.o.1 hs hi).mono ?_;rintro e w' ⟨rfl,hw'⟩;rw[hx.o];replace H:=q_ (And.intro (H.o.1.still hw') (H.o.2.still hw'));clear hw')
  |(go_at_call 156;refine(yt_ H.o.1 hs hi hx.o (by decide) (by decide)).mono ?_;rintro e w' ⟨rfl,hf',h'⟩;have H1:=q_ (And.intro h' (H.o.2.trans hf' u_));clear hf' h')
  |(go_at_call 156;refine(yy_ H.o.1 hs hi hx.o (by decide) (by decide)).mono ?_;rintro e w' ⟨rfl,hf',h'⟩;replace H:=q_ (And.intro h' (H.o.2.trans hf' u_));clear hf' h')
  |(go_at_call 158;refine(zpl (p:=i) (λ j h1 h2=>hT.o j (by omega) h2) H1.o.1 (hG.o.fr H1.o.2 (Ne.symm hne)) hne hs hlt).mono ?_;rintro e w3 ⟨v,ev,hI,rfl,hf3,hm⟩;replace hf3:=q_ hf3;replace hm:=q_ hm;replace hI:=q_ hI))
 try go_ret
 rw[Q_.o];have hsz:=H1.o.2.size;refine⟨v,ev,hI.o,rfl,H1.o.2.trans hf3.o u_,?_⟩;rw[hpT.o];have hm':=hm.o
 cases hp:pA s (i+1) with
 | error k=>
  rw[hp] at hm';exact⟨hm'.1.less hsz,hm'.2⟩
 | ok r=>
  obtain⟨l,j⟩:=r;rw[hp] at hm';simp only at hm'⊢
  by_cases hb:bt s j=41
  ·rw[if_pos hb] at hm'⊢;obtain⟨rfl,h2,hv⟩:=hm';exact⟨rfl,h2,hv.mono (λ g _ hg=>ah_ hsz hg)⟩
  ·rw[if_neg hb] at hm'⊢;exact⟨hm'.1.less hsz,hm'.2⟩
theorem zca {s:BA}(hs:s.size<=300):∀ (n i:Nat),s.size-i<=n->i<=s.size->jc_ s i:=by
 intro n
 induction n with
 | zero=>
  intro i hn hi;have h0:bt s i=0:=zef (by omega);exact zoi hs hi (by rw[h0];decide) (by rw[h0];decide) (by rw[h0];decide) (by rw[h0];decide)
 | succ n ih=>
  intro i hn hi;have next:i<s.size->∀ j,i<j->j<=s.size->jc_ s j:=λ _ j h1 h2=>ih j (by omega) h2
  by_cases h1:zu_ (bt s i)=true
  ·have h1':=h1;simp only[zu_,au_,beq_iff_eq] at h1'
   rcases h1' with(((h|h)|h)|h)|h
   ·exact zvr hs hi h
   ·exact zvp hs hi h
   ·exact zvt hs hi h
   ·exact zvs hs hi h
   ·exact zvq hs hi h
  ·by_cases h2:bt s i=91\/bt s i=123
   ·have hlt:i<s.size:=zl_ (by omega)
    rcases h2 with h2|h2
    ·exact zxv hs hi h2 (next hlt (i+1) (by omega) hlt)
    ·exact zvo hs hi h2 (next hlt (i+1) (by omega) hlt)
   ·by_cases h3:bt s i=40
    ·exact zxw hs hi h3 (next (zl_ (by omega)))
    ·by_cases h4:65<=bt s i/\bt s i<=70
     ·exact zr5 hs hi (by simp[z0_];omega)
     ·exact zoi hs hi h1 h2 h3 h4
open Go.RowKit
def zjc (w:World) (bp:Nat) (s:BA) (i:Nat) (et:TypeId) (ex:Value) (e:Ending) (w':World):Prop:=
 ∃ (a:Int) (b:Int) (ev:Value),e=.returned (.tuple #[.agg #[.int .i64 a,.int .u8 b],ev])/\Fr w w' (· = bp)/\
  ((zn_ (bt s i)=true/\a=(i:Int)/\b=(bt s i:Int)/\ev=.nilIface/\PAt w' bp s (i+1)/\i<s.size)\/(zn_ (bt s i)=false/\z9_ w' w.heap.size ev (i:Int) (.iface et ex)/\PAt w' bp s i))
theorem xx_ {w:World}{bp:Nat}{s:BA}{i:Nat}(h:PAt w bp s i) (hG:Gram w et ex) (hne:bp≠0) (hs:s.size<=300) (hi:i<=s.size) :
 Calls prog 247 #[.pointer (some ⟨bp,0,none⟩)] w (zjc w bp s i et ex):=by
 obtain⟨POST,Q_⟩:∃ P,H_ (P=zjc w bp s i et ex):=⟨_,rfl⟩;rw[<- Q_.o];have hbp:=h.lt;have h0:=q_ (show PAt (w.alloc (.cells #[.int .i64 0,.int .u8 0] 217)) bp s i from Blk.alloc h _);have F0:=q_ (show Fr w (w.alloc (.cells #[.int .i64 0,.int .u8 0] 217)) (λ x=>x=bp) from(Fr.refl w _).alloc _);have B0:=q_ (Blk.new w #[.int .i64 0,.int .u8 0] 217);obtain⟨x,hx⟩:∃ x,bt s i=x:=⟨_,rfl⟩;replace hG:=q_ hG;replace h:=q_ h
 cases hsm:zn_ x with
 | true=>
  have hr:97<=x/\x<=122:=by simpa[zn_] using hsm
  have hlt:i<s.size:=zl_ (by omega)
  have n1:¬ ((x:Int)<97):=by omega
  have n2:¬ ((122:Int)<(x:Int)):=by omega
  replace hx:=q_ hx;replace hsm:=q_ hsm
  go_in
  go_wp2_with (first
   |(go_at_call 153;refine(yl_ h0.o).mono ?_;rintro e w' ⟨rfl,hw'⟩;rw[hw'];clear hw')
   |(go_at_call 152;refine(yf_ h0.o hs hi).mono ?_;rintro e w1 ⟨rfl,hw1⟩;rw[hx.o];have h1:=h0.o.still hw1;have F1:=(Fr.refl (w.alloc (.cells #[.int .i64 0,.int .u8 0] 217)) (λ g=>g=bp)).still hw1;have D0:=F1.blk B0.o (by omega);have P1:=Blk.alloc h1 (.cells #[.int .i64 (i:Int),.int .u8 (x:Int)] 217);have c1:=PAt.c1 P1;have f1:=PAt.thaw P1 1;have hs1:=F1.size;have hbl:=F1.size;have Lb:=Blk.other (Blk.new w1 #[.int .i64 (i:Int),.int .u8 (x:Int)] 217) (a:=⟨bp,1,none⟩) (.int .i64 ((i:Int)+1)) (by show ¬ (w1.heap.size=bp);simp at hbl;omega);have Rb:=Blk.other (D0.alloc (.cells #[.int .i64 (i:Int),.int .u8 (x:Int)] 217)) (a:=⟨bp,1,none⟩) (.int .i64 ((i:Int)+1)) (by show ¬ (w.heap.size=bp);omega);have P2:=q_ (PAt.inc P1);have l0:=Lb.c0;have l1:=Lb.c1;have r0:=Rb.c0;have r1:=Rb.c1;have g0:=Rb.thaw 0;have g1:=Rb.thaw 1;replace F1:=q_ F1;replace D0:=q_ D0;replace h1:=q_ h1;replace P1:=q_ P1;replace Lb:=q_ Lb;replace Rb:=q_ Rb))
  have S2:=(Rb.o.set 0 (.int .i64 (i:Int))).set 1 (.int .u8 (x:Int));have q0:=S2.cell 0;have q1:=S2.cell 1;simp only[bs_,bt_,aa_,ac_] at q0 q1;refine bodyPost_ret (v:=.tuple #[.agg #[.int .i64 (i:Int),.int .u8 (x:Int)],.nilIface]) (by simp[results,results247,go_sem,q0,q1]) rfl ?_;rw[Q_.o];refine⟨_,_,_,rfl,?_,.inl ⟨by rw[hx.o];exact hsm.o,rfl,by rw[hx.o],rfl,?_,hlt⟩⟩
  ·exact(((((F0.o.trans F1.o u_).alloc _).setCell _ _ (λ _=>rfl)).setCell _ _ (λ hx'=>absurd hx' (by_ _))).setCell _ _ (λ hx'=>absurd hx' (by_ _)))
  ·exact Blk.other (Blk.other P2.o (a:=⟨w.heap.size,0,none⟩) _ (by show ¬ (bp=w.heap.size);omega)) (a:=⟨w.heap.size,1,none⟩) _ (by show ¬ (bp=w.heap.size);omega)
 | false=>
  have hr:x<97\/122<x:=by
   have:=hsm;simp only[zn_,Bool.and_eq_false_iff,decide_eq_false_iff_not] at this;omega
  replace hx:=q_ hx;replace hsm:=q_ hsm
  have fin:H_ (∀ (w2:World) (v:Value) (w1:World),z9_ w2 (w1.alloc (.cells #[.int .i64 (i:Int),.int .u8 (x:Int)] 217)).heap.size v (i:Int) (.iface et ex)->Fr (w1.alloc (.cells #[.int .i64 (i:Int),.int .u8 (x:Int)] 217)) w2 (λ _=>False)->PAt (w1.alloc (.cells #[.int .i64 (i:Int),.int .u8 (x:Int)] 217)) bp s i->Fr (w.alloc (.cells #[.int .i64 0,.int .u8 0] 217)) w1 (λ g=>g=bp)->
   zjc w bp s i et ex (.returned (.tuple #[.agg #[.int .i64 0,.int .u8 0],v])) ((w2.setCell ⟨w.heap.size,0,none⟩ (.int .i64 0)).setCell ⟨w.heap.size,1,none⟩ (.int .u8 0))):=q_ (λ w2 v w1 hF hf2 P1 F1=>by
   have hz:(w.alloc (.cells #[.int .i64 0,.int .u8 0] 217)).heap.size=w.heap.size+1:=by simp
   have hz1:(w1.alloc (.cells #[.int .i64 (i:Int),.int .u8 (x:Int)] 217)).heap.size=w1.heap.size+1:=by simp
   have hsz:=F1.size
   have hfr:Fr w2 ((w2.setCell ⟨w.heap.size,0,none⟩ (.int .i64 0)).setCell ⟨w.heap.size,1,none⟩ (.int .u8 0)) (λ g=>g=w.heap.size):=((Fr.refl w2 (λ g=>g=w.heap.size)).setCell ⟨w.heap.size,0,none⟩ _ (λ _=>rfl)).setCell ⟨w.heap.size,1,none⟩ _ (λ _=>rfl)
   refine⟨_,_,_,rfl,?_,.inr ⟨by rw[hx.o];exact hsm.o,(hF.fr hfr (λ g hg e=>by omega)).less (by omega),hfr.blk (hf2.blk P1 id) (by omega)⟩⟩
   exact((((F0.o.trans F1 u_).alloc _).trans hf2 v_).trans hfr (λ y hy e=>by omega)))
  rcases hr with hr|hr
  ·have n1:(x:Int)<97:=by omega
   go_in
   go_wp2_with (first
    |(go_at_call 153;refine(yl_ h0.o).mono ?_;rintro e w' ⟨rfl,hw'⟩;rw[hw'];clear hw')
    |(go_at_call 152;refine(yf_ h0.o hs hi).mono ?_;rintro e w1 ⟨rfl,hw1⟩;rw[hx.o];have h1:=h0.o.still hw1;have F1:=(Fr.refl (w.alloc (.cells #[.int .i64 0,.int .u8 0] 217)) (λ g=>g=bp)).still hw1;have D0:=F1.blk B0.o (by omega);have P1:=Blk.alloc h1 (.cells #[.int .i64 (i:Int),.int .u8 (x:Int)] 217);have D1:=D0.alloc (.cells #[.int .i64 (i:Int),.int .u8 (x:Int)] 217);have G1:=q_ ((hG.o.fr (F0.o.trans F1 u_) (Ne.symm hne)).fr ((Fr.refl w1 (λ _=>False)).alloc (.cells #[.int .i64 (i:Int),.int .u8 (x:Int)] 217)) id);replace F1:=q_ F1;replace D1:=q_ D1;replace P1:=q_ P1;clear D0 h1)
    |(go_at_call 102;refine(x2_ P1.o G1.o).mono ?_;rintro e w2 ⟨v,rfl,hF,hf2⟩;have D2:=hf2.blk D1.o id;have r0:=D2.c0;have r1:=D2.c1;have g0:=D2.thaw 0;have g1:=D2.thaw 1;replace hF:=q_ hF;replace hf2:=q_ hf2;replace D2:=q_ D2))
   have S2:=(D2.o.set 0 (.int .i64 0)).set 1 (.int .u8 0);have q0:=S2.cell 0;have q1:=S2.cell 1;simp only[bs_,bt_,aa_,ac_] at q0 q1;refine bodyPost_ret (v:=.tuple #[.agg #[.int .i64 0,.int .u8 0],v]) (by simp[results,results247,go_sem,q0,q1]) rfl ?_;rw[Q_.o];exact fin.o w2 v w1 hF.o hf2.o P1.o F1.o
  ·have n1:¬ ((x:Int)<97):=by omega
   have n2:(122:Int)<(x:Int):=by omega
   go_in
   go_wp2_with (first
    |(go_at_call 153;refine(yl_ h0.o).mono ?_;rintro e w' ⟨rfl,hw'⟩;rw[hw'];clear hw')
    |(go_at_call 152;refine(yf_ h0.o hs hi).mono ?_;rintro e w1 ⟨rfl,hw1⟩;rw[hx.o];have h1:=h0.o.still hw1;have F1:=(Fr.refl (w.alloc (.cells #[.int .i64 0,.int .u8 0] 217)) (λ g=>g=bp)).still hw1;have D0:=F1.blk B0.o (by omega);have P1:=Blk.alloc h1 (.cells #[.int .i64 (i:Int),.int .u8 (x:Int)] 217);have D1:=D0.alloc (.cells #[.int .i64 (i:Int),.int .u8 (x:Int)] 217);have G1:=q_ ((hG.o.fr (F0.o.trans F1 u_) (Ne.symm hne)).fr ((Fr.refl w1 (λ _=>False)).alloc (.cells #[.int .i64 (i:Int),.int .u8 (x:Int)] 217)) id);replace F1:=q_ F1;replace D1:=q_ D1;replace P1:=q_ P1;clear D0 h1)
    |(go_at_call 102;refine(x2_ P1.o G1.o).mono ?_;rintro e w2 ⟨v,rfl,hF,hf2⟩;have D2:=hf2.blk D1.o id;have r0:=D2.c0;have r1:=D2.c1;have g0:=D2.thaw 0;have g1:=D2.thaw 1;replace hF:=q_ hF;replace hf2:=q_ hf2;replace D2:=q_ D2))
   have S2:=(D2.o.set 0 (.int .i64 0)).set 1 (.int .u8 0);have q0:=S2.cell 0;have q1:=S2.cell 1;simp only[bs_,bt_,aa_,ac_] at q0 q1;refine bodyPost_ret (v:=.tuple #[.agg #[.int .i64 0,.int .u8 0],v]) (by simp[results,results247,go_sem,q0,q1]) rfl ?_;rw[Q_.o];exact fin.o w2 v w1 hF.o hf2.o P1.o F1.o
open Go.RowKit
def zje (w:World) (bp:Nat) (s:BA) (i:Nat) (p:Int) (et:TypeId) (ex:Value) (e:Ending) (w':World):Prop:=
 ∃ v ev,IfV v/\e=.returned (.tuple #[v,ev])/\Fr w w' (· = bp)/\
  ((48<=bt s i/\bt s i<=57/\v=.iface 271 (.agg #[.int .i64 p,.int .i64 ((bt s i-48:Nat):Int)])/\ev=.nilIface/\PAt w' bp s (i+1)/\i<s.size)\/(¬ (48<=bt s i/\bt s i<=57)/\z9_ w' w.heap.size ev (i:Int) (.iface et ex)/\PAt w' bp s i))
theorem zpo {w:World}{bp:Nat}{s:BA}{i:Nat}{p:Int}(h:PAt w bp s i) (hG:Gram w et ex) (hs:s.size<=300) (hi:i<=s.size) :
 Calls prog 208 #[.pointer (some ⟨bp,0,none⟩),.int .i64 p] w (zje w bp s i p et ex):=by
 obtain⟨POST,Q_⟩:∃ P,H_ (P=zje w bp s i p et ex):=⟨_,rfl⟩;rw[<- Q_.o];obtain⟨x,hx⟩:∃ x,bt s i=x:=⟨_,rfl⟩;replace hG:=q_ hG
 by_cases hr:48<=x/\x<=57
 ·have hlt:i<s.size:=zl_ (by omega)
  have n1:¬ ((x:Int)<48):=by omega
  have n2:¬ ((57:Int)<(x:Int)):=by omega
  replace hx:=q_ hx;replace h:=q_ h
  go_in
  go_wp2_with (go_at_call 152;refine(yf_ h.o hs hi).mono ?_;rintro e w1 ⟨rfl,hw1⟩;rw[hx.o];have h1:=h.o.still hw1;have c1:=h1.c1;have f1:=h1.thaw 1;replace h1:=q_ h1;replace hw1:=q_ hw1)
  try go_ret
  rw[Q_.o];refine⟨.iface 271 (.agg #[.int .i64 p,.int .i64 ((x:Int)-48)]),.nilIface,.inr ⟨_,_,rfl⟩,rfl,((Fr.refl w _).still hw1.o).setCell _ _ (λ _=>rfl),.inl ⟨by rw[hx.o];exact hr.1,by rw[hx.o];exact hr.2,?_,rfl,h1.o.inc,hlt⟩⟩;rw[hx.o,show((x-48:Nat):Int)=(x:Int)-48 by omega]
 ·replace hx:=q_ hx
  have fin:H_ (∀ (w1 w2:World) (v:Value),ze_ w w1->z9_ w2 w1.heap.size v (i:Int) (.iface et ex)->Fr w1 w2 (λ _=>False)->zje w bp s i p et ex (.returned (.tuple #[.nilIface,v])) w2):=q_ (λ w1 w2 v hw1 hF hf2=>by
   have hsz:=((Fr.refl w (λ _=>False)).still hw1).size
   exact⟨.nilIface,v,.inl rfl,rfl,((Fr.refl w _).still hw1).trans hf2 v_,.inr ⟨by rw[hx.o];exact hr,hF.less hsz,hf2.blk (h.still hw1) id⟩⟩)
  have hr':x<48\/57<x:=by omega
  replace h:=q_ h;clear hr
  rcases hr' with hr|hr
  ·have n1:(x:Int)<48:=by omega
   go_in
   go_wp2_with (first
    |(go_at_call 152;refine(yf_ h.o hs hi).mono ?_;rintro e w1 ⟨rfl,hw1⟩;rw[hx.o];have h1:=q_ (h.o.still hw1);replace hw1:=q_ hw1)
    |(go_at_call 102;refine(x2_ h1.o (hG.o.fr ((Fr.refl w (λ _=>False)).still hw1.o) id)).mono ?_;rintro e w2 ⟨v,rfl,hF,hf2⟩;replace hF:=q_ hF;replace hf2:=q_ hf2))
   try go_ret
   rw[Q_.o];exact fin.o w1 w2 v hw1.o hF.o hf2.o
  ·have n1:¬ ((x:Int)<48):=by omega
   have n2:(57:Int)<(x:Int):=by omega
   go_in
   go_wp2_with (first
    |(go_at_call 152;refine(yf_ h.o hs hi).mono ?_;rintro e w1 ⟨rfl,hw1⟩;rw[hx.o];have h1:=q_ (h.o.still hw1);replace hw1:=q_ hw1)
    |(go_at_call 102;refine(x2_ h1.o (hG.o.fr ((Fr.refl w (λ _=>False)).still hw1.o) id)).mono ?_;rintro e w2 ⟨v,rfl,hF,hf2⟩;replace hF:=q_ hF;replace hf2:=q_ hf2))
   try go_ret
   rw[Q_.o];exact fin.o w1 w2 v hw1.o hF.o hf2.o
open Go.RowKit
structure AM (w:World) (bp:Nat) (s:BA) (j b0:Nat) (L:List Value) (T ET:TypeId) (k:Nat) (sv:Value) (n:Nat) (xs:List Value) (W:World):Prop where
 here:PAt W bp s j
 fr:Fr w W (· = bp)
 lt:bp<w.heap.size
 w0:w.heap.size<=b0
 hB:b0+1<=W.heap.size
 b:Blk W b0 L T
 row:W.ownsRow (b0+1) ET k sv n xs
section
variable {w W W':World} {bp:Nat} {s:BA} {j j' b0:Nat} {L:List Value} {T ET:TypeId} {k:Nat} {sv:Value} {n:Nat} {xs:List Value}
theorem AM.call (M:AM w bp s j b0 L T ET k sv n xs W) (h:PAt W' bp s j') (hf:Fr W W' (· = bp)):AM w bp s j' b0 L T ET k sv n xs W':=by
 have:=M.lt;have:=M.w0;exact⟨h,M.fr.trans hf u_,M.lt,M.w0,ah_ M.hB hf.size,hf.blk M.b (by omega),zb_ M.row hf (λ g hg e=>by have:=M.row.lt g hg;omega)⟩
theorem AM.alloc (M:AM w bp s j b0 L T ET k sv n xs W) (o:Obj):AM w bp s j b0 L T ET k sv n xs (W.alloc o):=M.call (Blk.alloc M.here o) ((Fr.refl W _).alloc o)
theorem AM.item (M:AM w bp s j b0 L T ET k sv n xs W){v5:Value}{n':Nat}{xs':List Value}{W0:World}(h0:Fr W W0 (λ _=>False)) (hg:W0.grownBy w5 sv.ownBlock) (ho:w5.ownsRow (b0+1) ET k v5 n' xs')
 (hl:v5.ownBlock=sv.ownBlock\/v5.ownBlock=some W0.heap.size) (c:Nat) :
 AM w bp s j b0 (L.set c v5) T ET k v5 n' xs' (w5.setCell ⟨b0,c,none⟩ v5)/\Fr W (w5.setCell ⟨b0,c,none⟩ v5) (λ g=>sv.ownBlock=some g\/g=b0)/\(∀ g,v5.ownBlock=some g->b0+1<=g/\(sv.ownBlock=some g\/W.heap.size<=g)):=by
 have hlt:=M.lt;have hw0:=M.w0;have hbB:=M.hB;have hsz:=h0.size;have hF:Fr W w5 (λ g=>sv.ownBlock=some g):=Fr.grown (h0.mono v_) hg (λ k e _=>e)
 have hn:∀ g,v5.ownBlock=some g->b0+1<=g/\(sv.ownBlock=some g\/W.heap.size<=g):=λ g hg'=>by
  rcases hl with e|e
  ·exact⟨(M.row.lt g (e▸hg')).1,.inl (e▸hg')⟩
  ·rw[e] at hg';simp only[ad_] at hg';exact⟨by omega,.inr (by omega)⟩
 have hG:Fr w5 (w5.setCell ⟨b0,c,none⟩ v5) (λ g=>g=b0):=(Fr.refl w5 (λ g=>g=b0)).setCell ⟨b0,c,none⟩ v5 (λ _=>rfl);have hH:Fr W (w5.setCell ⟨b0,c,none⟩ v5) (λ g=>sv.ownBlock=some g\/g=b0):=(hF.mono (λ _ _ e=>.inl e)).trans hG (λ _ _ e=>.inr e);have B1:=hF.blk M.b (λ e=>by have:=M.row.lt _ e;omega);refine⟨⟨hH.blk M.here (λ e=>?_),M.fr.trans hH (λ x hx e=>?_),M.lt,M.w0,ah_ hbB hH.size,B1.set c v5,zb_ ho hG (λ g hg' e=>by have:=hn g hg';omega)⟩,hH,hn⟩
 ·rcases e with e|e
  ·have:=M.row.lt _ e;omega
  ·omega
 ·rcases e with e|e
  ·have:=M.row.lt _ e;omega
  ·omega
theorem AM.itemCell (M:AM w bp s j b0 L T ET k sv n xs W){W0:World}(h0:Fr W W0 (λ _=>False)) (hg:W0.grownBy w5 sv.ownBlock):Blk w5 b0 L T:=by
 have hF:Fr W w5 (λ g=>sv.ownBlock=some g):=Fr.grown (h0.mono v_) hg (λ k e _=>e);exact hF.blk M.b (λ e=>by have:=M.row.lt _ e;omega)
end
def DfV (w:World) (P:Nat->Prop) (s:BA) (o:Option (Nat×Nat)) (d:Value):Prop:=
 match o with
 | none=>d=.pointer none
 | some (a,e)=>∃ g x,P g/\d=.pointer (some ⟨g,0,none⟩)/\IfV x/\Blk w g [.int .i64 (a:Int),.string (s.extract a e),x] 224
theorem DfV.mono {w:World}{s:BA}(h:DfV w P s o d) (hQ:∀ g,g<w.heap.size->P g->Q g):DfV w Q s o d:=by
 match o with
 | none=>exact h
 | some (a,e)=>
  obtain⟨g,x,h1,h2,h3,h4⟩:=h;exact⟨g,x,hQ g h4.lt h1,h2,h3,h4⟩
theorem DfV.fr {w w':World}{s:BA}(h:DfV w P s o d) (hf:Fr w w' S) (hS:∀ g,P g->¬ S g):DfV w' P s o d:=by
 match o with
 | none=>exact h
 | some (a,e)=>
  obtain⟨g,x,h1,h2,h3,h4⟩:=h;exact⟨g,x,h1,h2,h3,hf.blk h4 (hS g h1)⟩
def FldV (w:World) (P:Nat->Prop) (s:BA) (f:PF) (a b c d:Value):Prop:=
 a=.int .i64 (f.place:Int)/\b=.int .u8 (f.letter:Int)/\TyV w P f.ty c/\DfV w P s f.dflt d
theorem FldV.mono {w:World}{s:BA}{c:Value}(h:FldV w P s f a b c d) (hQ:∀ g,g<w.heap.size->P g->Q g):FldV w Q s f a b c d:=
 ⟨h.1,h.2.1,h.2.2.1.mono hQ,h.2.2.2.mono hQ⟩
theorem FldV.fr {w w':World}{s:BA}{c:Value}(h:FldV w P s f a b c d) (hf:Fr w w' S) (hS:∀ g,P g->¬ S g):FldV w' P s f a b c d:=
 ⟨h.1,h.2.1,h.2.2.1.fr hf hS,h.2.2.2.fr hf hS⟩
def vi_ (w:World) (P:Nat->Prop) (s:BA) (fs:List PF) (xs:List Value):Prop:=
 ∀ i f,fs[i]?=some f->∃ a b c d,xs[4*i]?=some a/\xs[4*i+1]?=some b/\xs[4*i+2]?=some c/\xs[4*i+3]?=some d/\FldV w P s f a b c d
theorem vi_.mono {w:World}{s:BA}{xs:List Value}(h:vi_ w P s fs xs) (hQ:∀ g,g<w.heap.size->P g->Q g):vi_ w Q s fs xs:=λ i f e=>by
 obtain⟨a,b,c,d,h1,h2,h3,h4,h5⟩:=h i f e;exact⟨a,b,c,d,h1,h2,h3,h4,h5.mono hQ⟩
theorem vi_.fr {w w':World}{s:BA}{xs:List Value}(h:vi_ w P s fs xs) (hf:Fr w w' S) (hS:∀ g,P g->¬ S g):vi_ w' P s fs xs:=λ i f e=>by
 obtain⟨a,b,c,d,h1,h2,h3,h4,h5⟩:=h i f e;exact⟨a,b,c,d,h1,h2,h3,h4,h5.fr hf hS⟩
theorem vi_.snoc {w:World}{s:BA}{xs:List Value}{c:Value}(h:vi_ w P s fs xs) (hl:xs.length=fs.length*4) (hf:FldV w P s f a b c d):vi_ w P s (fs++[f]) (xs++[a,b,c,d]):=λ i f' e=>by
 by_cases hi:i<fs.length
 ·rw[av_ hi] at e;obtain⟨a',b',c',d',h1,h2,h3,h4,h5⟩:=h i f' e;exact⟨a',b',c',d',by rw[av_ (by omega)];exact h1,by rw[av_ (by omega)];exact h2,by rw[av_ (by omega)];exact h3,by rw[av_ (by omega)];exact h4,h5⟩
 ·have hi':i=fs.length:=by
   have:=(ao_.1 e).1
   simp at this;omega
  subst hi';rw[aw_ l_,Nat.sub_self] at e;simp only[aa_,ad_] at e;subst e;refine⟨a,b,c,d,?_,?_,?_,?_,hf⟩
  ·rw[aw_ (by omega),show 4*fs.length-xs.length=0 by omega];rfl
  ·rw[aw_ (by omega),show 4*fs.length+1-xs.length=1 by omega];rfl
  ·rw[aw_ (by omega),show 4*fs.length+2-xs.length=2 by omega];rfl
  ·rw[aw_ (by omega),show 4*fs.length+3-xs.length=3 by omega];rfl
def yg_ (l:List (Nat×Nat)):List Value:=l.flatMap (λ q=>[.int .i64 (q.2:Int),.int .u8 (q.1:Int)])
def UnkV (w:World) (P:Nat->Prop) (o:Option (Nat×Nat)) (d:Value):Prop:=
 match o with
 | none=>d=.pointer none
 | some (c,p)=>∃ g,P g/\d=.pointer (some ⟨g,0,none⟩)/\Blk w g [.int .i64 (p:Int),.int .u8 (c:Int)] 217
theorem UnkV.mono {w:World}(h:UnkV w P o d) (hQ:∀ g,g<w.heap.size->P g->Q g):UnkV w Q o d:=by
 match o with
 | none=>exact h
 | some (a,e)=>
  obtain⟨g,h1,h2,h4⟩:=h;exact⟨g,hQ g h4.lt h1,h2,h4⟩
theorem UnkV.fr {w w':World}(h:UnkV w P o d) (hf:Fr w w' S) (hS:∀ g,P g->¬ S g):UnkV w' P o d:=by
 match o with
 | none=>exact h
 | some (a,e)=>
  obtain⟨g,h1,h2,h4⟩:=h;exact⟨g,h1,h2,hf.blk h4 (hS g h1)⟩
inductive xo_ (w:World) (P:Nat->Prop) (s:BA):PB->Value->Prop
 | recd (p:Nat) {fs:List PF} {sv:Value} {xs:List Value} (ho:w.ownsRow 0 220 4 sv fs.length xs) (hP:∀ g,sv.ownBlock=some g->P g) (h:vi_ w P s fs xs):xo_ w P s (.recd fs) (.iface 263 (.agg #[.int .i64 (p:Int),sv]))
 | enum (p:Nat) {l:List (Nat×Nat)} {o:Option (Nat×Nat)} {sv u:Value} (ho:w.ownsRow 0 217 2 sv l.length (yg_ l)) (hP:∀ g,sv.ownBlock=some g->P g) (hu:UnkV w P o u):xo_ w P s (.enum l o) (.iface 268 (.agg #[.int .i64 (p:Int),sv,u]))
 | bytes (p n:Nat):xo_ w P s (.bytes n) (.iface 271 (.agg #[.int .i64 (p:Int),.int .i64 (n:Int)]))
theorem xo_.mono {w:World}{s:BA}{b:PB}(h:xo_ w P s b v) (hQ:∀ g,g<w.heap.size->P g->Q g):xo_ w Q s b v:=by
 cases h with
 | recd p ho hP h=>exact .recd p ho (λ g e=>hQ g (ho.lt g e).2 (hP g e)) (h.mono hQ)
 | enum p ho hP h=>exact .enum p ho (λ g e=>hQ g (ho.lt g e).2 (hP g e)) (h.mono hQ)
 | bytes p n=>exact .bytes p n
theorem xo_.fr {w w':World}{s:BA}{b:PB}(h:xo_ w P s b v) (hf:Fr w w' S) (hS:∀ g,P g->¬ S g):xo_ w' P s b v:=by
 cases h with
 | recd p ho hP h=>exact .recd p (zb_ ho hf (λ g e=>hS g (hP g e))) hP (h.fr hf hS)
 | enum p ho hP h=>exact .enum p (zb_ ho hf (λ g e=>hS g (hP g e))) hP (h.fr hf hS)
 | bytes p n=>exact .bytes p n
end Go.Proofs.YthmjjpkjgjklmaaGreatDoor
