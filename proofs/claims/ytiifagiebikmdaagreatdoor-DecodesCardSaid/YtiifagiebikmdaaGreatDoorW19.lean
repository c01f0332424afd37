import Derived.Test.YtiifagiebikmdaaGreatDoorW04
import Derived.Test.YtiifagiebikmdaaGreatDoorW01
import Derived.Test.YtiifagiebikmdaaGreatDoorW09
import Derived.Test.YtiifagiebikmdaaGreatDoorW02
import Derived.Test.YtiifagiebikmdaaGreatDoorW00
import Derived.Test.YtiifagiebikmdaaGreatDoorA00
set_option maxHeartbeats 16000000
set_option maxRecDepth 100000
set_option linter.unusedSimpArgs false
open Go.Proofs.Tryz
namespace Go.Proofs.YtiifagiebikmdaaGreatDoor
open Go.RowKit
variable {P S Q:Nat->Prop}{c:Int}{et:TypeId}{ex v d a b:Value}{w5:World}{o:Option (Nat×Nat)}{t:PT}{f:PF}{fs:List PF}
def PAt (w:World) (bp:Nat) (s:BA) (i:Nat):Prop:=Blk w bp [.string s,.int .i64 (i:Int)] 109
section
variable {w w':World} {bp:Nat} {s:BA} {i:Nat}
theorem PAt.c0 (h:PAt w bp s i):w.cell? ⟨bp,0,none⟩=some (.string s):=by rw[Blk.cell h];rfl
theorem PAt.c1 (h:PAt w bp s i):w.cell? ⟨bp,1,none⟩=some (.int .i64 (i:Int)):=by rw[Blk.cell h];rfl
theorem PAt.thaw (h:PAt w bp s i) (o:Nat):w.frozen? ⟨bp,o,none⟩=false:=Blk.thaw h o
theorem PAt.still (h:PAt w bp s i) (e:zd_ w w'):PAt w' bp s i:=by obtain⟨n,rfl⟩:=e;exact h
theorem PAt.inc (h:PAt w bp s i):PAt (w.setCell ⟨bp,1,none⟩ (.int .i64 ((i:Int)+1))) bp s (i+1):=Blk.set h 1 _
end
theorem yj_ {w:World}{bp:Nat}{s:BA}{i:Nat}(h:PAt w bp s i) :
 Calls prog 103 #[.pointer (some ⟨bp,0,none⟩)] w λ e w'=>e=.returned (.int .i64 (i:Int))/\w'=w:=by
 have c1:=h.c1
 go_in
 go_wp2
 go_ret
 exact⟨rfl,rfl⟩
theorem zb8 (c:Nat) (w:World) :
 Calls prog 101 #[.int .u8 (c:Int)] w λ e w'=>e=.returned (.bool (z5_ c))/\w'=w:=by
 have hb:z5_ c=(decide ((65:Int)<=(c:Int))&&decide ((c:Int)<=70)):=by
  unfold z5_;rw[show decide ((65:Int)<=(c:Int))=decide (65<=c) by congr 1;exact propext (by omega),show decide ((c:Int)<=70)=decide (c<=70) by congr 1;exact propext (by omega)]
 rw[hb]
 by_cases h1:(65:Int)<=(c:Int)
 ·go_in
  go_wp2
  go_ret
  exact⟨by simp[h1],rfl⟩
 ·go_in
  go_wp2
  go_ret
  exact⟨by simp;omega,rfl⟩
theorem yf_ {w:World}{bp:Nat}{s:BA}{i:Nat}(h:PAt w bp s i) (_hs:s.size<=300) (l:i<=s.size) :
 Calls prog 102 #[.pointer (some ⟨bp,0,none⟩)] w λ e w'=>e=.returned (.int .u8 (bt s i:Int))/\zd_ w w':=by
 have c0:=h.c0;have c1:=h.c1;clear h
 by_cases hl:i<s.size
 ·have g:(i:Int)<(s.size:Int):=by omega
  go_in
  go_wp2
  go_quiet (fail)
  go_wp2
  go_quiet (fail)
  go_wp2
  go_ret
  exact⟨by simp[j5_ s i hl],(zd_.drewN _ _).trans (zd_.drewN _ _)⟩
 ·have g:¬ (i:Int)<(s.size:Int):=by omega
  go_in
  go_wp2
  go_quiet (fail)
  go_wp2
  go_ret
  exact⟨by rw[zf5 (by omega)];rfl,_,rfl⟩
def z0f (w:World) (bp:Nat) (s:BA) (i d:Nat) (b:Bool) (w':World):Prop:=
 Fr w w' (· = bp)/\((bt s i=d/\b=true/\PAt w' bp s (i+1)/\i<s.size)\/(bt s i≠d/\b=false/\PAt w' bp s i))
theorem zfi {w:World}{bp:Nat}{s:BA}{i:Nat}(d:Nat) (h:PAt w bp s i) (hs:s.size<=300) (q:i<=s.size) (hd:c=(d:Int)) (r:0<d) :
 Calls prog 106 #[.pointer (some ⟨bp,0,none⟩),.int .u8 c] w λ e w'=>∃ b,e=.returned (.bool b)/\z0f w bp s i d b w':=by
 subst hd;obtain⟨x,g⟩:∃ x,bt s i=x:=⟨_,rfl⟩
 by_cases hb:x=d
 ·subst hb;replace g:=q_ g
  go_in
  go_wp2_with (go_at_call 102;refine(yf_ h hs q).mono ?_;rintro e w' ⟨rfl,m⟩;rw[g.o];have l:=h.still m;have c1:=l.c1;have u:=l.thaw 1)
  go_ret
  exact⟨true,rfl,((Fr.refl w _).still m).setCell _ _ (λ _=>rfl),.inl ⟨g.o,rfl,l.inc,zj_ (by rw[g.o];exact r)⟩⟩
 ·have hn:((x:Int) != (d:Int))=true:=by simp;omega
  replace g:=q_ g
  go_in
  go_wp2_with (go_at_call 102;refine(yf_ h hs q).mono ?_;rintro e w' ⟨rfl,m⟩;rw[g.o];have l:=h.still m)
  go_ret
  exact⟨false,rfl,(Fr.refl w _).still m,.inr ⟨by rw[g.o];exact hb,rfl,l⟩⟩
theorem zcp {w:World}{bp:Nat}{s:BA}{i:Nat}(d:Nat) (h:PAt w bp s i) (hs:s.size<=300) (q:i<=s.size) (hd:c=(d:Int)) (l:0<d) (hb:bt s i=d) :
 Calls prog 106 #[.pointer (some ⟨bp,0,none⟩),.int .u8 c] w λ e w'=>e=.returned (.bool true)/\Fr w w' (· = bp)/\PAt w' bp s (i+1):=by
 refine(zfi d h hs q hd l).mono ?_;rintro e w' ⟨b,rfl,m,g⟩
 rcases g with⟨_,rfl,h1,_⟩|⟨hn,_⟩
 ·exact⟨rfl,m,h1⟩
 ·exact absurd hb hn
theorem zes {w:World}{bp:Nat}{s:BA}{i:Nat}(d:Nat) (h:PAt w bp s i) (hs:s.size<=300) (q:i<=s.size) (hd:c=(d:Int)) (l:0<d) (hb:bt s i≠d) :
 Calls prog 106 #[.pointer (some ⟨bp,0,none⟩),.int .u8 c] w λ e w'=>e=.returned (.bool false)/\Fr w w' (· = bp)/\PAt w' bp s i:=by
 refine(zfi d h hs q hd l).mono ?_;rintro e w' ⟨b,rfl,m,g⟩
 rcases g with⟨r,_⟩|⟨_,rfl,h1⟩
 ·exact absurd r hb
 ·exact⟨rfl,m,h1⟩
open Go.RowKit
def yd_ (w:World) (lo:Nat) (v:Value) (p:Int) (ev:Value):Prop:=
 ∃ g,lo<=g/\v=.iface 139 (.pointer (some ⟨g,0,none⟩))/\Blk w g [.int .i64 p,ev] 141
theorem x3_ {w:World}{bp:Nat}{s:BA}{i:Nat}(h:PAt w bp s i) (hg:w.cell? ⟨0,0,none⟩=some (.iface et ex)) :
 Calls prog 75 #[.pointer (some ⟨bp,0,none⟩)] w λ e w'=>∃ v,e=.returned v/\yd_ w' w.heap.size v (i:Int) (.iface et ex)/\Fr w w' (λ _=>False):=by
 obtain⟨x,m⟩:∃ P,H_ (P=λ (e:Ending) (w':World)=>∃ v,e=.returned v/\yd_ w' w.heap.size v (i:Int) (.iface et ex)/\Fr w w' (λ _=>False)):=⟨_,rfl⟩;rw[<- m.o];have c1:=h.c1;replace h:=q_ h
 go_in
 go_wp2_with fail
 refine zx_ 8 (λ W=>W.cell? ⟨bp,1,none⟩=some (.int .i64 (i:Int))/\W.cell? ⟨0,0,none⟩=some (.iface et ex)) (by kernel_rfl) ?_;refine ta_ 0 rfl (by kernel_rfl) (λ _ _ _ h=>h) (by rintro W ⟨h1,l⟩;go_simp<;>rfl) ?_;refine ta_ 1 rfl (by kernel_rfl) (λ _ _ _ h=>h) (by rintro W ⟨h1,l⟩;go_simp<;>rfl) ?_;refine ta_ 2 rfl (by kernel_rfl) (λ _ _ _ h=>h) (by rintro W ⟨h1,l⟩;go_simp<;>rfl) ?_;refine ta_ 3 rfl (by kernel_rfl) (λ _ _ _ h=>h) (by rintro W ⟨h1,l⟩;go_simp<;>rfl) ?_;refine ta_ 4 rfl (by kernel_rfl) (λ _ _ _ h=>h) (by rintro W ⟨h1,l⟩;go_simp<;>rfl) ?_;refine ta_ 5 rfl (by kernel_rfl) (λ _ _ _ h=>h) (by rintro W ⟨h1,l⟩;go_simp<;>rfl) ?_;refine ze_ 6 rfl (by kernel_rfl) (λ _=>⟨c1,hg⟩) (λ K g=>?_);go_simp;refine g _ _ ?_;clear g K
 have q:(w.drew.alloc (.cells #[.int .i64 (i:Int),.iface et ex] 141)).cell? ⟨bp,1,none⟩=some (.int .i64 (i:Int)):=by
  rw[World.cell?_alloc_past _ _ _ (World.block_lt_of_cell? w.drew ⟨bp,1,none⟩ c1)];exact c1
 have r:(w.drew.alloc (.cells #[.int .i64 (i:Int),.iface et ex] 141)).cell? ⟨0,0,none⟩=some (.iface et ex):=by
  rw[World.cell?_alloc_past _ _ _ (World.block_lt_of_cell? w.drew ⟨0,0,none⟩ hg)];exact hg
 refine ze_ 7 rfl (by kernel_rfl) (λ _=>⟨q,r⟩) (λ K g=>?_);go_simp;refine g _ _ ?_;clear g K;refine ze_ 8 rfl (by kernel_rfl) (λ _=>⟨q,r⟩) (λ K g=>?_);go_simp;refine g _ _ ?_;clear g K;refine zq_ (by kernel_rfl) (λ u=>absurd u (by decide)) ?_ _
 go_wp2_with fail
 try go_ret
 rw[m.o];exact⟨_,rfl,⟨w.heap.size,l_,rfl,(Blk.new w _ _).drew⟩,((Fr.refl w _).alloc _).drew⟩
def Gram (w:World) (et:TypeId) (ex:Value):Prop:=w.cell? ⟨0,0,none⟩=some (.iface et ex)
theorem Gram.fr {w w':World}(h:Gram w et ex) (g:Fr w w' S) (e:¬ S 0):Gram w' et ex:=
 (World.cell?_of_block (a:=⟨0,0,none⟩) (g.block _ (World.block_lt_of_cell? w ⟨0,0,none⟩ h) e)).trans h
theorem yd_.fr {w w':World}{lo:Nat}{p:Int}{e:Value}(h:yd_ w lo v p e) (r:Fr w w' S) (q:∀ g,lo<=g->¬ S g):yd_ w' lo v p e:=by
 obtain⟨g,h1,l,m⟩:=h;exact⟨g,h1,l,r.blk m (q g h1)⟩
theorem yd_.less {w:World}{lo l:Nat}{p:Int}{e:Value}(h:yd_ w lo v p e) (hl:l<=lo):yd_ w l v p e:=by
 obtain⟨g,h1,m⟩:=h;exact⟨g,ai_ hl h1,m⟩
def PExp (w:World) (bp:Nat) (s:BA) (i d:Nat) (et:TypeId) (ex:Value) (v:Value) (w':World):Prop:=
 Fr w w' (· = bp)/\((bt s i=d/\v=.nilIface/\PAt w' bp s (i+1)/\i<s.size)\/(bt s i≠d/\yd_ w' w.heap.size v (i:Int) (.iface et ex)/\PAt w' bp s i))
theorem y1_ {w:World}{bp:Nat}{s:BA}{i:Nat}(d:Nat) (h:PAt w bp s i) (l:Gram w et ex) (A:bp≠0) (hs:s.size<=300) (y:i<=s.size) (hd:c=(d:Int)) (x:0<d) :
 Calls prog 105 #[.pointer (some ⟨bp,0,none⟩),.int .u8 c] w λ e w'=>∃ v,e=.returned v/\PExp w bp s i d et ex v w':=by
 subst hd;obtain⟨C,q⟩:∃ P,H_ (P=λ (e:Ending) (w':World)=>∃ v,e=.returned v/\PExp w bp s i d et ex v w'):=⟨_,rfl⟩;rw[<- q.o]
 by_cases hb:bt s i=d
 ·have r:=q_ (zcp d h hs y rfl x hb);have z:i<s.size:=zj_ (by omega);replace hb:=q_ hb;replace h:=q_ h;replace l:=q_ l
  go_in
  go_wp2_with (go_at_call 106;refine r.o.mono ?_;rintro e w1 ⟨rfl,g,h1⟩;replace h1:=q_ h1;replace g:=q_ g)
  try go_ret
  rw[q.o];exact⟨.nilIface,rfl,g.o,.inl ⟨hb.o,rfl,h1.o,z⟩⟩
 ·have r:=q_ (zes d h hs y rfl x hb);replace hb:=q_ hb;replace h:=q_ h;replace l:=q_ l
  go_in
  go_wp2_with (first
   |(go_at_call 106;refine r.o.mono ?_;rintro e w1 ⟨rfl,g,h1⟩;replace h1:=q_ h1;replace g:=q_ g)
   |(go_at_call 75;refine(x3_ h1.o (l.o.fr g.o (Ne.symm A))).mono ?_;rintro e D ⟨v,rfl,u,m⟩;replace u:=q_ u;replace m:=q_ m))
  try go_ret
  rw[q.o];have B:=g.o.size;exact⟨v,rfl,g.o.trans m.o v_,.inr ⟨hb.o,u.o.less B,m.o.blk h1.o id⟩⟩
open Go.RowKit
def jv_ (c:Nat):TypeId:=if c=110 then 198 else if c=116 then 199 else if c=105 then 200 else if c=108 then 201 else 202
def zb3 (c:Nat):TypeId:=if c=91 then 205 else 206
inductive TyV (w:World) (P:Nat->Prop):PT->Value->Prop
 | base (c p:Nat) (h:yc_ c=true):TyV w P (.leaf c p) (.iface (jv_ c) (.agg #[.int .i64 (p:Int)]))
 | name (c p:Nat) (h:z5_ c=true):TyV w P (.leaf c p) (.iface 209 (.agg #[.int .i64 (p:Int),.int .u8 (c:Int)]))
 | wrap (c p:Nat) {t:PT} {v:Value} (h:TyV w P t v):TyV w P (.wrap c p t) (.iface (zb3 c) (.agg #[.int .i64 (p:Int),v]))
 | alts (p:Nat) {l:List PT} {sv:Value} (X:Nat->Value) (ho:w.ownsRow 0 83 1 sv l.length ((List.range l.length).map X)) (hP:∀ g,sv.ownBlock=some g->P g) (h:∀ i t,l[i]?=some t->TyV w P t (X i)) :
  TyV w P (.alts p l) (.iface 220 (.agg #[.int .i64 (p:Int),sv]))
theorem TyV.mono {w:World}(h:TyV w P t v) (l:∀ g,g<w.heap.size->P g->Q g):TyV w Q t v:=by
 induction h with
 | base c p h=>exact .base c p h
 | name c p h=>exact .name c p h
 | wrap c p h ih=>exact .wrap c p ih
 | alts p X ho hP h ih=>exact .alts p X ho (λ g e=>l g (ho.lt g e).2 (hP g e)) ih
theorem TyV.fr {w w':World}(h:TyV w P t v) (m:Fr w w' S) (l:∀ g,P g->¬ S g):TyV w' P t v:=by
 induction h with
 | base c p h=>exact .base c p h
 | name c p h=>exact .name c p h
 | wrap c p h ih=>exact .wrap c p ih
 | alts p X ho hP h ih=>exact .alts p X (za_ ho m (λ g e=>l g (hP g e))) hP ih
def IfV (v:Value):Prop:=v=.nilIface\/∃ T x,v=.iface T x
def vl_ (w:World) (bp:Nat) (s:BA) (i:Nat) (et:TypeId) (ex:Value) (e:Ending) (w':World):Prop:=
 ∃ v ev,IfV v/\e=.returned (.tuple #[v,ev])/\Fr w w' (· = bp)/\
 match pT s i with
 | .ok (t,j)=>ev=.nilIface/\PAt w' bp s j/\TyV w' (λ g=>w.heap.size<=g) t v
 | .error k=>yd_ w' w.heap.size ev (k:Int) (.iface et ex)/\∃ j,j<=s.size/\PAt w' bp s j
def v3_ (s:BA) (i:Nat):Prop:=∀ (w:World) (bp:Nat) (et:TypeId) (ex:Value),PAt w bp s i->Gram w et ex->bp≠0->
 Calls prog 74 #[.pointer (some ⟨bp,0,none⟩)] w (vl_ w bp s i et ex)
theorem yr_ {w:World}{bp:Nat}{s:BA}{i x:Nat}(h:PAt w bp s i) (hs:s.size<=300) (g:i<=s.size) (l:bt s i=x) (hc:(x:Int)=c) (h0:0<c) :
 Calls prog 106 #[.pointer (some ⟨bp,0,none⟩),.int .u8 c] w λ e w'=>e=.returned (.bool true)/\Fr w w' (· = bp)/\PAt w' bp s (i+1):=
 zcp x h hs g hc.symm (by omega) l
theorem yw_ {w:World}{bp:Nat}{s:BA}{i x:Nat}(h:PAt w bp s i) (hs:s.size<=300) (g:i<=s.size) (l:bt s i=x) (hc:(x:Int)≠c) (h0:0<c) :
 Calls prog 106 #[.pointer (some ⟨bp,0,none⟩),.int .u8 c] w λ e w'=>e=.returned (.bool false)/\Fr w w' (· = bp)/\PAt w' bp s i:=
 zes c.toNat h hs g (by omega) (by omega) (by rw[l];omega)
theorem zct {s:BA}{i c:Nat}(h:bt s i=c) (hb:yc_ c=true):pT s i=.ok (.leaf c i,i+1):=by
 rw[zjn];unfold za6;rw[h,if_pos hb]
theorem ztv {s:BA}{i:Nat}(hs:s.size<=300) (u:i<=s.size) (l:bt s i=110):v3_ s i:=by
 intro w bp et ex h A C;obtain⟨B,z⟩:∃ P,H_ (P=vl_ w bp s i et ex):=⟨_,rfl⟩;rw[<- z.o];have g:=q_ (And.intro h (Fr.refl w (λ x=>x=bp)));replace l:=q_ l;replace A:=q_ A;replace h:=q_ h
 go_in
 go_wp2_with (first
  |(go_at_call 103;refine(yj_ g.o.1).mono ?_;rintro e w' ⟨rfl,r⟩;rw[r])
  |(go_at_call 102;refine(yf_ g.o.1 hs u).mono ?_;rintro e w' ⟨rfl,r⟩;rw[l.o];replace g:=q_ (And.intro (g.o.1.still r) (g.o.2.still r));clear r)
  |(go_at_call 106;refine(yr_ g.o.1 hs u l.o (by decide) (by decide)).mono ?_;rintro e w' ⟨rfl,q,m⟩;have y:=q_ (And.intro m (g.o.2.trans q u_));clear q m)
  |(go_at_call 106;refine(yw_ g.o.1 hs u l.o (by decide) (by decide)).mono ?_;rintro e w' ⟨rfl,q,m⟩;replace g:=q_ (And.intro m (g.o.2.trans q u_));clear q m))
 try go_ret
 rw[z.o];refine⟨.iface (jv_ 110) (.agg #[.int .i64 (i:Int)]),.nilIface,.inr ⟨_,_,rfl⟩,rfl,y.o.2,?_⟩;rw[zct l.o rfl];exact⟨rfl,y.o.1,.base 110 i rfl⟩
theorem ztt {s:BA}{i:Nat}(hs:s.size<=300) (u:i<=s.size) (l:bt s i=116):v3_ s i:=by
 intro w bp et ex h A C;obtain⟨B,z⟩:∃ P,H_ (P=vl_ w bp s i et ex):=⟨_,rfl⟩;rw[<- z.o];have g:=q_ (And.intro h (Fr.refl w (λ x=>x=bp)));replace l:=q_ l;replace A:=q_ A;replace h:=q_ h
 go_in
 go_wp2_with (first
  |(go_at_call 103;refine(yj_ g.o.1).mono ?_;rintro e w' ⟨rfl,r⟩;rw[r])
  |(go_at_call 102;refine(yf_ g.o.1 hs u).mono ?_;rintro e w' ⟨rfl,r⟩;rw[l.o];replace g:=q_ (And.intro (g.o.1.still r) (g.o.2.still r));clear r)
  |(go_at_call 106;refine(yr_ g.o.1 hs u l.o (by decide) (by decide)).mono ?_;rintro e w' ⟨rfl,q,m⟩;have y:=q_ (And.intro m (g.o.2.trans q u_));clear q m)
  |(go_at_call 106;refine(yw_ g.o.1 hs u l.o (by decide) (by decide)).mono ?_;rintro e w' ⟨rfl,q,m⟩;replace g:=q_ (And.intro m (g.o.2.trans q u_));clear q m))
 try go_ret
 rw[z.o];refine⟨.iface (jv_ 116) (.agg #[.int .i64 (i:Int)]),.nilIface,.inr ⟨_,_,rfl⟩,rfl,y.o.2,?_⟩;rw[zct l.o rfl];exact⟨rfl,y.o.1,.base 116 i rfl⟩
theorem ztx {s:BA}{i:Nat}(hs:s.size<=300) (u:i<=s.size) (l:bt s i=105):v3_ s i:=by
 intro w bp et ex h A C;obtain⟨B,z⟩:∃ P,H_ (P=vl_ w bp s i et ex):=⟨_,rfl⟩;rw[<- z.o];have g:=q_ (And.intro h (Fr.refl w (λ x=>x=bp)));replace l:=q_ l;replace A:=q_ A;replace h:=q_ h
 go_in
 go_wp2_with (first
  |(go_at_call 103;refine(yj_ g.o.1).mono ?_;rintro e w' ⟨rfl,r⟩;rw[r])
  |(go_at_call 102;refine(yf_ g.o.1 hs u).mono ?_;rintro e w' ⟨rfl,r⟩;rw[l.o];replace g:=q_ (And.intro (g.o.1.still r) (g.o.2.still r));clear r)
  |(go_at_call 106;refine(yr_ g.o.1 hs u l.o (by decide) (by decide)).mono ?_;rintro e w' ⟨rfl,q,m⟩;have y:=q_ (And.intro m (g.o.2.trans q u_));clear q m)
  |(go_at_call 106;refine(yw_ g.o.1 hs u l.o (by decide) (by decide)).mono ?_;rintro e w' ⟨rfl,q,m⟩;replace g:=q_ (And.intro m (g.o.2.trans q u_));clear q m))
 try go_ret
 rw[z.o];refine⟨.iface (jv_ 105) (.agg #[.int .i64 (i:Int)]),.nilIface,.inr ⟨_,_,rfl⟩,rfl,y.o.2,?_⟩;rw[zct l.o rfl];exact⟨rfl,y.o.1,.base 105 i rfl⟩
theorem ztw {s:BA}{i:Nat}(hs:s.size<=300) (u:i<=s.size) (l:bt s i=108):v3_ s i:=by
 intro w bp et ex h A C;obtain⟨B,z⟩:∃ P,H_ (P=vl_ w bp s i et ex):=⟨_,rfl⟩;rw[<- z.o];have g:=q_ (And.intro h (Fr.refl w (λ x=>x=bp)));replace l:=q_ l;replace A:=q_ A;replace h:=q_ h
 go_in
 go_wp2_with (first
  |(go_at_call 103;refine(yj_ g.o.1).mono ?_;rintro e w' ⟨rfl,r⟩;rw[r])
  |(go_at_call 102;refine(yf_ g.o.1 hs u).mono ?_;rintro e w' ⟨rfl,r⟩;rw[l.o];replace g:=q_ (And.intro (g.o.1.still r) (g.o.2.still r));clear r)
  |(go_at_call 106;refine(yr_ g.o.1 hs u l.o (by decide) (by decide)).mono ?_;rintro e w' ⟨rfl,q,m⟩;have y:=q_ (And.intro m (g.o.2.trans q u_));clear q m)
  |(go_at_call 106;refine(yw_ g.o.1 hs u l.o (by decide) (by decide)).mono ?_;rintro e w' ⟨rfl,q,m⟩;replace g:=q_ (And.intro m (g.o.2.trans q u_));clear q m))
 try go_ret
 rw[z.o];refine⟨.iface (jv_ 108) (.agg #[.int .i64 (i:Int)]),.nilIface,.inr ⟨_,_,rfl⟩,rfl,y.o.2,?_⟩;rw[zct l.o rfl];exact⟨rfl,y.o.1,.base 108 i rfl⟩
theorem ztu {s:BA}{i:Nat}(hs:s.size<=300) (u:i<=s.size) (l:bt s i=115):v3_ s i:=by
 intro w bp et ex h A C;obtain⟨B,z⟩:∃ P,H_ (P=vl_ w bp s i et ex):=⟨_,rfl⟩;rw[<- z.o];have g:=q_ (And.intro h (Fr.refl w (λ x=>x=bp)));replace l:=q_ l;replace A:=q_ A;replace h:=q_ h
 go_in
 go_wp2_with (first
  |(go_at_call 103;refine(yj_ g.o.1).mono ?_;rintro e w' ⟨rfl,r⟩;rw[r])
  |(go_at_call 102;refine(yf_ g.o.1 hs u).mono ?_;rintro e w' ⟨rfl,r⟩;rw[l.o];replace g:=q_ (And.intro (g.o.1.still r) (g.o.2.still r));clear r)
  |(go_at_call 106;refine(yr_ g.o.1 hs u l.o (by decide) (by decide)).mono ?_;rintro e w' ⟨rfl,q,m⟩;have y:=q_ (And.intro m (g.o.2.trans q u_));clear q m)
  |(go_at_call 106;refine(yw_ g.o.1 hs u l.o (by decide) (by decide)).mono ?_;rintro e w' ⟨rfl,q,m⟩;replace g:=q_ (And.intro m (g.o.2.trans q u_));clear q m))
 try go_ret
 rw[z.o];refine⟨.iface (jv_ 115) (.agg #[.int .i64 (i:Int)]),.nilIface,.inr ⟨_,_,rfl⟩,rfl,y.o.2,?_⟩;rw[zct l.o rfl];exact⟨rfl,y.o.1,.base 115 i rfl⟩
open Go.RowKit
theorem zqs {s:BA}{i:Nat}(hs:s.size<=300) (z:i<=s.size) (hn:z5_ (bt s i)=true):v3_ s i:=by
 intro w bp et ex h u E;obtain⟨B,q⟩:∃ P,H_ (P=vl_ w bp s i et ex):=⟨_,rfl⟩;rw[<- q.o];have g:=q_ (And.intro h (Fr.refl w (λ x=>x=bp)));have A:=q_ (show pT s i=.ok (.leaf (bt s i) i,i+1) from zlu (by simpa[z5_] using hn));obtain⟨x,m⟩:∃ x,bt s i=x:=⟨_,rfl⟩;rw[m] at hn A
 have F:65<=x/\x<=70:=by simpa[z5_] using hn
 have D:i<s.size:=zj_ (by omega);replace m:=q_ m;replace u:=q_ u;replace h:=q_ h;replace hn:=q_ hn
 go_in
 go_wp2_with (first
  |(go_at_call 103;refine(yj_ g.o.1).mono ?_;rintro e w' ⟨rfl,l⟩;rw[l])
  |(go_at_call 102;refine(yf_ g.o.1 hs z).mono ?_;rintro e w' ⟨rfl,l⟩;rw[m.o];replace g:=q_ (And.intro (g.o.1.still l) (g.o.2.still l));clear l)
  |(go_at_call 106;refine(yw_ g.o.1 hs z m.o (by omega) (by decide)).mono ?_;rintro e w' ⟨rfl,y,r⟩;replace g:=q_ (And.intro r (g.o.2.trans y u_));clear y r)
  |(go_at_call 101;refine(zb8 x _).mono ?_;rintro e w' ⟨rfl,l⟩;rw[l,hn.o];clear l;have c1:=g.o.1.c1;have C:=g.o.1.thaw 1))
 try go_ret
 rw[q.o];refine⟨.iface 209 (.agg #[.int .i64 (i:Int),.int .u8 (x:Int)]),.nilIface,.inr ⟨_,_,rfl⟩,rfl,g.o.2.setCell _ _ (λ _=>rfl),?_⟩;rw[A.o];exact⟨rfl,g.o.1.inc,.name x i hn.o⟩
open Go.RowKit
theorem zm8 {s:BA}{i:Nat}(hs:s.size<=300) (B:i<=s.size) (h1:¬ yc_ (bt s i)=true) (u:¬ (bt s i=91\/bt s i=123)) (y:¬ bt s i=40) (q:¬ (65<=bt s i/\bt s i<=70)):v3_ s i:=by
 intro w bp et ex h A F;obtain⟨I,C⟩:∃ P,H_ (P=vl_ w bp s i et ex):=⟨_,rfl⟩;rw[<- C.o];have g:=q_ (And.intro h (Fr.refl w (λ x=>x=bp)));have G:=q_ (zvf h1 u y q);obtain⟨x,m⟩:∃ x,bt s i=x:=⟨_,rfl⟩;rw[m] at h1 u y q
 have hn:H_ (z5_ x=false):=q_ (by
  cases hc:z5_ x with
  | false=>rfl
  | true=>exact absurd (by simpa[z5_] using hc) q)
 simp only[yc_,ax_,beq_iff_eq,not_or] at h1
 have J:x≠110/\x≠116/\x≠105/\x≠108/\x≠115/\x≠91/\x≠123/\x≠40:=by omega
 clear h1 u y q;replace m:=q_ m;replace A:=q_ A;replace h:=q_ h
 go_in
 go_wp2_with (first
  |(go_at_call 103;refine(yj_ g.o.1).mono ?_;rintro e w' ⟨rfl,l⟩;rw[l])
  |(go_at_call 102;refine(yf_ g.o.1 hs B).mono ?_;rintro e w' ⟨rfl,l⟩;rw[m.o];replace g:=q_ (And.intro (g.o.1.still l) (g.o.2.still l));clear l)
  |(go_at_call 106;refine(yw_ g.o.1 hs B m.o (by omega) (by decide)).mono ?_;rintro e w' ⟨rfl,E,D⟩;replace g:=q_ (And.intro D (g.o.2.trans E u_));clear E D)
  |(go_at_call 101;refine(zb8 x _).mono ?_;rintro e w' ⟨rfl,l⟩;rw[l,hn.o];clear l)
  |(go_at_call 75;refine(x3_ g.o.1 (A.o.fr g.o.2 (Ne.symm F))).mono ?_;rintro e K ⟨v,rfl,z,r⟩;replace z:=q_ z;replace r:=q_ r))
 try go_ret
 rw[C.o];have H:=g.o.2.size;refine⟨.nilIface,v,.inl rfl,rfl,g.o.2.trans r.o v_,?_⟩;rw[G.o];exact⟨z.o.less H,i,B,r.o.blk g.o.1 id⟩
def zlc (w:World) (bp:Nat) (s:BA) (i d:Nat) (et:TypeId) (ex:Value) (e:Ending) (w':World):Prop:=
 ∃ v ev,IfV v/\e=.returned (.tuple #[v,ev])/\Fr w w' (· = bp)/\
 match pT s i with
 | .ok (t,j)=>if bt s j=d then ev=.nilIface/\PAt w' bp s (j+1)/\TyV w' (λ g=>w.heap.size<=g) t v else yd_ w' w.heap.size ev (j:Int) (.iface et ex)/\∃ j,j<=s.size/\PAt w' bp s j
 | .error k=>yd_ w' w.heap.size ev (k:Int) (.iface et ex)/\∃ j,j<=s.size/\PAt w' bp s j
theorem zji {w:World}{bp:Nat}{s:BA}{i:Nat}(d:Nat) (K:v3_ s i) (h:PAt w bp s i) (q:Gram w et ex) (E:bp≠0) (hs:s.size<=300) (O:i<=s.size) (hd:c=(d:Int)) (M:0<d) :
 Calls prog 107 #[.pointer (some ⟨bp,0,none⟩),.int .u8 c] w (zlc w bp s i d et ex):=by
 subst hd;obtain⟨Z,y⟩:∃ P,H_ (P=zlc w bp s i d et ex):=⟨_,rfl⟩;rw[<- y.o];have G:=q_ (K w bp et ex h q E);have C:=xz_ (s:=s) O
 cases m:pT s i with
 | error k=>
  replace m:=q_ m;replace q:=q_ q;clear C h
  go_in
  go_wp2_with (go_at_call 74;refine G.o.mono ?_;rintro e w1 ⟨v,I,_,rfl,l,u⟩;rw[m.o] at u;obtain⟨⟨g,N,rfl,D⟩,V,R,h1⟩:=u;replace l:=q_ l;replace h1:=q_ h1;replace D:=q_ D)
  try go_ret
  rw[y.o];refine⟨.nilIface,_,.inl rfl,rfl,l.o,?_⟩;rw[m.o];exact⟨⟨g,N,rfl,D.o⟩,V,R,h1.o⟩
 | ok r=>
  obtain⟨t,j⟩:=r;have H:=C.1 t j m;have a0:=h.lt;replace m:=q_ m;replace q:=q_ q;clear C h
  go_in
  go_wp2_with (first
   |(go_at_call 74;refine G.o.mono ?_;rintro e w1 ⟨v,I,B,rfl,l,u⟩;rw[m.o] at u;obtain⟨rfl,h1,F⟩:=u;replace B:=q_ B;replace l:=q_ l;replace h1:=q_ h1;replace F:=q_ F)
   |(go_at_call 105;refine(y1_ d h1.o (q.o.fr l.o (Ne.symm E)) E hs H.2 rfl M).mono ?_;rintro e w2 ⟨Y,rfl,x,A⟩;replace x:=q_ x;replace A:=q_ A))
  try go_ret
  rw[y.o];have U:=l.o.size;refine⟨v,Y,B.o,rfl,l.o.trans x.o u_,?_⟩;rw[m.o]
  rcases A.o with⟨hb,rfl,z,_⟩|⟨hb,J,z⟩
  ·show(if bt s j=d then _ else _);rw[if_pos hb];exact⟨rfl,z,F.o.fr x.o (λ g hg e=>by omega)⟩
  ·show(if bt s j=d then _ else _);rw[if_neg hb];exact⟨J.less U,j,H.2,z⟩
theorem zwb {s:BA}{i:Nat}(hs:s.size<=300) (E:i<=s.size) (q:bt s i=91) (C:v3_ s (i+1)):v3_ s i:=by
 intro w bp et ex h B I;obtain⟨V,H⟩:∃ P,H_ (P=vl_ w bp s i et ex):=⟨_,rfl⟩;rw[<- H.o];have l:=q_ (And.intro h (Fr.refl w (λ x=>x=bp)));have O:i<s.size:=zj_ (by omega);have R:=q_ (zlt (s:=s) (i:=i) (by omega));have Y:=h.lt;replace q:=q_ q;replace B:=q_ B;replace h:=q_ h;replace C:=q_ C
 go_in
 go_wp2_with (first
  |(go_at_call 103;refine(yj_ l.o.1).mono ?_;rintro e w' ⟨rfl,z⟩;rw[z])
  |(go_at_call 102;refine(yf_ l.o.1 hs E).mono ?_;rintro e w' ⟨rfl,z⟩;rw[q.o];replace l:=q_ (And.intro (l.o.1.still z) (l.o.2.still z));clear z)
  |(go_at_call 106;refine(yr_ l.o.1 hs E q.o (by decide) (by decide)).mono ?_;rintro e w' ⟨rfl,y,u⟩;have A:=q_ (And.intro u (l.o.2.trans y u_));clear y u)
  |(go_at_call 106;refine(yw_ l.o.1 hs E q.o (by decide) (by decide)).mono ?_;rintro e w' ⟨rfl,y,u⟩;replace l:=q_ (And.intro u (l.o.2.trans y u_));clear y u)
  |(go_at_call 107;refine(zji 93 C.o A.o.1 (B.o.fr A.o.2 (Ne.symm I)) I hs O rfl (by decide)).mono ?_;rintro e w3 ⟨v,K,N,rfl,D,F⟩;replace D:=q_ D;replace F:=q_ F;rcases N with rfl|⟨Z,vx,rfl⟩))
 all_goals
  try go_ret
  rw[H.o];have G:=A.o.2.size;refine⟨.iface (zb3 91) (.agg #[.int .i64 (i:Int),_]),K,.inr ⟨_,_,rfl⟩,rfl,A.o.2.trans D.o u_,?_⟩;rw[R.o];have m:=F.o
  cases J:pT s (i+1) with
  | error k=>
   rw[J] at m;exact⟨m.1.less G,m.2⟩
  | ok r=>
   obtain⟨t,j⟩:=r;rw[J] at m;simp only at m⊢;rw[q.o]
   by_cases hb:bt s j=93
   ·rw[if_pos hb] at m;rw[show xq_ 91=93 from rfl,if_pos hb];obtain⟨rfl,M,U⟩:=m;exact⟨rfl,M,.wrap 91 i (U.mono (λ g _ hg=>ai_ G hg))⟩
   ·rw[if_neg hb] at m;rw[show xq_ 91=93 from rfl,if_neg hb];exact⟨m.1.less G,m.2⟩
theorem zts {s:BA}{i:Nat}(hs:s.size<=300) (E:i<=s.size) (q:bt s i=123) (C:v3_ s (i+1)):v3_ s i:=by
 intro w bp et ex h B I;obtain⟨V,H⟩:∃ P,H_ (P=vl_ w bp s i et ex):=⟨_,rfl⟩;rw[<- H.o];have l:=q_ (And.intro h (Fr.refl w (λ x=>x=bp)));have O:i<s.size:=zj_ (by omega);have R:=q_ (zlt (s:=s) (i:=i) (by omega));have Y:=h.lt;replace q:=q_ q;replace B:=q_ B;replace h:=q_ h;replace C:=q_ C
 go_in
 go_wp2_with (first
  |(go_at_call 103;refine(yj_ l.o.1).mono ?_;rintro e w' ⟨rfl,z⟩;rw[z])
  |(go_at_call 102;refine(yf_ l.o.1 hs E).mono ?_;rintro e w' ⟨rfl,z⟩;rw[q.o];replace l:=q_ (And.intro (l.o.1.still z) (l.o.2.still z));clear z)
  |(go_at_call 106;refine(yr_ l.o.1 hs E q.o (by decide) (by decide)).mono ?_;rintro e w' ⟨rfl,y,u⟩;have A:=q_ (And.intro u (l.o.2.trans y u_));clear y u)
  |(go_at_call 106;refine(yw_ l.o.1 hs E q.o (by decide) (by decide)).mono ?_;rintro e w' ⟨rfl,y,u⟩;replace l:=q_ (And.intro u (l.o.2.trans y u_));clear y u)
  |(go_at_call 107;refine(zji 125 C.o A.o.1 (B.o.fr A.o.2 (Ne.symm I)) I hs O rfl (by decide)).mono ?_;rintro e w3 ⟨v,K,N,rfl,D,F⟩;replace D:=q_ D;replace F:=q_ F;rcases N with rfl|⟨Z,vx,rfl⟩))
 all_goals
  try go_ret
  rw[H.o];have G:=A.o.2.size;refine⟨.iface (zb3 123) (.agg #[.int .i64 (i:Int),_]),K,.inr ⟨_,_,rfl⟩,rfl,A.o.2.trans D.o u_,?_⟩;rw[R.o];have m:=F.o
  cases J:pT s (i+1) with
  | error k=>
   rw[J] at m;exact⟨m.1.less G,m.2⟩
  | ok r=>
   obtain⟨t,j⟩:=r;rw[J] at m;simp only at m⊢;rw[q.o]
   by_cases hb:bt s j=125
   ·rw[if_pos hb] at m;rw[show xq_ 123=125 from rfl,if_pos hb];obtain⟨rfl,M,U⟩:=m;exact⟨rfl,M,.wrap 123 i (U.mono (λ g _ hg=>ai_ G hg))⟩
   ·rw[if_neg hb] at m;rw[show xq_ 123=125 from rfl,if_neg hb];exact⟨m.1.less G,m.2⟩
open Go.RowKit
structure UM (w:World) (bp:Nat) (s:BA) (j:Nat) (p:Int) (sv:Value) (ds:List PT) (X:Nat->Value) (W:World):Prop where
 here:PAt W bp s j
 fr:Fr w W (· = bp)
 lt:bp<w.heap.size
 hB:w.heap.size+1<=W.heap.size
 b:Blk W w.heap.size [.int .i64 p,sv] 220
 row:W.ownsRow (w.heap.size+1) 83 1 sv ds.length ((List.range ds.length).map X)
 ty:∀ i t,ds[i]?=some t->TyV W (λ g=>w.heap.size+1<=g/\sv.ownBlock≠some g) t (X i)
section
variable {w W W':World} {bp:Nat} {s:BA} {j j':Nat} {p:Int} {sv:Value} {ds:List PT} {X:Nat->Value}
theorem UM.call (M:UM w bp s j p sv ds X W) (h:PAt W' bp s j') (l:Fr W W' (· = bp)):UM w bp s j' p sv ds X W':=by
 have:=M.lt;exact⟨h,M.fr.trans l u_,M.lt,ai_ M.hB l.size,l.blk M.b (by omega),za_ M.row l (λ g hg e=>by have:=M.row.lt g hg;omega),λ i t e=>(M.ty i t e).fr l (λ g hg e=>by omega)⟩
theorem UM.item (M:UM w bp s j p sv ds X W){o:Obj}{m:Value}(hg:(W.alloc o).grownBy w5 sv.ownBlock) (ho:w5.ownsRow (w.heap.size+1) 83 1 m (ds.length+1) ((List.range ds.length).map X++[v]))
 (hl:m.ownBlock=sv.ownBlock\/m.ownBlock=some (W.alloc o).heap.size) (F:TyV W (λ g=>w.heap.size+1<=g/\sv.ownBlock≠some g) t v) :
 UM w bp s j p m (ds++[t]) (λ i=>if i<ds.length then X i else v) (w5.setCell ⟨w.heap.size,1,none⟩ m):=by
 have G:=M.lt;have E:=M.hB;have z:Fr W w5 (λ g=>sv.ownBlock=some g):=Fr.grown ((Fr.refl W _).alloc o) hg (λ k e _=>e)
 have hn:∀ g,m.ownBlock=some g->w.heap.size+1<=g/\(sv.ownBlock=some g\/W.heap.size<=g):=λ g l=>by
  rcases hl with e|e
  ·exact⟨(M.row.lt g (e▸l)).1,.inl (e▸l)⟩
  ·rw[e] at l;simp only[ag_] at l
   have:(W.alloc o).heap.size=W.heap.size+1:=by simp
   exact⟨by omega,.inr (by omega)⟩
 have A:Fr w5 (w5.setCell ⟨w.heap.size,1,none⟩ m) (λ g=>g=w.heap.size):=(Fr.refl w5 (λ g=>g=w.heap.size)).setCell ⟨w.heap.size,1,none⟩ m (λ _=>rfl);have y:Fr W (w5.setCell ⟨w.heap.size,1,none⟩ m) (λ g=>sv.ownBlock=some g\/g=w.heap.size):=(z.mono (λ _ _ e=>.inl e)).trans A (λ _ _ e=>.inr e);have C:=z.blk M.b (λ e=>by have:=M.row.lt _ e;omega)
 have keep:∀ {u x},TyV W (λ g=>w.heap.size+1<=g/\sv.ownBlock≠some g) u x->TyV (w5.setCell ⟨w.heap.size,1,none⟩ m) (λ g=>w.heap.size+1<=g/\m.ownBlock≠some g) u x:=λ B=>
  ((B.mono (Q:=λ g=>(w.heap.size+1<=g/\sv.ownBlock≠some g)/\g<W.heap.size) (λ _ h1 D=>⟨D,h1⟩)).fr y (λ g l e=>by
    rcases e with e|e
    ·exact l.1.2 e
    ·have:=l.1.1;omega)).mono (λ g _ l=>⟨l.1.1,λ e=>by
    rcases(hn g e).2 with q|q
    ·exact l.1.2 q
    ·have:=l.2;omega⟩)
 refine⟨y.blk M.here (λ e=>?_),M.fr.trans y (λ x B e=>?_),M.lt,ai_ E y.size,C.set 1 m,?_,λ i u hu=>?_⟩
 ·rcases e with e|e
  ·have:=M.row.lt _ e;omega
  ·omega
 ·rcases e with e|e
  ·have:=M.row.lt _ e;omega
  ·omega
 ·rw[ah_,am_,bh_,be_,ay_,a6_,if_neg (Nat.lt_irrefl _)];have e:(List.range ds.length).map (λ i=>if i<ds.length then X i else v)=(List.range ds.length).map X:=List.map_congr_left (λ i r=>by rw[if_pos (List.mem_range.1 r)]);rw[e];exact za_ ho A (λ g l e=>by have:=hn g l;omega)
 ·by_cases r:i<ds.length
  ·rw[au_ r] at hu;simp only[r,if_true];exact keep (M.ty i u hu)
  ·rw[ar_ (by omega)] at hu
   have h0:i-ds.length=0:=by
    rcases bx_ (i-ds.length) with h|h
    ·exact h
    ·rw[bn_ (by simp;omega)] at hu;cases hu
   rw[h0] at hu;simp only[aa_,ag_] at hu;subst hu;simp only[r,if_false];exact keep F
theorem UM.itemCell (M:UM w bp s j p sv ds X W){o:Obj}(hg:(W.alloc o).grownBy w5 sv.ownBlock):w5.cell? ⟨w.heap.size,1,none⟩=some sv/\w5.frozen? ⟨w.heap.size,1,none⟩=false:=by
 have l:Fr W w5 (λ g=>sv.ownBlock=some g):=Fr.grown ((Fr.refl W _).alloc o) hg (λ k e _=>e);have h:=l.blk M.b (λ e=>by have:=M.row.lt _ e;omega);exact⟨h.cell 1,h.thaw 1⟩
theorem UM.alts (M:UM w bp s j p sv ds X W) (i:Nat) (h:p=(i:Int)):TyV W (λ g=>w.heap.size<=g) (.alts i ds) (.iface 220 (.agg #[.int .i64 p,sv])):=by
 subst h;exact .alts i X (yq_ M.row) (λ g e=>by have:=M.row.lt g e;omega) (λ k t e=>(M.ty k t e).mono (λ g _ hg=>by have:=hg.1;omega))
end
theorem zyd:Tryz.prog.underlying 218=some (.slice 83):=by kernel_rfl
theorem zz5:(Tryz.prog.info? 83).map (λ i=>(i.zero,i.size,i.bytes))=some (some .nilIface,1,16):=by kernel_rfl
open Go.RowKit
def zvn (w:World) (bp:Nat) (s:BA) (i p:Nat) (et:TypeId) (ex:Value) (e:Ending) (w':World):Prop:=
 ∃ v ev,IfV v/\e=.returned (.tuple #[v,ev])/\Fr w w' (· = bp)/\
 match pA s i with
 | .ok (ts,j)=>if bt s j=41 then ev=.nilIface/\PAt w' bp s (j+1)/\TyV w' (λ g=>w.heap.size<=g) (.alts p ts) v else yd_ w' w.heap.size ev (j:Int) (.iface et ex)/\∃ j,j<=s.size/\PAt w' bp s j
 | .error k=>yd_ w' w.heap.size ev (k:Int) (.iface et ex)/\∃ j,j<=s.size/\PAt w' bp s j
def UInv (w:World) (bp:Nat) (s:BA) (i:Nat) (p:Int) (m:Nat) (W:World):Prop:=
 ∃ j sv ds X,UM w bp s j p sv ds X W/\j<=s.size/\i+ds.length<=j/\s.size+1-j<=m/\pA s i=zir ds (pA s j)
theorem ztf {w:World}{bp:Nat}{s:BA}{i:Nat}{p:Int}(h:PAt w bp s i):UM w bp s i p (.slice none 0 0) [] (λ _=>.nilIface) (w.alloc (.cells #[.int .i64 p,.slice none 0 0] 220)):=
 ⟨h.alloc _,(Fr.refl w _).alloc _,h.lt,by simp,Blk.new w _ _,World.ownsRow_nil _ _ _ _,λ i t h=>by simp at h⟩
theorem zof {w:World}{bp:Nat}{s:BA}{i p:Nat}(hT:∀ j,i<=j->j<=s.size->v3_ s j) (h:PAt w bp s i) (V:Gram w et ex) (a3:bp≠0) (hs:s.size<=300) (hi:i<=s.size) :
 Calls prog 108 #[.pointer (some ⟨bp,0,none⟩),.int .i64 (p:Int)] w (zvn w bp s i p et ex):=by
 obtain⟨e0,Q_⟩:∃ P,H_ (P=zvn w bp s i p et ex):=⟨_,rfl⟩;rw[<- Q_.o];have e2:=h.lt;have b8:=q_ (show UInv w bp s i (p:Int) (s.size+1) (w.alloc (.cells #[.int .i64 (p:Int),.slice none 0 0] 220)) from⟨i,_,[],_,ztf h,hi,by simp,by omega,(zk5 _).symm⟩);have e4:=World.block_lt_of_cell? w ⟨0,0,none⟩ V;replace V:=q_ V;replace hT:=q_ hT;clear h
 go_in
 go_wp2_with fail
 go_loopg [] (s.size+1) (λ m W=>UInv w bp s i (p:Int) m W)
 case atStart=>exact b8.o
 case round=>
  clear b8;obtain⟨j,sv,ds,X,M,hj,e6,u,q⟩:=hrel;obtain⟨sa,sc,rfl⟩:=zo_ M.row
  have e3:ds.length<=300:=by omega
  have hC:=q_ (hT.o j (by omega) hj wr bp et ex M.here (V.o.fr M.fr (Ne.symm a3)) a3);have d9:=M.fr.size;have e1:=M.hB;have a4:=xz_ (s:=s) hj;rw[zl3 s j hj] at q
  cases y:pT s j with
  | error k=>
   rw[y] at q;replace q:=q_ q;replace y:=q_ y;replace M:=q_ M;clear a4
   go_wp2_with (go_at_call 74;refine hC.o.mono ?_;rintro e w1 ⟨v,ev,_,rfl,B,u⟩;rw[y.o] at u;obtain⟨⟨g,d2,rfl,a5⟩,j1,d6,h1⟩:=u;replace B:=q_ B;replace h1:=q_ h1;replace a5:=q_ a5)
   try go_ret
   rw[Q_.o];refine⟨.nilIface,_,.inl rfl,rfl,M.o.fr.trans B.o u_,?_⟩;rw[q.o];exact⟨⟨g,ai_ d9 d2,rfl,a5.o⟩,j1,d6,h1.o⟩
  | ok r=>
   obtain⟨t,z⟩:=r;have Z:=a4.1 t z y;rw[y] at q;simp only at q;obtain⟨ti,a9,b4,b5,b6⟩:=info_parts zz5;replace y:=q_ y;replace M:=q_ M;clear a4
   by_cases N:bt s z=44
   ·rw[if_pos N,zgf] at q;replace q:=q_ q;have d7:z<s.size:=zj_ (by omega);replace N:=q_ N
    go_wp2_with (first
     |(go_at_call 74;refine hC.o.mono ?_;rintro e w1 ⟨v,ev,_,rfl,B,u⟩;rw[y.o] at u;obtain⟨rfl,h1,I⟩:=u;obtain⟨O,R,rfl⟩:∃ T x,v=.iface T x:=(by cases I<;>exact⟨_,_,rfl⟩);have l:=M.o.call h1 B;have a7:=q_ (I.mono (Q:=λ g=>w.heap.size+1<=g/\(Value.slice sa ds.length sc).ownBlock≠some g) (λ g _ hg=>⟨by omega,λ e=>by have:=M.o.row.lt g e;omega⟩));have t1:=l.b.c1;have d1:=l.hB;replace l:=q_ l;clear B h1 I)
     |(at_builtin;go_must (refine wpList_append_own_at _ rfl _ _ 218 rfl (w.heap.size+1) 83 ti _ 1 16 zyd a9 b4 b5 b6 rfl (by decide) (.slice sa ds.length sc) ds.length ((List.range ds.length).map X) rfl ?hown _ 1 1 [.iface O R] rfl rfl (z7_ _ #[.iface O R] _ _ ?nn) ?one ?b1 ?b2 ?b3 ?_)
       case hown=>exact World.ownsRow.alloc l.o.row _
       case nn=>simp
       case one=>simp[Value.oneCell']
       case b1=>unfold maxLen;omega
       case b2=>omega
       case b3=>simp;omega
       intro v5 w5 H G a6 a0
       have A:=l.o.item G H a0 a7.o
       obtain⟨e5,f5⟩:=l.o.itemCell G
       obtain⟨g5,a1,rfl⟩:=zh_ H (by omega)
       clear G a0 a6 H
       replace A:=q_ A)
     |(go_at_call 106;refine(yr_ A.o.here hs Z.2 N.o (by decide) (by decide)).mono ?_;rintro e w6 ⟨rfl,Y,U⟩;have J:=q_ (A.o.call U Y);clear Y U))
    go_roundg (s.size+1-(z+1))
    case measure=>omega
    case rel=>exact⟨z+1,_,ds++[t],_,J.o,d7,by rw[ah_,am_];omega,l_,q.o⟩
   ·rw[if_neg N] at q;obtain⟨b9,hy⟩:∃ b9,bt s z=b9:=⟨_,rfl⟩;rw[hy] at N;replace hy:=q_ hy;replace q:=q_ q
    go_wp2_with (first
     |(go_at_call 74;refine hC.o.mono ?_;rintro e w1 ⟨v,ev,_,rfl,B,u⟩;rw[y.o] at u;obtain⟨rfl,h1,I⟩:=u;obtain⟨O,R,rfl⟩:∃ T x,v=.iface T x:=(by cases I<;>exact⟨_,_,rfl⟩);have l:=M.o.call h1 B;have a7:=q_ (I.mono (Q:=λ g=>w.heap.size+1<=g/\(Value.slice sa ds.length sc).ownBlock≠some g) (λ g _ hg=>⟨by omega,λ e=>by have:=M.o.row.lt g e;omega⟩));have t1:=l.b.c1;have d1:=l.hB;replace l:=q_ l;clear B h1 I)
     |(at_builtin;go_must (refine wpList_append_own_at _ rfl _ _ 218 rfl (w.heap.size+1) 83 ti _ 1 16 zyd a9 b4 b5 b6 rfl (by decide) (.slice sa ds.length sc) ds.length ((List.range ds.length).map X) rfl ?hown _ 1 1 [.iface O R] rfl rfl (z7_ _ #[.iface O R] _ _ ?nn) ?one ?b1 ?b2 ?b3 ?_)
       case hown=>exact World.ownsRow.alloc l.o.row _
       case nn=>simp
       case one=>simp[Value.oneCell']
       case b1=>unfold maxLen;omega
       case b2=>omega
       case b3=>simp;omega
       intro v5 w5 H G a6 a0
       have A:=l.o.item G H a0 a7.o
       obtain⟨e5,f5⟩:=l.o.itemCell G
       obtain⟨g5,a1,rfl⟩:=zh_ H (by omega)
       clear G a0 a6 H
       replace A:=q_ A)
     |(go_at_call 106;refine(yw_ A.o.here hs Z.2 hy.o (by omega) (by decide)).mono ?_;rintro e w6 ⟨rfl,Y,U⟩;have J:=q_ (A.o.call U Y);clear Y U))
    have u0:=J.o.b.c0;have u1:=J.o.b.c1;have a8:zd_ w6 w6.drew:=zd_.drew w6;have E:=J.o.call (J.o.here.still a8) ((Fr.refl w6 _).still a8);have d0:=q_ (y1_ (c:=41) 41 E.here (V.o.fr E.fr (Ne.symm a3)) a3 hs Z.2 rfl (by decide));replace E:=q_ E;refine zx_ 5 (λ W=>W.cell? ⟨w.heap.size,0,none⟩=some (.int .i64 (p:Int))/\W.cell? ⟨w.heap.size,1,none⟩=some (.slice (some ⟨g5,0,none⟩) (ds.length+1) a1)) (by kernel_rfl) ?_;refine ta_ 0 rfl (by kernel_rfl) (λ _ _ _ h=>h) (by rintro W ⟨h1,h2⟩;go_simp<;>rfl) ?_;refine ta_ 1 rfl (by kernel_rfl) (λ _ _ _ h=>h) (by rintro W ⟨h1,h2⟩;go_simp<;>rfl) ?_;refine ta_ 2 rfl (by kernel_rfl) (λ _ _ _ h=>h) (by rintro W ⟨h1,h2⟩;go_simp<;>rfl) ?_;refine ze_ 3 rfl (by kernel_rfl) (λ _=>⟨u0,u1⟩) (λ K D=>?_);go_simp;refine d0.o.mono ?_;rintro e w8 ⟨v8,rfl,a2,hE⟩;refine D _ _ ?_;clear D K
    have C:∃ j8,j8<=s.size/\UM w bp s j8 (p:Int) (.slice (some ⟨g5,0,none⟩) (ds.length+1) a1) (ds++[t]) (λ i=>if i<ds.length then X i else .iface O R) w8:=by
     rcases hE with⟨_,_,F,b7⟩|⟨_,_,F⟩
     ·exact⟨z+1,b7,E.o.call F a2⟩
     ·exact⟨z,Z.2,E.o.call F a2⟩
    obtain⟨j8,e7,C⟩:=C;have x0:=C.b.c0;have x1:=C.b.c1;refine ze_ 4 rfl (by kernel_rfl) (λ _=>⟨x0,x1⟩) (λ K D=>?_);go_simp;refine D _ _ ?_;clear D K;refine ze_ 5 rfl (by kernel_rfl) (λ _=>⟨x0,x1⟩) (λ K D=>?_);go_simp;refine D _ _ ?_;clear D K;refine zq_ (by kernel_rfl) (λ u=>absurd u (by decide)) ?_ _;replace C:=q_ C;replace hE:=q_ hE;replace a2:=q_ a2;clear x0 x1 u0 u1
    go_wp2_with fail
    try go_ret
    rw[Q_.o];refine⟨.iface 220 (.agg #[.int .i64 (p:Int),(.slice (some ⟨g5,0,none⟩) (ds.length+1) a1)]),v8,.inr ⟨_,_,rfl⟩,rfl,C.o.fr,?_⟩;rw[q.o];show(if bt s z=41 then _ else _);have d8:=E.o.fr.size
    rcases hE.o with⟨hb,rfl,F,b7⟩|⟨hb,hF,F⟩
    ·rw[if_pos hb];exact⟨rfl,F,C.o.alts p rfl⟩
    ·rw[if_neg hb];exact⟨hF.less d8,z,Z.2,F⟩
open Go.RowKit
theorem zwc {s:BA}{i:Nat}(hs:s.size<=300) (H:i<=s.size) (u:bt s i=40) (F:∀ j,i<j->j<=s.size->v3_ s j):v3_ s i:=by
 intro w bp et ex h D M;obtain⟨Y,K⟩:∃ P,H_ (P=vl_ w bp s i et ex):=⟨_,rfl⟩;rw[<- K.o];have m:=q_ (And.intro h (Fr.refl w (λ x=>x=bp)));have R:i<s.size:=zj_ (by omega);have U:=q_ (zqw (s:=s) (i:=i) u);replace u:=q_ u;replace D:=q_ D;replace h:=q_ h;replace F:=q_ F
 go_in
 go_wp2_with (first
  |(go_at_call 103;refine(yj_ m.o.1).mono ?_;rintro e w' ⟨rfl,A⟩;rw[A])
  |(go_at_call 102;refine(yf_ m.o.1 hs H).mono ?_;rintro e w' ⟨rfl,A⟩;rw[u.o];replace m:=q_ (And.intro (m.o.1.still A) (m.o.2.still A));clear A)
  |(go_at_call 106;refine(yr_ m.o.1 hs H u.o (by decide) (by decide)).mono ?_;rintro e w' ⟨rfl,z,y⟩;have B:=q_ (And.intro y (m.o.2.trans z u_));clear z y)
  |(go_at_call 106;refine(yw_ m.o.1 hs H u.o (by decide) (by decide)).mono ?_;rintro e w' ⟨rfl,z,y⟩;replace m:=q_ (And.intro y (m.o.2.trans z u_));clear z y)
  |(go_at_call 108;refine(zof (p:=i) (λ j h1 C=>F.o j (by omega) C) B.o.1 (D.o.fr B.o.2 (Ne.symm M)) M hs R).mono ?_;rintro e Z ⟨v,O,E,rfl,G,I⟩;replace G:=q_ G;replace I:=q_ I;replace E:=q_ E))
 try go_ret
 rw[K.o];have J:=B.o.2.size;refine⟨v,O,E.o,rfl,B.o.2.trans G.o u_,?_⟩;rw[U.o];have q:=I.o
 cases N:pA s (i+1) with
 | error k=>
  rw[N] at q;exact⟨q.1.less J,q.2⟩
 | ok r=>
  obtain⟨l,j⟩:=r;rw[N] at q;simp only at q⊢
  by_cases hb:bt s j=41
  ·rw[if_pos hb] at q⊢;obtain⟨rfl,C,V⟩:=q;exact⟨rfl,C,V.mono (λ g _ hg=>ai_ J hg)⟩
  ·rw[if_neg hb] at q⊢;exact⟨q.1.less J,q.2⟩
theorem zb6 {s:BA}(hs:s.size<=300):∀ (n i:Nat),s.size-i<=n->i<=s.size->v3_ s i:=by
 intro n
 induction n with
 | zero=>
  intro i hn e;have h0:bt s i=0:=zf5 (by omega);exact zm8 hs e (by rw[h0];decide) (by rw[h0];decide) (by rw[h0];decide) (by rw[h0];decide)
 | succ n ih=>
  intro i hn e;have next:i<s.size->∀ j,i<j->j<=s.size->v3_ s j:=λ _ j h1 g=>ih j (by omega) g
  by_cases h1:yc_ (bt s i)=true
  ·have m:=h1;simp only[yc_,ax_,beq_iff_eq] at m
   rcases m with(((h|h)|h)|h)|h
   ·exact ztv hs e h
   ·exact ztt hs e h
   ·exact ztx hs e h
   ·exact ztw hs e h
   ·exact ztu hs e h
  ·by_cases g:bt s i=91\/bt s i=123
   ·have l:i<s.size:=zj_ (by omega)
    rcases g with g|g
    ·exact zwb hs e g (next l (i+1) (by omega) l)
    ·exact zts hs e g (next l (i+1) (by omega) l)
   ·by_cases q:bt s i=40
    ·exact zwc hs e q (next (zj_ (by omega)))
    ·by_cases r:65<=bt s i/\bt s i<=70
     ·exact zqs hs e (by simp[z5_];omega)
     ·exact zm8 hs e h1 g q r
open Go.RowKit
def ziw (w:World) (bp:Nat) (s:BA) (i:Nat) (et:TypeId) (ex:Value) (e:Ending) (w':World):Prop:=
 ∃ (a:Int) (b:Int) (ev:Value),e=.returned (.tuple #[.agg #[.int .i64 a,.int .u8 b],ev])/\Fr w w' (· = bp)/\
  ((zi_ (bt s i)=true/\a=(i:Int)/\b=(bt s i:Int)/\ev=.nilIface/\PAt w' bp s (i+1)/\i<s.size)\/(zi_ (bt s i)=false/\yd_ w' w.heap.size ev (i:Int) (.iface et ex)/\PAt w' bp s i))
theorem xy_ {w:World}{bp:Nat}{s:BA}{i:Nat}(h:PAt w bp s i) (M:Gram w et ex) (a0:bp≠0) (hs:s.size<=300) (V:i<=s.size) :
 Calls prog 162 #[.pointer (some ⟨bp,0,none⟩)] w (ziw w bp s i et ex):=by
 obtain⟨a3,K⟩:∃ P,H_ (P=ziw w bp s i et ex):=⟨_,rfl⟩;rw[<- K.o];have a4:=h.lt;have h0:=q_ (show PAt (w.alloc (.cells #[.int .i64 0,.int .u8 0] 146)) bp s i from Blk.alloc h _);have I:=q_ (show Fr w (w.alloc (.cells #[.int .i64 0,.int .u8 0] 146)) (λ x=>x=bp) from(Fr.refl w _).alloc _);have O:=q_ (Blk.new w #[.int .i64 0,.int .u8 0] 146);obtain⟨x,u⟩:∃ x,bt s i=x:=⟨_,rfl⟩;replace M:=q_ M;replace h:=q_ h
 cases B:zi_ x with
 | true=>
  have N:97<=x/\x<=122:=by simpa[zi_] using B
  have a2:i<s.size:=zj_ (by omega)
  have n1:¬ ((x:Int)<97):=by omega
  have n2:¬ ((122:Int)<(x:Int)):=by omega
  replace u:=q_ u;replace B:=q_ B
  go_in
  go_wp2_with (first
   |(go_at_call 103;refine(yj_ h0.o).mono ?_;rintro e w' ⟨rfl,C⟩;rw[C];clear C)
   |(go_at_call 102;refine(yf_ h0.o hs V).mono ?_;rintro e w1 ⟨rfl,D⟩;rw[u.o];have h1:=h0.o.still D;have l:=(Fr.refl (w.alloc (.cells #[.int .i64 0,.int .u8 0] 146)) (λ g=>g=bp)).still D;have y:=l.blk O.o (by omega);have P1:=Blk.alloc h1 (.cells #[.int .i64 (i:Int),.int .u8 (x:Int)] 146);have c1:=PAt.c1 P1;have f1:=PAt.thaw P1 1;have a5:=l.size;have a1:=l.size;have J:=Blk.other (Blk.new w1 #[.int .i64 (i:Int),.int .u8 (x:Int)] 146) (a:=⟨bp,1,none⟩) (.int .i64 ((i:Int)+1)) (by show ¬ (w1.heap.size=bp);simp at a1;omega);have H:=Blk.other (y.alloc (.cells #[.int .i64 (i:Int),.int .u8 (x:Int)] 146)) (a:=⟨bp,1,none⟩) (.int .i64 ((i:Int)+1)) (by show ¬ (w.heap.size=bp);omega);have P2:=q_ (PAt.inc P1);have l0:=J.c0;have l1:=J.c1;have r0:=H.c0;have r1:=H.c1;have g0:=H.thaw 0;have g1:=H.thaw 1;replace l:=q_ l;replace y:=q_ y;replace h1:=q_ h1;replace P1:=q_ P1;replace J:=q_ J;replace H:=q_ H))
  have A:=(H.o.set 0 (.int .i64 (i:Int))).set 1 (.int .u8 (x:Int));have E:=A.cell 0;have F:=A.cell 1;simp only[aj_,al_,aa_,ab_] at E F;refine bodyPost_ret (v:=.tuple #[.agg #[.int .i64 (i:Int),.int .u8 (x:Int)],.nilIface]) (by simp[results,results162,go_sem,E,F]) rfl ?_;rw[K.o];refine⟨_,_,_,rfl,?_,.inl ⟨by rw[u.o];exact B.o,rfl,by rw[u.o],rfl,?_,a2⟩⟩
  ·exact(((((I.o.trans l.o u_).alloc _).setCell _ _ (λ _=>rfl)).setCell _ _ (λ Y=>absurd Y (Nat.lt_irrefl _))).setCell _ _ (λ Y=>absurd Y (Nat.lt_irrefl _)))
  ·exact Blk.other (Blk.other P2.o (a:=⟨w.heap.size,0,none⟩) _ (by show ¬ (bp=w.heap.size);omega)) (a:=⟨w.heap.size,1,none⟩) _ (by show ¬ (bp=w.heap.size);omega)
 | false=>
  have N:x<97\/122<x:=by
   have:=B;simp only[zi_,Bool.and_eq_false_iff,decide_eq_false_iff_not] at this;omega
  replace u:=q_ u;replace B:=q_ B
  have Z:H_ (∀ (r:World) (v:Value) (w1:World),yd_ r (w1.alloc (.cells #[.int .i64 (i:Int),.int .u8 (x:Int)] 146)).heap.size v (i:Int) (.iface et ex)->Fr (w1.alloc (.cells #[.int .i64 (i:Int),.int .u8 (x:Int)] 146)) r (λ _=>False)->PAt (w1.alloc (.cells #[.int .i64 (i:Int),.int .u8 (x:Int)] 146)) bp s i->Fr (w.alloc (.cells #[.int .i64 0,.int .u8 0] 146)) w1 (λ g=>g=bp)->
   ziw w bp s i et ex (.returned (.tuple #[.agg #[.int .i64 0,.int .u8 0],v])) ((r.setCell ⟨w.heap.size,0,none⟩ (.int .i64 0)).setCell ⟨w.heap.size,1,none⟩ (.int .u8 0))):=q_ (λ r v w1 z q P1 l=>by
   have hz:(w.alloc (.cells #[.int .i64 0,.int .u8 0] 146)).heap.size=w.heap.size+1:=by simp
   have a7:(w1.alloc (.cells #[.int .i64 (i:Int),.int .u8 (x:Int)] 146)).heap.size=w1.heap.size+1:=by simp
   have a6:=l.size
   have U:Fr r ((r.setCell ⟨w.heap.size,0,none⟩ (.int .i64 0)).setCell ⟨w.heap.size,1,none⟩ (.int .u8 0)) (λ g=>g=w.heap.size):=((Fr.refl r (λ g=>g=w.heap.size)).setCell ⟨w.heap.size,0,none⟩ _ (λ _=>rfl)).setCell ⟨w.heap.size,1,none⟩ _ (λ _=>rfl)
   refine⟨_,_,_,rfl,?_,.inr ⟨by rw[u.o];exact B.o,(z.fr U (λ g hg e=>by omega)).less (by omega),U.blk (q.blk P1 id) (by omega)⟩⟩
   exact((((I.o.trans l u_).alloc _).trans q v_).trans U (λ a8 hy e=>by omega)))
  rcases N with N|N
  ·have n1:(x:Int)<97:=by omega
   go_in
   go_wp2_with (first
    |(go_at_call 103;refine(yj_ h0.o).mono ?_;rintro e w' ⟨rfl,C⟩;rw[C];clear C)
    |(go_at_call 102;refine(yf_ h0.o hs V).mono ?_;rintro e w1 ⟨rfl,D⟩;rw[u.o];have h1:=h0.o.still D;have l:=(Fr.refl (w.alloc (.cells #[.int .i64 0,.int .u8 0] 146)) (λ g=>g=bp)).still D;have y:=l.blk O.o (by omega);have P1:=Blk.alloc h1 (.cells #[.int .i64 (i:Int),.int .u8 (x:Int)] 146);have G:=y.alloc (.cells #[.int .i64 (i:Int),.int .u8 (x:Int)] 146);have R:=q_ ((M.o.fr (I.o.trans l u_) (Ne.symm a0)).fr ((Fr.refl w1 (λ _=>False)).alloc (.cells #[.int .i64 (i:Int),.int .u8 (x:Int)] 146)) id);replace l:=q_ l;replace G:=q_ G;replace P1:=q_ P1;clear y h1)
    |(go_at_call 75;refine(x3_ P1.o R.o).mono ?_;rintro e r ⟨v,rfl,z,q⟩;have m:=q.blk G.o id;have r0:=m.c0;have r1:=m.c1;have g0:=m.thaw 0;have g1:=m.thaw 1;replace z:=q_ z;replace q:=q_ q;replace m:=q_ m))
   have A:=(m.o.set 0 (.int .i64 0)).set 1 (.int .u8 0);have E:=A.cell 0;have F:=A.cell 1;simp only[aj_,al_,aa_,ab_] at E F;refine bodyPost_ret (v:=.tuple #[.agg #[.int .i64 0,.int .u8 0],v]) (by simp[results,results162,go_sem,E,F]) rfl ?_;rw[K.o];exact Z.o r v w1 z.o q.o P1.o l.o
  ·have n1:¬ ((x:Int)<97):=by omega
   have n2:(122:Int)<(x:Int):=by omega
   go_in
   go_wp2_with (first
    |(go_at_call 103;refine(yj_ h0.o).mono ?_;rintro e w' ⟨rfl,C⟩;rw[C];clear C)
    |(go_at_call 102;refine(yf_ h0.o hs V).mono ?_;rintro e w1 ⟨rfl,D⟩;rw[u.o];have h1:=h0.o.still D;have l:=(Fr.refl (w.alloc (.cells #[.int .i64 0,.int .u8 0] 146)) (λ g=>g=bp)).still D;have y:=l.blk O.o (by omega);have P1:=Blk.alloc h1 (.cells #[.int .i64 (i:Int),.int .u8 (x:Int)] 146);have G:=y.alloc (.cells #[.int .i64 (i:Int),.int .u8 (x:Int)] 146);have R:=q_ ((M.o.fr (I.o.trans l u_) (Ne.symm a0)).fr ((Fr.refl w1 (λ _=>False)).alloc (.cells #[.int .i64 (i:Int),.int .u8 (x:Int)] 146)) id);replace l:=q_ l;replace G:=q_ G;replace P1:=q_ P1;clear y h1)
    |(go_at_call 75;refine(x3_ P1.o R.o).mono ?_;rintro e r ⟨v,rfl,z,q⟩;have m:=q.blk G.o id;have r0:=m.c0;have r1:=m.c1;have g0:=m.thaw 0;have g1:=m.thaw 1;replace z:=q_ z;replace q:=q_ q;replace m:=q_ m))
   have A:=(m.o.set 0 (.int .i64 0)).set 1 (.int .u8 0);have E:=A.cell 0;have F:=A.cell 1;simp only[aj_,al_,aa_,ab_] at E F;refine bodyPost_ret (v:=.tuple #[.agg #[.int .i64 0,.int .u8 0],v]) (by simp[results,results162,go_sem,E,F]) rfl ?_;rw[K.o];exact Z.o r v w1 z.o q.o P1.o l.o
open Go.RowKit
def ziy (w:World) (bp:Nat) (s:BA) (i:Nat) (p:Int) (et:TypeId) (ex:Value) (e:Ending) (w':World):Prop:=
 ∃ v ev,IfV v/\e=.returned (.tuple #[v,ev])/\Fr w w' (· = bp)/\
  ((48<=bt s i/\bt s i<=57/\v=.iface 233 (.agg #[.int .i64 p,.int .i64 ((bt s i-48:Nat):Int)])/\ev=.nilIface/\PAt w' bp s (i+1)/\i<s.size)\/(¬ (48<=bt s i/\bt s i<=57)/\yd_ w' w.heap.size ev (i:Int) (.iface et ex)/\PAt w' bp s i))
theorem zoi {w:World}{bp:Nat}{s:BA}{i:Nat}{p:Int}(h:PAt w bp s i) (z:Gram w et ex) (hs:s.size<=300) (A:i<=s.size) :
 Calls prog 138 #[.pointer (some ⟨bp,0,none⟩),.int .i64 p] w (ziy w bp s i p et ex):=by
 obtain⟨H,y⟩:∃ P,H_ (P=ziy w bp s i p et ex):=⟨_,rfl⟩;rw[<- y.o];obtain⟨x,l⟩:∃ x,bt s i=x:=⟨_,rfl⟩;replace z:=q_ z
 by_cases u:48<=x/\x<=57
 ·have D:i<s.size:=zj_ (by omega)
  have C:¬ ((x:Int)<48):=by omega
  have G:¬ ((57:Int)<(x:Int)):=by omega
  replace l:=q_ l;replace h:=q_ h
  go_in
  go_wp2_with (go_at_call 102;refine(yf_ h.o hs A).mono ?_;rintro e w1 ⟨rfl,g⟩;rw[l.o];have h1:=h.o.still g;have c1:=h1.c1;have I:=h1.thaw 1;replace h1:=q_ h1;replace g:=q_ g)
  try go_ret
  rw[y.o];refine⟨.iface 233 (.agg #[.int .i64 p,.int .i64 ((x:Int)-48)]),.nilIface,.inr ⟨_,_,rfl⟩,rfl,((Fr.refl w _).still g.o).setCell _ _ (λ _=>rfl),.inl ⟨by rw[l.o];exact u.1,by rw[l.o];exact u.2,?_,rfl,h1.o.inc,D⟩⟩;rw[l.o,show((x-48:Nat):Int)=(x:Int)-48 by omega]
 ·replace l:=q_ l
  have B:H_ (∀ (w1 r:World) (v:Value),zd_ w w1->yd_ r w1.heap.size v (i:Int) (.iface et ex)->Fr w1 r (λ _=>False)->ziy w bp s i p et ex (.returned (.tuple #[.nilIface,v])) r):=q_ (λ w1 r v g q m=>by
   have F:=((Fr.refl w (λ _=>False)).still g).size
   exact⟨.nilIface,v,.inl rfl,rfl,((Fr.refl w _).still g).trans m v_,.inr ⟨by rw[l.o];exact u,q.less F,m.blk (h.still g) id⟩⟩)
  have E:x<48\/57<x:=by omega
  replace h:=q_ h;clear u
  rcases E with u|u
  ·have C:(x:Int)<48:=by omega
   go_in
   go_wp2_with (first
    |(go_at_call 102;refine(yf_ h.o hs A).mono ?_;rintro e w1 ⟨rfl,g⟩;rw[l.o];have h1:=q_ (h.o.still g);replace g:=q_ g)
    |(go_at_call 75;refine(x3_ h1.o (z.o.fr ((Fr.refl w (λ _=>False)).still g.o) id)).mono ?_;rintro e r ⟨v,rfl,q,m⟩;replace q:=q_ q;replace m:=q_ m))
   try go_ret
   rw[y.o];exact B.o w1 r v g.o q.o m.o
  ·have C:¬ ((x:Int)<48):=by omega
   have G:(57:Int)<(x:Int):=by omega
   go_in
   go_wp2_with (first
    |(go_at_call 102;refine(yf_ h.o hs A).mono ?_;rintro e w1 ⟨rfl,g⟩;rw[l.o];have h1:=q_ (h.o.still g);replace g:=q_ g)
    |(go_at_call 75;refine(x3_ h1.o (z.o.fr ((Fr.refl w (λ _=>False)).still g.o) id)).mono ?_;rintro e r ⟨v,rfl,q,m⟩;replace q:=q_ q;replace m:=q_ m))
   try go_ret
   rw[y.o];exact B.o w1 r v g.o q.o m.o
open Go.RowKit
structure AM (w:World) (bp:Nat) (s:BA) (j b0:Nat) (L:List Value) (T ET:TypeId) (k:Nat) (sv:Value) (n:Nat) (xs:List Value) (W:World):Prop where
 here:PAt W bp s j
 fr:Fr w W (· = bp)
 lt:bp<w.heap.size
 w0:w.heap.size<=b0
 hB:b0+1<=W.heap.size
 b:Blk W b0 L T
 row:W.ownsRow (b0+1) ET k sv n xs
section
variable {w W W':World} {bp:Nat} {s:BA} {j j' b0:Nat} {L:List Value} {T ET:TypeId} {k:Nat} {sv:Value} {n:Nat} {xs:List Value}
theorem AM.call (M:AM w bp s j b0 L T ET k sv n xs W) (h:PAt W' bp s j') (l:Fr W W' (· = bp)):AM w bp s j' b0 L T ET k sv n xs W':=by
 have:=M.lt;have:=M.w0;exact⟨h,M.fr.trans l u_,M.lt,M.w0,ai_ M.hB l.size,l.blk M.b (by omega),za_ M.row l (λ g hg e=>by have:=M.row.lt g hg;omega)⟩
theorem AM.alloc (M:AM w bp s j b0 L T ET k sv n xs W) (o:Obj):AM w bp s j b0 L T ET k sv n xs (W.alloc o):=M.call (Blk.alloc M.here o) ((Fr.refl W _).alloc o)
theorem AM.item (M:AM w bp s j b0 L T ET k sv n xs W){h:Value}{y:Nat}{z:List Value}{q:World}(h0:Fr W q (λ _=>False)) (hg:q.grownBy w5 sv.ownBlock) (ho:w5.ownsRow (b0+1) ET k h y z)
 (hl:h.ownBlock=sv.ownBlock\/h.ownBlock=some q.heap.size) (c:Nat) :
 AM w bp s j b0 (L.set c h) T ET k h y z (w5.setCell ⟨b0,c,none⟩ h)/\Fr W (w5.setCell ⟨b0,c,none⟩ h) (λ g=>sv.ownBlock=some g\/g=b0)/\(∀ g,h.ownBlock=some g->b0+1<=g/\(sv.ownBlock=some g\/W.heap.size<=g)):=by
 have C:=M.lt;have E:=M.w0;have B:=M.hB;have D:=h0.size;have r:Fr W w5 (λ g=>sv.ownBlock=some g):=Fr.grown (h0.mono v_) hg (λ k e _=>e)
 have hn:∀ g,h.ownBlock=some g->b0+1<=g/\(sv.ownBlock=some g\/W.heap.size<=g):=λ g l=>by
  rcases hl with e|e
  ·exact⟨(M.row.lt g (e▸l)).1,.inl (e▸l)⟩
  ·rw[e] at l;simp only[ag_] at l;exact⟨by omega,.inr (by omega)⟩
 have u:Fr w5 (w5.setCell ⟨b0,c,none⟩ h) (λ g=>g=b0):=(Fr.refl w5 (λ g=>g=b0)).setCell ⟨b0,c,none⟩ h (λ _=>rfl);have m:Fr W (w5.setCell ⟨b0,c,none⟩ h) (λ g=>sv.ownBlock=some g\/g=b0):=(r.mono (λ _ _ e=>.inl e)).trans u (λ _ _ e=>.inr e);have A:=r.blk M.b (λ e=>by have:=M.row.lt _ e;omega);refine⟨⟨m.blk M.here (λ e=>?_),M.fr.trans m (λ x F e=>?_),M.lt,M.w0,ai_ B m.size,A.set c h,za_ ho u (λ g l e=>by have:=hn g l;omega)⟩,m,hn⟩
 ·rcases e with e|e
  ·have:=M.row.lt _ e;omega
  ·omega
 ·rcases e with e|e
  ·have:=M.row.lt _ e;omega
  ·omega
theorem AM.itemCell (M:AM w bp s j b0 L T ET k sv n xs W){h:World}(h0:Fr W h (λ _=>False)) (hg:h.grownBy w5 sv.ownBlock):Blk w5 b0 L T:=by
 have l:Fr W w5 (λ g=>sv.ownBlock=some g):=Fr.grown (h0.mono v_) hg (λ k e _=>e);exact l.blk M.b (λ e=>by have:=M.row.lt _ e;omega)
end
def DfV (w:World) (P:Nat->Prop) (s:BA) (o:Option (Nat×Nat)) (d:Value):Prop:=
 match o with
 | none=>d=.pointer none
 | some (a,e)=>∃ g x,P g/\d=.pointer (some ⟨g,0,none⟩)/\IfV x/\Blk w g [.int .i64 (a:Int),.string (s.extract a e),x] 153
theorem DfV.mono {w:World}{s:BA}(h:DfV w P s o d) (r:∀ g,g<w.heap.size->P g->Q g):DfV w Q s o d:=by
 match o with
 | none=>exact h
 | some (a,e)=>
  obtain⟨g,x,h1,m,q,l⟩:=h;exact⟨g,x,r g l.lt h1,m,q,l⟩
theorem DfV.fr {w w':World}{s:BA}(h:DfV w P s o d) (u:Fr w w' S) (r:∀ g,P g->¬ S g):DfV w' P s o d:=by
 match o with
 | none=>exact h
 | some (a,e)=>
  obtain⟨g,x,h1,l,m,q⟩:=h;exact⟨g,x,h1,l,m,u.blk q (r g h1)⟩
def FldV (w:World) (P:Nat->Prop) (s:BA) (f:PF) (a b c d:Value):Prop:=
 a=.int .i64 (f.place:Int)/\b=.int .u8 (f.letter:Int)/\TyV w P f.ty c/\DfV w P s f.dflt d
theorem FldV.mono {w:World}{s:BA}{c:Value}(h:FldV w P s f a b c d) (e:∀ g,g<w.heap.size->P g->Q g):FldV w Q s f a b c d:=
 ⟨h.1,h.2.1,h.2.2.1.mono e,h.2.2.2.mono e⟩
theorem FldV.fr {w w':World}{s:BA}{c:Value}(h:FldV w P s f a b c d) (l:Fr w w' S) (e:∀ g,P g->¬ S g):FldV w' P s f a b c d:=
 ⟨h.1,h.2.1,h.2.2.1.fr l e,h.2.2.2.fr l e⟩
def vu_ (w:World) (P:Nat->Prop) (s:BA) (fs:List PF) (xs:List Value):Prop:=
 ∀ i f,fs[i]?=some f->∃ a b c d,xs[4*i]?=some a/\xs[4*i+1]?=some b/\xs[4*i+2]?=some c/\xs[4*i+3]?=some d/\FldV w P s f a b c d
theorem vu_.mono {w:World}{s:BA}{xs:List Value}(h:vu_ w P s fs xs) (u:∀ g,g<w.heap.size->P g->Q g):vu_ w Q s fs xs:=λ i f e=>by
 obtain⟨a,b,c,d,h1,l,m,q,r⟩:=h i f e;exact⟨a,b,c,d,h1,l,m,q,r.mono u⟩
theorem vu_.fr {w w':World}{s:BA}{xs:List Value}(h:vu_ w P s fs xs) (x:Fr w w' S) (u:∀ g,P g->¬ S g):vu_ w' P s fs xs:=λ i f e=>by
 obtain⟨a,b,c,d,h1,l,m,q,r⟩:=h i f e;exact⟨a,b,c,d,h1,l,m,q,r.fr x u⟩
theorem vu_.snoc {w:World}{s:BA}{xs:List Value}{c:Value}(h:vu_ w P s fs xs) (hl:xs.length=fs.length*4) (A:FldV w P s f a b c d):vu_ w P s (fs++[f]) (xs++[a,b,c,d]):=λ i r e=>by
 by_cases B:i<fs.length
 ·rw[au_ B] at e;obtain⟨g,l,m,q,h1,u,x,y,z⟩:=h i r e;exact⟨g,l,m,q,by rw[au_ (by omega)];exact h1,by rw[au_ (by omega)];exact u,by rw[au_ (by omega)];exact x,by rw[au_ (by omega)];exact y,z⟩
 ·have C:i=fs.length:=by
   have:=(as_.1 e).1
   simp at this;omega
  subst C;rw[ar_ l_,Nat.sub_self] at e;simp only[aa_,ag_] at e;subst e;refine⟨a,b,c,d,?_,?_,?_,?_,A⟩
  ·rw[ar_ (by omega),show 4*fs.length-xs.length=0 by omega];rfl
  ·rw[ar_ (by omega),show 4*fs.length+1-xs.length=1 by omega];rfl
  ·rw[ar_ (by omega),show 4*fs.length+2-xs.length=2 by omega];rfl
  ·rw[ar_ (by omega),show 4*fs.length+3-xs.length=3 by omega];rfl
def yp_ (l:List (Nat×Nat)):List Value:=l.flatMap (λ q=>[.int .i64 (q.2:Int),.int .u8 (q.1:Int)])
def UnkV (w:World) (P:Nat->Prop) (o:Option (Nat×Nat)) (d:Value):Prop:=
 match o with
 | none=>d=.pointer none
 | some (c,p)=>∃ g,P g/\d=.pointer (some ⟨g,0,none⟩)/\Blk w g [.int .i64 (p:Int),.int .u8 (c:Int)] 146
theorem UnkV.mono {w:World}(h:UnkV w P o d) (q:∀ g,g<w.heap.size->P g->Q g):UnkV w Q o d:=by
 match o with
 | none=>exact h
 | some (a,e)=>
  obtain⟨g,h1,m,l⟩:=h;exact⟨g,q g l.lt h1,m,l⟩
theorem UnkV.fr {w w':World}(h:UnkV w P o d) (r:Fr w w' S) (q:∀ g,P g->¬ S g):UnkV w' P o d:=by
 match o with
 | none=>exact h
 | some (a,e)=>
  obtain⟨g,h1,l,m⟩:=h;exact⟨g,h1,l,r.blk m (q g h1)⟩
inductive vn_ (w:World) (P:Nat->Prop) (s:BA):PB->Value->Prop
 | recd (p:Nat) {fs:List PF} {sv:Value} {xs:List Value} (ho:w.ownsRow 0 149 4 sv fs.length xs) (hP:∀ g,sv.ownBlock=some g->P g) (h:vu_ w P s fs xs):vn_ w P s (.recd fs) (.iface 211 (.agg #[.int .i64 (p:Int),sv]))
 | enum (p:Nat) {l:List (Nat×Nat)} {o:Option (Nat×Nat)} {sv u:Value} (ho:w.ownsRow 0 146 2 sv l.length (yp_ l)) (hP:∀ g,sv.ownBlock=some g->P g) (hu:UnkV w P o u):vn_ w P s (.enum l o) (.iface 216 (.agg #[.int .i64 (p:Int),sv,u]))
 | bytes (p n:Nat):vn_ w P s (.bytes n) (.iface 233 (.agg #[.int .i64 (p:Int),.int .i64 (n:Int)]))
theorem vn_.mono {w:World}{s:BA}{b:PB}(h:vn_ w P s b v) (l:∀ g,g<w.heap.size->P g->Q g):vn_ w Q s b v:=by
 cases h with
 | recd p ho hP h=>exact .recd p ho (λ g e=>l g (ho.lt g e).2 (hP g e)) (h.mono l)
 | enum p ho hP h=>exact .enum p ho (λ g e=>l g (ho.lt g e).2 (hP g e)) (h.mono l)
 | bytes p n=>exact .bytes p n
theorem vn_.fr {w w':World}{s:BA}{b:PB}(h:vn_ w P s b v) (m:Fr w w' S) (l:∀ g,P g->¬ S g):vn_ w' P s b v:=by
 cases h with
 | recd p ho hP h=>exact .recd p (za_ ho m (λ g e=>l g (hP g e))) hP (h.fr m l)
 | enum p ho hP h=>exact .enum p (za_ ho m (λ g e=>l g (hP g e))) hP (h.fr m l)
 | bytes p n=>exact .bytes p n
end Go.Proofs.YtiifagiebikmdaaGreatDoor
