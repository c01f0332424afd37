import Derived.Test.YthmjjpkjgjklmaaGreatDoorW25
import Derived.Test.YthmjjpkjgjklmaaGreatDoorW07
import Derived.Test.YthmjjpkjgjklmaaGreatDoorA00
set_option maxHeartbeats 16000000
set_option maxRecDepth 100000
set_option linter.unusedSimpArgs false
open Go.Proofs.Tryz
namespace Go.Proofs.YthmjjpkjgjklmaaGreatDoor
open Go.RowKit
variable {fs:List PF}{vT:TypeId}{vx:Value}
theorem zr2 {s:BA}{env:Nat->Option PB}{pl:Bool}{f i:Nat}(hsm:zry env) (hok:∀ g∈fs,okT env g.ty) :
 zb4 fs.length (zao (za7 (rdT s env pl f) fs) s 40 41 [] i)=y6_ (rdT s env pl f) s (.recd fs) i:=by
 unfold zao y6_;simp only
 by_cases h40:bt s i=40
 ·rw[if_pos h40,if_pos h40];have hlt:=zl_ (s:=s) (i:=i) (by omega)
  by_cases h41:bt s (i+1)=41
  ·rw[if_pos h41]
   cases fs with
   | nil=>
    simp only[a1_,zv_,zb4];rw[if_pos h41]
    rfl
   | cons g r=>
    rw[ap_,zv_,if_pos rfl,zzm hsm h41 f g.ty (hok g (by simp))]
    rfl
  ·rw[if_neg h41]
   cases hfs:fs with
   | nil=>
    rw[jv_];simp only[za7,List.getElem?_nil,a1_,zv_,zb4];rw[if_neg h41]
   | cons g r=>
    rw[<- hfs];have h:=zk5 (rdT s env pl f) s fs (j2_ s env pl f) (s.size+2) [] (i+1) (by rw[hfs];simp) hlt (by omega);rw[h];simp only[ax_,List.drop_zero]
    cases zv_ (rdT s env pl f) s true (fs.map PF.ty) (i+1) with
    | none=>rfl
    | some q=>
     obtain⟨l,e⟩:=q
     rfl
 ·rw[if_neg h40,if_neg h40]
  rfl
theorem zve {tt:PT}{w0 w:World}{P:Nat->Prop}{ss:BA}{ds:List PD}{sv rv:Value}{xs:List Value}{s:BA}{nt:TypeId}{nx:Value}{pl:Bool}{br i:Nat}{p:Int}{fa:Option Addr}{fc:Nat}{zs:List Value}(hsub:∀ k g,fs[k]?=some g->yb_ (za_ ds) tt 0 k=g.ty) (M:NC w0 P ss ds sv rv xs s nt nx pl br i w) (hF:vj_ w P ss fs (.slice fa fs.length fc) zs){W':World}(h:RdAt W' br sv rv s (i+1) (!pl)) (hf:Fr (((w.alloc (.cells #[.pointer (some ⟨br,0,none⟩)] 225)).alloc (.cells #[.int .i64 p,.slice fa fs.length fc] 263)).alloc (.cells #[.slice none 0 0] 176)) W' (· = br)) (hi:i+1<=s.size) :
 RI tt w0 w P ss ds sv rv xs s nt nx pl br i fs p (.slice fa fs.length fc) zs [] (i+1) W':=by
 have hbl:=M.lt;have A:Fr w (((w.alloc (.cells #[.pointer (some ⟨br,0,none⟩)] 225)).alloc (.cells #[.int .i64 p,.slice fa fs.length fc] 263)).alloc (.cells #[.slice none 0 0] 176)) (λ _=>False):=(((Fr.refl w _).alloc _).alloc _).alloc _
 have hz:(((w.alloc (.cells #[.pointer (some ⟨br,0,none⟩)] 225)).alloc (.cells #[.int .i64 p,.slice fa fs.length fc] 263)).alloc (.cells #[.slice none 0 0] 176)).heap.size=w.heap.size+3:=by simp
 have z1:(w.alloc (.cells #[.pointer (some ⟨br,0,none⟩)] 225)).heap.size=w.heap.size+1:=by simp
 have z2:((w.alloc (.cells #[.pointer (some ⟨br,0,none⟩)] 225)).alloc (.cells #[.int .i64 p,.slice fa fs.length fc] 263)).heap.size=w.heap.size+2:=by simp
 have B2:=((Blk.new w #[.pointer (some ⟨br,0,none⟩)] 225).alloc (.cells #[.int .i64 p,.slice fa fs.length fc] 263)).alloc (.cells #[.slice none 0 0] 176);have B3:=(Blk.new (w.alloc (.cells #[.pointer (some ⟨br,0,none⟩)] 225)) #[.int .i64 p,.slice fa fs.length fc] 263).alloc (.cells #[.slice none 0 0] 176);have B6:=Blk.new ((w.alloc (.cells #[.pointer (some ⟨br,0,none⟩)] 225)).alloc (.cells #[.int .i64 p,.slice fa fs.length fc] 263)) #[.slice none 0 0] 176;rw[z1] at B3;rw[z2] at B6;have hsz:=hf.size;exact⟨hsub,(M.new A).call h hf hi,(A.mono v_).trans hf u_,hbl,by omega,hf.blk B2 (by omega),hf.blk B3 (by omega),(hF.fr A u_).fr hf (λ g hg e=>M.brP (e▸hg)),by simp,aj_ _,_,hf.blk B6 (by omega),RowT.nil _ _ _ _ _⟩
theorem zm3 {tt:PT}{w0 w:World}{P:Nat->Prop}{ss:BA}{ds:List PD}{sv rv:Value}{xs:List Value}{s:BA}{nt:TypeId}{nx:Value}{pl:Bool}{br i:Nat}{p:Int}{fa:Option Addr}{fc:Nat}{zs:List Value}{f:Nat}(hsub:∀ k g,fs[k]?=some g->yb_ (za_ ds) tt 0 k=g.ty) (M:NC w0 P ss ds sv rv xs s nt nx pl br i w) (hF:vj_ w P ss fs (.slice fa fs.length fc) zs) (hsm:∀ g∈fs,zn_ g.letter=true) (hlen:fs.length<=300) (hse:zry (za_ ds)) (hok:∀ g∈fs,okT (za_ ds) g.ty) (hR:∀ g∈fs,∀ j,i<j->j<=s.size->DatN w0 P ss ds sv rv xs s nt nx pl br f g.ty j) :
 Calls prog 171 #[.pointer (some ⟨br,0,none⟩),.agg #[.int .i64 p,.slice fa fs.length fc]] w (yr_ (za_ ds) tt w sv rv s nt nx pl br (y6_ (rdT s (za_ ds) pl f) s (.recd fs) i)):=by
 refine hq_ λ POST Q_=>?_
 have hs4:s.size<=4000:=by have:=M.hs;omega
 have A:Fr w (((w.alloc (.cells #[.pointer (some ⟨br,0,none⟩)] 225)).alloc (.cells #[.int .i64 p,.slice fa fs.length fc] 263)).alloc (.cells #[.slice none 0 0] 176)) (λ _=>False):=(((Fr.refl w _).alloc _).alloc _).alloc _;have hgo:=j2_ s (za_ ds) pl f
 have IT:zo9 sv rv s nt nx pl br 219 #[.pointer (some ⟨w.heap.size+2,0,none⟩),.pointer (some ⟨w.heap.size+1,0,none⟩),.pointer (some ⟨w.heap.size,0,none⟩)] (za7 (rdT s (za_ ds) pl f) fs) (λ l j W=>RI tt w0 w P ss ds sv rv xs s nt nx pl br i fs p (.slice fa fs.length fc) zs l j W) (BadL w sv rv s nt nx pl br):=
  { F:=λ W=>by kernel_rfl
    R:=λ h=>⟨h.M.R,h.M.il,h.M.e⟩
    K:=λ h h1 h2 h3 h4=>h.call h1 h2 h3 (by have:=h.c;omega)
    B:=λ h=>⟨h.fr,.base,_,h.M.R,h.M.il⟩
    C:=λ {l j W} h=>(zso h hsm hlen (λ g hg=>hR g hg j (by have:=h.c;omega) h.M.il) (λ t d j' e=>(hgo t j d j' e).1)).mono (by
     rintro e W' ⟨v,he,hm⟩
     refine⟨v,he,?_⟩
     cases hq:za7 (rdT s (za_ ds) pl f) fs l j with
     | none=>rw[hq] at hm;exact hm
     | some q=>obtain⟨a,b⟩:=q;rw[hq] at hm;exact hm) }
 have hC:=q_ (zdr IT (w:=(((w.alloc (.cells #[.pointer (some ⟨br,0,none⟩)] 225)).alloc (.cells #[.int .i64 p,.slice fa fs.length fc] 263)).alloc (.cells #[.slice none 0 0] 176))) (σ:=([]:List DT)) (i:=i) (co:=40) (cf:=41) 40 41 (A.blk M.R id) M.il (λ W' h hf hi=>zve hsub M hF h hf hi) (λ W' h hf=>⟨⟨(A.mono v_).trans hf u_,.base,i,h,M.il⟩,((M.new A).call h hf M.il).e⟩) hs4 rfl rfl (by decide) (by decide));have hres:=q_ (zr2 (s:=s) (pl:=pl) (f:=f) (i:=i) hse hok);clear IT A hgo hF hR M hok hsm
 cases hp:zao (za7 (rdT s (za_ ds) pl f) fs) s 40 41 [] i with
 | none=>
  rw[hp] at hres;replace hp:=q_ hp
  go_in
  go_wp2_with (go_at_call 213;refine hC.o.mono ?_;rintro e w2 ⟨v2,rfl,hm⟩;rw[hp.o] at hm;obtain⟨⟨eT,ex,rfl⟩,hB⟩:=hm;replace hB:=q_ hB)
  try go_ret
  rw[Q_.o,<- hres.o];obtain⟨h1,h2,h3⟩:=hB.o;exact⟨.nilIface,_,rfl,h1,rfl,h2,h3⟩
 | some q=>
  obtain⟨l2,j2⟩:=q;rw[hp] at hres;replace hp:=q_ hp;obtain⟨n2,hn2⟩:∃ n,l2.length=n:=⟨_,rfl⟩
  by_cases hn:n2<fs.length
  ·have hn':(n2:Int)<(fs.length:Int):=by omega
   rw[show zb4 fs.length (some (l2,j2))=none from if_pos (by omega)] at hres;replace hn2:=q_ hn2
   go_in
   go_wp2_with (go_at_call 213;refine hC.o.mono ?_;rintro e w2 ⟨v2,rfl,hm⟩;rw[hp.o] at hm;obtain⟨rfl,hL⟩:=hm;obtain⟨lv,r1,r2⟩:=hL.row;obtain⟨ys,r3⟩:=r2.row;obtain⟨la,lc,rfl⟩:=zf_ r3;rw[hn2.o] at r1;have k0:=r1.c0;have c31:=hL.b3.c1;have e0:=hL.M.e;replace hL:=q_ hL;clear r1 r2 r3)
   go_quiet (fail)
   go_wp2_with fail
   try go_ret
   rw[Q_.o,<- hres.o];exact nerr (hL.o.fr.still (ze_.drewN _ _)) (hL.o.M.R.still (ze_.drewN _ _)) hL.o.M.il
  ·have hn':¬ ((n2:Int)<(fs.length:Int)):=by omega
   rw[show zb4 fs.length (some (l2,j2))=some (.mk 114 0 noB [] l2,j2) from if_neg (by omega)] at hres;replace hn2:=q_ hn2
   go_in
   go_wp2_with (go_at_call 213;refine hC.o.mono ?_;rintro e w2 ⟨v2,rfl,hm⟩;rw[hp.o] at hm;obtain⟨rfl,hL⟩:=hm;obtain⟨lv,r1,r2⟩:=hL.row;obtain⟨ys,r3⟩:=r2.row;obtain⟨la,lc,rfl⟩:=zf_ r3;have hDv:=r2.dat (Q:=λ g=>w.heap.size<=g) (λ g _ hg=>(by omega)) (λ g hg=>(by have:=r3.lt g hg;omega)) (.inr ⟨rfl,rfl⟩);rw[hn2.o] at r1 hDv;replace hDv:=q_ hDv;have k0:=r1.c0;have c31:=hL.b3.c1;replace hL:=q_ hL;clear r1 r2 r3)
   try go_ret
   rw[Q_.o,<- hres.o];exact nok hDv.o hL.o.fr hL.o.M.R hL.o.M.il
def oneB (k:Nat):Option (DT×Nat)->Option (DT×Nat)
 | none=>none
 | some (d,j)=>some (.mk 40 (k:Int) noB [] [d],j)
theorem zf2 {tt:PT}{w0 w:World}{P:Nat->Prop}{ss:BA}{ds:List PD}{sv rv:Value}{xs:List Value}{s:BA}{nt:TypeId}{nx:Value}{pl:Bool}{br i:Nat}{t:PT}{n k:Nat}{p:Int}{bv:Value}{f:Nat}{X:Nat->Value}(hsub:yb_ (za_ ds) tt k 0=t) (M:NC w0 P ss ds sv rv xs s nt nx pl br i w) (ho:w.ownsRow 0 88 1 bv n ((List.range n).map X)) (hkn:k<n) (hk4:k<=4000) (hX:TyV w P t (X k)) (hI:yi_ w0) (hR:DatN w0 P ss ds sv rv xs s nt nx pl br f t i) :
 Calls prog 218 #[.pointer (some ⟨br,0,none⟩),.agg #[.int .i64 p,bv],.int .i64 (k:Int)] w (yr_ (za_ ds) tt w sv rv s nt nx pl br (oneB k (rdT s (za_ ds) pl f t i))):=by
 refine hq_ λ POST Q_=>?_;obtain⟨g,cap,rfl⟩:=zk_ ho (by omega);obtain⟨T,x,hx⟩:=hX.iface;have c0:=zs_ ho rfl (k:=k) (x:=X k) (by simp[hkn]);rw[hx] at c0 hX;have A:Fr w (w.alloc (.cells #[.int .i64 p,.slice (some ⟨g,0,none⟩) n cap] 258)) (λ _=>False):=(Fr.refl w _).alloc _;have M0:=M.new A;have hgl:=World.block_lt_of_cell? w ⟨g,k,none⟩ c0;have hC:=q_ (hR _ _ M0 (hX.fr A u_))
 have hn0:(k:Int)<(n:Int):=by omega
 have hsz:=A.size;replace A:=q_ A;replace M0:=q_ M0;clear ho hX hR M hx
 cases hp:rdT s (za_ ds) pl f t i with
 | none=>
  replace hp:=q_ hp
  go_in
  go_wp2_with (first
   |(go_at_call 110;refine hC.o.mono ?_;rintro e w1 ⟨v1,ev1,rfl,hf1,hm⟩;rw[hp.o] at hm;obtain⟨rfl,hErr,j1,h1,hj1⟩:=hm;obtain⟨eT,ex,rfl⟩:=hErr.iface;have G1:=q_ ((M0.o.call h1 hf1 hj1).G);replace hf1:=q_ hf1;replace hErr:=q_ hErr;replace h1:=q_ h1)
   |(go_at_call 189;refine(zbg (n:=k) hI G1.o hk4).mono ?_;intro e w2 hW;obtain⟨g2,tx2,rfl,hg2,hb2,hf2⟩:=hW;replace hf2:=q_ hf2;replace hb2:=q_ hb2))
  try go_ret
  rw[Q_.o,hp.o];have hF1:=(A.o.mono (T:=λ g=>g=br) v_).trans hf1.o u_;have hs1:=hF1.size;exact⟨.nilIface,_,rfl,hF1.trans hf2.o v_,rfl,.within g2 (by omega) tx2 hb2.o ((hErr.o.less hsz).fr hf2.o u_),j1,hf2.o.blk h1.o id,hj1⟩
 | some q=>
  obtain⟨d,j2⟩:=q;replace hp:=q_ hp
  go_in
  go_wp2_with (go_at_call 110;refine hC.o.mono ?_;rintro e w1 ⟨v1,ev1,rfl,hf1,hm⟩;rw[hp.o] at hm;obtain⟨rfl,hDv,h1,hj1⟩:=hm;obtain⟨dT,dx,rfl⟩:=hDv.iface;replace hDv:=q_ hDv;replace hf1:=q_ hf1;replace h1:=q_ h1)
  try go_ret
  rw[Q_.o,hp.o];exact nok (.branch k hk4 (by rw[hsub];exact hDv.o.mono (λ g _ hg=>by omega))) ((A.o.mono (T:=λ g=>g=br) v_).trans hf1.o u_) h1.o hj1
theorem zpy {tt:PT}{w0 w:World}{P:Nat->Prop}{ss:BA}{ds:List PD}{sv rv:Value}{xs:List Value}{s:BA}{nt:TypeId}{nx:Value}{br i:Nat}{t:PT}{l:List PT}{p:Int}{bv:Value}{f:Nat}{X:Nat->Value}(hsub:yb_ (za_ ds) tt 0 0=t) (M:NC w0 P ss ds sv rv xs s nt nx true br i w) (ho:w.ownsRow 0 88 1 bv (t::l).length ((List.range (t::l).length).map X)) (hX:TyV w P t (X 0)) (hI:yi_ w0) (hR:DatN w0 P ss ds sv rv xs s nt nx true br f t i) :
 Calls prog 170 #[.pointer (some ⟨br,0,none⟩),.agg #[.int .i64 p,bv]] w (yr_ (za_ ds) tt w sv rv s nt nx true br (oneB 0 (rdT s (za_ ds) true f t i))):=by
 refine hq_ λ POST Q_=>?_;obtain⟨ba,bc,rfl⟩:=zf_ ho;have A:Fr w (w.alloc (.cells #[.int .i64 p,.slice ba (t::l).length bc] 258)) (λ _=>False):=(Fr.refl w _).alloc _;have M0:=M.new A;have hC:=q_ (zf2 (p:=p) (k:=0) hsub M0 (zb_ ho A u_) (by simp) (by omega) (hX.fr A u_) hI hR);have c4:=M0.R.c4;have hsz:=A.size;replace A:=q_ A;clear M0 ho hX hR M;generalize (t::l).length=n at hC A hsz c4⊢
 go_in
 go_wp2_with (go_at_call 218;refine hC.o.mono ?_;rintro e w1 ⟨v1,ev1,rfl,hf1,hm⟩;replace hf1:=q_ hf1;replace hm:=q_ hm)
 try go_ret
 rw[Q_.o];refine⟨v1,ev1,rfl,(A.o.mono (T:=λ g=>g=br) v_).trans hf1.o u_,?_⟩;have hm':=hm.o
 cases hp:oneB 0 (rdT s (za_ ds) true f t i) with
 | none=>rw[hp] at hm';exact⟨hm'.1,hm'.2.1.less hsz,hm'.2.2⟩
 | some q=>obtain⟨d,j⟩:=q;rw[hp] at hm';exact⟨hm'.1,hm'.2.1.mono (λ g _ hg=>by omega),hm'.2.2⟩
open Go.RowKit
theorem zbr:∀ (a b:List UInt8),(Op.bytesLess a b||a==b) = !Op.bytesLess b a:=by
 intro a
 induction a with
 | nil=>intro b;cases b<;>rfl
 | cons x xs ih=>
  intro b
  cases b with
  | nil=>rfl
  | cons y ys=>
   simp only[Op.bytesLess,List.cons_beq_cons];have h:=ih ys
   by_cases h1:x<y
   ·have h2:¬ y<x:=by simp only[UInt8.lt_iff_toNat_lt] at h1⊢;omega
    have h3:¬ y=x:=λ e=>by subst e;simp only[UInt8.lt_iff_toNat_lt] at h1;omega
    simp[h1,h2,h3]
   ·by_cases h2:x=y
    ·subst h2
     simp[h1,h]
    ·have h3:y<x:=by
      have:x.toNat≠y.toNat:=λ e=>h2 (UInt8.toNat_inj.1 e);simp only[UInt8.lt_iff_toNat_lt] at h1⊢;omega
     simp[h1,h2,h3]
def j0_ (R:Nat->Option (DT×Nat)) (s:BA) (es:List (BA×DT)) (j:Nat):Option (List (BA×DT)×Nat):=
 match zeo s true (zey es) j with
 | none=>none
 | some (k,j1)=>(R j1).map (λ q=>(es++[(k,q.1)],q.2))
theorem ztl (R:Nat->Option (DT×Nat)) (s:BA) (fin:Nat):∀ n es j,jv_ (j0_ R s) s fin n es j=(y3_ R s fin true n (zey es) j).map (λ q=>(es++q.1,q.2)):=by
 intro n
 induction n with
 | zero=>intro es j;rfl
 | succ n ih=>
  intro es j;rw[jv_,y3_];simp only[j0_]
  cases zeo s true (zey es) j with
  | none=>rfl
  | some q=>
   obtain⟨key,j1⟩:=q;simp only
   cases R j1 with
   | none=>rfl
   | some q=>
    obtain⟨d,j'⟩:=q;simp only[a2_];split
    ·rfl
    ·split
     ·rw[ih (es++[(key,d)]) (j'+1),jp_]
      cases y3_ R s fin true n (some key) (j'+1) with
      | none=>rfl
      | some q=>simp
     ·rfl
theorem zv8 (R:Nat->Option (DT×Nat)) (s:BA) (i:Nat):vt_ R s 123 i=(zao (j0_ R s) s 123 125 [] i).map (λ q=>(.mk 123 0 noB (q.1.map Prod.fst) (q.1.map Prod.snd),q.2)):=by
 unfold zao vt_ zcr
 by_cases h:bt s i=123
 ·rw[if_pos h,if_pos h,show x7_ 123=125 from rfl,show((123:Nat)==123)=true from rfl]
  by_cases h2:bt s (i+1)=125
  ·rw[if_pos h2,if_pos h2]
   rfl
  ·rw[if_neg h2,if_neg h2,ztl R s 125 _ [] (i+1),show zey []=none from rfl]
   cases y3_ R s 125 true (s.size+2) none (i+1) with
   | none=>rfl
   | some q=>simp
 ·rw[if_neg h,if_neg h]
  rfl
structure MI (w0 w:World) (P:Nat->Prop) (ss:BA) (ds:List PD) (sv rv:Value) (xs:List Value) (s:BA) (nt:TypeId) (nx:Value) (pl:Bool) (br i:Nat) (t:PT) (p:Int) (v:Value) (es:List (BA×DT)) (j:Nat) (W:World):Prop where
 M:NC w0 P ss ds sv rv xs s nt nx pl br j W
 fr:Fr w W (· = br)
 lt:br<w.heap.size
 hB:w.heap.size+3<=W.heap.size
 b2:Blk W w.heap.size [.pointer (some ⟨br,0,none⟩)] 225
 b3:Blk W (w.heap.size+1) [.int .i64 p,v] 254
 ty:TyV W P t v
 c:i+es.length<j
 row:∃ lv ys,Blk W (w.heap.size+2) [lv] 171/\W.ownsRow (w.heap.size+3) 173 2 lv es.length ys/\zxj (zey es) es.length ys/\RowE (za_ ds) W (λ g=>w.heap.size+3<=g/\lv.ownBlock≠some g) (.wrap 123 0 t) es ys
section
variable {w0 w:World} {P:Nat->Prop} {ss:BA} {ds:List PD} {sv rv:Value} {xs:List Value} {s:BA} {nt:TypeId} {nx:Value} {pl:Bool} {br i:Nat} {t:PT} {p:Int} {v:Value} {es:List (BA×DT)} {j j':Nat} {W W':World}
theorem MI.call (L:MI w0 w P ss ds sv rv xs s nt nx pl br i t p v es j W) (h:RdAt W' br sv rv s j' (!pl)) (hf:Fr W W' (· = br)) (hj:j'<=s.size) (hc:i+es.length<j'):MI w0 w P ss ds sv rv xs s nt nx pl br i t p v es j' W':=by
 have h1:=L.lt;obtain⟨lv,ys,r1,r2,r3,r4⟩:=L.row;exact⟨L.M.call h hf hj,L.fr.trans hf u_,L.lt,ah_ L.hB hf.size,hf.blk L.b2 (by omega),hf.blk L.b3 (by omega),L.ty.fr hf (λ g hg e=>L.M.brP (e▸hg)),hc,lv,ys,hf.blk r1 (by omega),zb_ r2 hf (λ g hg e=>by have:=r2.lt g hg;omega),r3,r4.fr hf (λ g hg e=>by omega)⟩
end
theorem zjq:Tryz.prog.underlying 171=some (.slice 173):=by kernel_rfl
theorem zgc:(Tryz.prog.info? 173).map (λ i=>(i.zero,i.size,i.bytes))=some (some (.agg #[.string ⟨#[]⟩,.nilIface]),2,32):=by kernel_rfl
def zxi (w0 w:World) (P:Nat->Prop) (ss:BA) (ds:List PD) (sv rv:Value) (xs:List Value) (s:BA) (nt:TypeId) (nx:Value) (pl:Bool) (br i:Nat) (t:PT) (p:Int) (v:Value) (R:Nat->Option (DT×Nat)) (es:List (BA×DT)) (j:Nat) (e:Ending) (W':World):Prop:=
 ∃ v1,e=.returned v1/\match j0_ R s es j with|some (es',j')=>v1=.nilIface/\j<j'/\MI w0 w P ss ds sv rv xs s nt nx pl br i t p v es' j' W'|none=>(∃ T x,v1=.iface T x)/\BadL w sv rv s nt nx pl br v1 W'
theorem zsr {w0 w:World}{P:Nat->Prop}{ss:BA}{ds:List PD}{sv rv:Value}{xs:List Value}{s:BA}{nt:TypeId}{nx:Value}{pl:Bool}{br i:Nat}{t:PT}{p:Int}{es:List (BA×DT)}{j f:Nat}{W:World}(L:MI w0 w P ss ds sv rv xs s nt nx pl br i t p (.iface vT vx) es j W) (hI:yd_ w0) (hR:∀ j',j<j'->j'<=s.size->DatN w0 P ss ds sv rv xs s nt nx pl br f t j') (hgo:∀ j d j',rdT s (za_ ds) pl f t j=some (d,j')->j<j') :
 Calls prog 215 #[.pointer (some ⟨w.heap.size,0,none⟩),.pointer (some ⟨w.heap.size+2,0,none⟩),.pointer (some ⟨w.heap.size+1,0,none⟩)] W (zxi w0 w P ss ds sv rv xs s nt nx pl br i t p (.iface vT vx) (rdT s (za_ ds) pl f t) es j):=by
 refine hq_ λ POST Q_=>?_;have c20:=L.b2.c0;have hjs:=L.M.il;have hs3:=L.M.hs
 have hs4:s.size<=4000:=by omega
 obtain⟨n,hnn⟩:∃ n,es.length=n:=⟨_,rfl⟩;obtain⟨last,hla⟩:∃ o,zey es=o:=⟨_,rfl⟩
 have hcn:i+n<j:=by rw[<- hnn];exact L.c
 have hlt:=L.lt;have hBW:=L.hB;have hle:=zf9 hjs;obtain⟨e1,he1⟩:∃ e1,zp_ s j=e1:=⟨_,rfl⟩;rw[he1] at hle;obtain⟨key,hkey⟩:∃ k,s.extract j e1=k:=⟨_,rfl⟩
 have hks:key.size<=4000:=by rw[<- hkey,as_];omega
 have hrun:=q_ (show Calls prog 216 #[.pointer (some ⟨br,0,none⟩),.func (.func 217) #[] #[]] W λ e w'=>e=.returned (.string key)/\Fr W w' (· = br)/\RdAt w' br sv rv s e1 (!pl) by
  have h:=zbb L.M.R hs4 hjs
  rw[show zm_ 97 122 s j=e1 from he1,hkey] at h
  exact h)
 have hrk:H_ (zeo s true (zey es) j=if bt s e1=58/\zen last key=true then some (key,e1+1) else none):=q_ (by unfold zeo;rw[if_pos rfl,he1,hkey,hla]);have hL1:H_ (∀ w1,Fr W w1 (· = br)->RdAt w1 br sv rv s e1 (!pl)->MI w0 w P ss ds sv rv xs s nt nx pl br i t p (.iface vT vx) es e1 w1):=q_ (λ w1 hf h=>L.call h hf hle.2 (by omega))
 have hbad:H_ (j0_ (rdT s (za_ ds) pl f t) s es j=none->∀ w1 j1,Fr W w1 (· = br)->RdAt w1 br sv rv s j1 (!pl)->j1<=s.size->POST (.returned (.iface nt nx)) w1):=q_ (λ hst w1 j1 hf h hj=>by
  rw[Q_.o]
  refine⟨_,rfl,?_⟩
  rw[hst]
  exact⟨⟨_,_,rfl⟩,L.fr.trans hf u_,.base,j1,h,hj⟩)
 replace L:=q_ L;replace hnn:=q_ hnn;replace hla:=q_ hla;clear he1 hkey
 by_cases hri:zen last key=true
 case neg=>
  have hst:=q_ (show j0_ (rdT s (za_ ds) pl f t) s es j=none by unfold j0_;rw[hrk.o,if_neg (λ h=>hri h.2)])
  cases last with
  | none=>exact absurd rfl hri
  | some lk=>
   have hless:(Op.bytesLess key.toList lk.toList||key.toList==lk.toList)=true:=by
    rw[zbr]
    cases hb:Op.bytesLess lk.toList key.toList with
    | false=>rfl
    | true=>exact absurd hb hri
   obtain⟨lv,ys,r1,r2,hq,_⟩:=L.o.row;rw[hla.o,hnn.o] at hq;obtain⟨m,hm,hym⟩:=hq;rw[hnn.o] at r2;have hm':n=m+1:=hm;subst hm';obtain⟨la,lc,rfl⟩:=zf_ r2;obtain⟨g,cap,hgc⟩:=zk_ r2 (by simp);cases hgc
   have hwp:IntKind.i64.wrap (((m+1:Nat):Int)-1)=(m:Int):=by rw[IntKind.wrap_i64];omega
   have hmp:(0:Int)<((m+1:Nat):Int):=by omega
   have hfac:H_ (∀ w1,Fr W w1 (· = br)->w1.cell? ⟨w.heap.size+2,0,none⟩=some (.slice (some ⟨g,0,none⟩) (m+1) lc)/\w1.cell? ⟨g,m*2,none⟩=some (.string lk)):=q_ (λ w1 hf=>⟨by rw[(hf.blk r1 (by omega)).cell 0];rfl,zs_ (zb_ r2 hf (λ g' hg e=>by have:=r2.lt g' hg;omega)) rfl hym⟩);clear r1 r2 hym hm hri hR hgo
   go_in
   go_wp2_with (go_at_call 216;refine hrun.o.mono ?_;rintro e w1 ⟨rfl,hf1,h1⟩;obtain⟨k0,k1⟩:=hfac.o w1 hf1;have e0:=(hL1.o w1 hf1 h1).M.e;replace hf1:=q_ hf1;replace h1:=q_ h1)
   try go_ret
   exact hbad.o hst.o w1 e1 hf1.o h1.o hle.2
 case pos=>
  cases last with
  | none=>
   obtain⟨lv,ys,r1,r2,hm,_⟩:=L.o.row;rw[hla.o,hnn.o] at hm;rw[hnn.o] at r2;have hm':n=0:=hm;subst hm';obtain⟨la,lc,rfl⟩:=zf_ r2;have hfac:H_ (∀ w1,Fr W w1 (· = br)->w1.cell? ⟨w.heap.size+2,0,none⟩=some (.slice la 0 lc)):=q_ (λ w1 hf=>by rw[(hf.blk r1 (by omega)).cell 0];rfl);clear r1 r2 hm
   by_cases h58:bt s e1=58
   case neg=>
    have hst:=q_ (show j0_ (rdT s (za_ ds) pl f t) s es j=none by unfold j0_;rw[hrk.o,if_neg (λ h=>h58 h.1)]);replace h58:=q_ h58;clear hR hgo hri
    go_in
    go_wp2_with (first
     |(go_at_call 216;refine hrun.o.mono ?_;rintro e w1 ⟨rfl,hf1,h1⟩;have k0:=hfac.o w1 hf1;have e0:=(hL1.o w1 hf1 h1).M.e;have b20:=(hL1.o w1 hf1 h1).b2.c0;have L1:=q_ (hL1.o w1 hf1 h1);replace hf1:=q_ hf1;replace h1:=q_ h1)
     |(go_at_call 164;refine(xc_ 58 h1.o hs4 hle.2 rfl (by decide) h58.o).mono ?_;rintro e w2 ⟨rfl,hf2,h2⟩;have e2:=(L1.o.call h2 hf2 hle.2 L1.o.c).M.e;replace hf2:=q_ hf2;replace h2:=q_ h2))
    try go_ret
    exact hbad.o hst.o w2 e1 (hf1.o.trans hf2.o u_) h2.o hle.2
   case pos=>
    have hlt2:e1+1<=s.size:=zl_ (s:=s) (i:=e1) (by omega)
    have hsm:j0_ (rdT s (za_ ds) pl f t) s es j=(rdT s (za_ ds) pl f t (e1+1)).map (λ q=>(es++[(key,q.1)],q.2)):=by
     unfold j0_;rw[hrk.o,if_pos ⟨h58,hri⟩]
    replace h58:=q_ h58
    cases hp:rdT s (za_ ds) pl f t (e1+1) with
    | none=>
     have hst:=q_ (show j0_ (rdT s (za_ ds) pl f t) s es j=none by rw[hsm,hp];rfl);replace hp:=q_ hp;clear hsm hgo hri
     go_in
     go_wp2_with (first
      |(go_at_call 216;refine hrun.o.mono ?_;rintro e w1 ⟨rfl,hf1,h1⟩;have k0:=hfac.o w1 hf1;have e0:=(hL1.o w1 hf1 h1).M.e;have b20:=(hL1.o w1 hf1 h1).b2.c0;have L1:=q_ (hL1.o w1 hf1 h1);replace hf1:=q_ hf1;replace h1:=q_ h1)
      |(go_at_call 164;refine(z7_ 58 h1.o hs4 hle.2 rfl (by decide) h58.o).mono ?_;rintro e w2 ⟨rfl,hf2,h2⟩;have L2:=L1.o.call h2 hf2 hlt2 (by have:=L1.o.c;omega);have hC:=q_ (hR (e1+1) (by omega) hlt2 w2 _ L2.M L2.ty);have d20:=L2.b2.c0;have d31:=L2.b3.c1;replace L2:=q_ L2;have F2:=q_ (hf1.o.trans hf2 u_);clear hf2 h2)
      |(go_at_call 110;refine hC.o.mono ?_;rintro e w3 ⟨v3,ev3,rfl,hf3,hm3⟩;rw[hp.o] at hm3;obtain⟨rfl,hErr,j3,h3,hj3⟩:=hm3;obtain⟨eT,ex,rfl⟩:=hErr.iface;have G3:=(L2.o.M.call h3 hf3 hj3).G;have F3:=q_ (L2.o.fr.trans hf3 u_);replace hErr:=q_ hErr;replace h3:=q_ h3;replace G3:=q_ G3;clear hf3)
      |(go_at_call 187;refine(zbf (k:=key) hI G3.o hks).mono ?_;intro e w4 hW;obtain⟨g4,tx4,rfl,hg4,hb4,hf4⟩:=hW;replace hf4:=q_ hf4;replace hb4:=q_ hb4))
     try go_ret
     rw[Q_.o];refine⟨_,rfl,?_⟩;rw[hst.o];have hs1:=F3.o.size;have hsW:=L2.o.fr.size;exact⟨⟨_,_,rfl⟩,F3.o.trans hf4.o v_,.within g4 (by omega) tx4 hb4.o ((hErr.o.less hsW).fr hf4.o u_),j3,hf4.o.blk h3.o id,hj3⟩
    | some q=>
     obtain⟨d,j2⟩:=q;have hj2:=hgo _ d j2 hp;have hst:=q_ (show j0_ (rdT s (za_ ds) pl f t) s es j=some (es++[(key,d)],j2) by rw[hsm,hp];rfl);replace hp:=q_ hp;obtain⟨ti,hi1,hi2,hi3,hi4⟩:=info_parts zgc;clear hsm hgo hri
     go_in
     go_wp2_with (first
      |(go_at_call 216;refine hrun.o.mono ?_;rintro e w1 ⟨rfl,hf1,h1⟩;have k0:=hfac.o w1 hf1;have e0:=(hL1.o w1 hf1 h1).M.e;have b20:=(hL1.o w1 hf1 h1).b2.c0;have L1:=q_ (hL1.o w1 hf1 h1);replace hf1:=q_ hf1;replace h1:=q_ h1)
      |(go_at_call 164;refine(z7_ 58 h1.o hs4 hle.2 rfl (by decide) h58.o).mono ?_;rintro e w2 ⟨rfl,hf2,h2⟩;have L2:=L1.o.call h2 hf2 hlt2 (by have:=L1.o.c;omega);have hC:=q_ (hR (e1+1) (by omega) hlt2 w2 _ L2.M L2.ty);have d20:=L2.b2.c0;have d31:=L2.b3.c1;replace L2:=q_ L2;have F2:=q_ (hf1.o.trans hf2 u_);clear hf2 h2)
      |(go_at_call 110;refine hC.o.mono ?_;rintro e w3 ⟨v3,ev3,rfl,hf3,hm3⟩;rw[hp.o] at hm3;obtain⟨rfl,hDv,h3,hj3⟩:=hm3;obtain⟨dT,dx,rfl⟩:=hDv.iface;have L3:=L2.o.call h3 hf3 hj3 (by have:=L2.o.c;omega);obtain⟨lv3,ys3,q1,q2,q3,q4⟩:=L2.o.row;rw[hnn.o] at q2;have r0:=q_ q2.lt;have r1:=hf3.blk q1 (by omega);have r2:=zb_ q2 hf3 (λ g hg e=>(by have:=q2.lt g hg;omega));have rM:=q_ (q4.fr hf3 (λ g hg e=>(by omega)));obtain⟨la3,lc3,rfl⟩:=zf_ r2;replace hDv:=q_ hDv;clear q1 q2 q3 q4;have k3:=r1.c0;have kg:=r1.thaw 0;have hB3:=L3.hB;replace L3:=q_ L3;replace r1:=q_ r1;replace r2:=q_ r2;clear hf3 h3)
      |(at_builtin;go_must (refine wpList_append_own_at _ rfl _ _ 171 rfl (w.heap.size+3) 173 ti _ 2 32 zjq hi1 hi2 hi3 hi4 rfl (by decide) (.slice la3 0 lc3) 0 ys3 rfl ?hown _ 1 1 [.string key,.iface dT dx] rfl rfl (yh_ _ #[.string key,.iface dT dx] _ _ ?nn) ?one ?b1 ?b2 ?b3 ?_)
        case hown=>exact World.ownsRow.alloc r2.o _
        case nn=>simp
        case one=>simp[Value.oneCell']
        case b1=>unfold maxLen;omega
        case b2=>omega
        case b3=>simp;omega
        intro v5 w5 ho5 hg5 hn5 hl5
        have hF5:Fr w3 w5 (λ g=>(Value.slice la3 0 lc3).ownBlock=some g):=Fr.grown ((Fr.refl w3 _).alloc _) hg5 (λ k e _=>e)
        have hl6:H_ (v5.ownBlock=(Value.slice la3 0 lc3).ownBlock\/∃ h,v5.ownBlock=some h/\w3.heap.size<=h):=q_ (hl5.imp id (λ e=>⟨_,e,by simp⟩))
        have R5:=hF5.blk r1.o (λ e=>by have:=r2.o.lt _ e;omega)
        have e5:=R5.c0
        have f5:=R5.thaw 0
        have hn5':∀ g,v5.ownBlock=some g->w.heap.size+3<=g:=(λ g hg=>(ho5.lt g hg).1)
        obtain⟨g5,cap5,rfl⟩:=zk_ ho5 (by omega)
        replace hF5:=q_ hF5
        replace ho5:=q_ ho5
        replace R5:=q_ R5
        replace hn5':=q_ hn5'
        clear hg5 hl5 hn5))
     try go_ret
     rw[Q_.o];refine⟨_,rfl,?_⟩;rw[hst.o];refine⟨rfl,by omega,?_⟩;have hG:Fr w5 (w5.setCell ⟨w.heap.size+2,0,none⟩ (.slice (some ⟨g5,0,none⟩) (0+1) cap5)) (λ g=>g=w.heap.size+2):=(Fr.refl w5 (λ g=>g=w.heap.size+2)).setCell ⟨w.heap.size+2,0,none⟩ _ (λ _=>rfl);have hH:Fr w3 (w5.setCell ⟨w.heap.size+2,0,none⟩ (.slice (some ⟨g5,0,none⟩) (0+1) cap5)) (λ g=>w.heap.size+2<=g):=(hF5.o.mono (λ g _ e=>by have:=r2.o.lt g e;omega)).trans hG (λ g _ e=>by omega);have hM1:=L3.o.M;have hbG:=hM1.brG;have hl1:=L3.o.lt
     have hPl:∀ g,P g->¬ (w.heap.size+2<=g):=λ g hg=>by have:=hM1.Pbr g hg;omega
     have hyl:=r2.o.1;exact⟨⟨hH.blk hM1.R (by omega),hM1.D.fr hH hPl,hM1.G.fr hH (by have:=hM1.lt;omega) (λ g e=>by omega),hM1.E,hM1.Pbr,hM1.brG,hM1.hs,hM1.il⟩,L3.o.fr.trans hH (λ g hg e=>by omega),L3.o.lt,ah_ L3.o.hB hH.size,hH.blk L3.o.b2 (by omega),hH.blk L3.o.b3 (by omega),L3.o.ty.fr hH hPl,by rw[al_,hnn.o,ai_];omega,_,_,R5.o.set 0 _,by rw[al_,hnn.o,ai_];exact zb_ ho5.o hG (λ g hg e=>by have:=hn5'.o g hg;omega),by rw[jp_,al_,hnn.o,ai_];exact⟨0,rfl,by rw[aw_ (by omega),show 0*2-ys3.length=0 by omega];rfl⟩,rM.o.grow (c:=w.heap.size+2) (hDv.o.mono (λ g _ hg=>⟨by have:=L2.o.hB;omega,λ e=>by have:=r0.o g e;omega⟩)) hks ((hF5.o.mono (λ _ _ e=>.inl e)).trans hG (λ _ _ e=>.inr e)) (by omega) hl6.o⟩
  | some lk=>
   have hless:(Op.bytesLess key.toList lk.toList||key.toList==lk.toList)=false:=by
    rw[zbr];rw[show Op.bytesLess lk.toList key.toList=true from hri]
    rfl
   obtain⟨lv,ys,r1,r2,hq,_⟩:=L.o.row;rw[hla.o,hnn.o] at hq;obtain⟨m,hm,hym⟩:=hq;rw[hnn.o] at r2;have hm':n=m+1:=hm;subst hm';obtain⟨la,lc,rfl⟩:=zf_ r2;obtain⟨g,cap,hgc⟩:=zk_ r2 (by simp);cases hgc
   have hwp:IntKind.i64.wrap (((m+1:Nat):Int)-1)=(m:Int):=by rw[IntKind.wrap_i64];omega
   have hmp:(0:Int)<((m+1:Nat):Int):=by omega
   have hfac:H_ (∀ w1,Fr W w1 (· = br)->w1.cell? ⟨w.heap.size+2,0,none⟩=some (.slice (some ⟨g,0,none⟩) (m+1) lc)/\w1.cell? ⟨g,m*2,none⟩=some (.string lk)):=q_ (λ w1 hf=>⟨by rw[(hf.blk r1 (by omega)).cell 0];rfl,zs_ (zb_ r2 hf (λ g' hg e=>by have:=r2.lt g' hg;omega)) rfl hym⟩);clear r1 r2 hym hm
   by_cases h58:bt s e1=58
   case neg=>
    have hst:=q_ (show j0_ (rdT s (za_ ds) pl f t) s es j=none by unfold j0_;rw[hrk.o,if_neg (λ h=>h58 h.1)]);replace h58:=q_ h58;clear hR hgo hri
    go_in
    go_wp2_with (first
     |(go_at_call 216;refine hrun.o.mono ?_;rintro e w1 ⟨rfl,hf1,h1⟩;obtain⟨k0,k1⟩:=hfac.o w1 hf1;have e0:=(hL1.o w1 hf1 h1).M.e;have b20:=(hL1.o w1 hf1 h1).b2.c0;have L1:=q_ (hL1.o w1 hf1 h1);replace hf1:=q_ hf1;replace h1:=q_ h1)
     |(go_at_call 164;refine(xc_ 58 h1.o hs4 hle.2 rfl (by decide) h58.o).mono ?_;rintro e w2 ⟨rfl,hf2,h2⟩;have e2:=(L1.o.call h2 hf2 hle.2 L1.o.c).M.e;replace hf2:=q_ hf2;replace h2:=q_ h2))
    try go_ret
    exact hbad.o hst.o w2 e1 (hf1.o.trans hf2.o u_) h2.o hle.2
   case pos=>
    have hlt2:e1+1<=s.size:=zl_ (s:=s) (i:=e1) (by omega)
    have hsm:j0_ (rdT s (za_ ds) pl f t) s es j=(rdT s (za_ ds) pl f t (e1+1)).map (λ q=>(es++[(key,q.1)],q.2)):=by
     unfold j0_;rw[hrk.o,if_pos ⟨h58,hri⟩]
    replace h58:=q_ h58
    cases hp:rdT s (za_ ds) pl f t (e1+1) with
    | none=>
     have hst:=q_ (show j0_ (rdT s (za_ ds) pl f t) s es j=none by rw[hsm,hp];rfl);replace hp:=q_ hp;clear hsm hgo hri
     go_in
     go_wp2_with (first
      |(go_at_call 216;refine hrun.o.mono ?_;rintro e w1 ⟨rfl,hf1,h1⟩;obtain⟨k0,k1⟩:=hfac.o w1 hf1;have e0:=(hL1.o w1 hf1 h1).M.e;have b20:=(hL1.o w1 hf1 h1).b2.c0;have L1:=q_ (hL1.o w1 hf1 h1);replace hf1:=q_ hf1;replace h1:=q_ h1)
      |(go_at_call 164;refine(z7_ 58 h1.o hs4 hle.2 rfl (by decide) h58.o).mono ?_;rintro e w2 ⟨rfl,hf2,h2⟩;have L2:=L1.o.call h2 hf2 hlt2 (by have:=L1.o.c;omega);have hC:=q_ (hR (e1+1) (by omega) hlt2 w2 _ L2.M L2.ty);have d20:=L2.b2.c0;have d31:=L2.b3.c1;replace L2:=q_ L2;have F2:=q_ (hf1.o.trans hf2 u_);clear hf2 h2)
      |(go_at_call 110;refine hC.o.mono ?_;rintro e w3 ⟨v3,ev3,rfl,hf3,hm3⟩;rw[hp.o] at hm3;obtain⟨rfl,hErr,j3,h3,hj3⟩:=hm3;obtain⟨eT,ex,rfl⟩:=hErr.iface;have G3:=(L2.o.M.call h3 hf3 hj3).G;have F3:=q_ (L2.o.fr.trans hf3 u_);replace hErr:=q_ hErr;replace h3:=q_ h3;replace G3:=q_ G3;clear hf3)
      |(go_at_call 187;refine(zbf (k:=key) hI G3.o hks).mono ?_;intro e w4 hW;obtain⟨g4,tx4,rfl,hg4,hb4,hf4⟩:=hW;replace hf4:=q_ hf4;replace hb4:=q_ hb4))
     try go_ret
     rw[Q_.o];refine⟨_,rfl,?_⟩;rw[hst.o];have hs1:=F3.o.size;have hsW:=L2.o.fr.size;exact⟨⟨_,_,rfl⟩,F3.o.trans hf4.o v_,.within g4 (by omega) tx4 hb4.o ((hErr.o.less hsW).fr hf4.o u_),j3,hf4.o.blk h3.o id,hj3⟩
    | some q=>
     obtain⟨d,j2⟩:=q;have hj2:=hgo _ d j2 hp;have hst:=q_ (show j0_ (rdT s (za_ ds) pl f t) s es j=some (es++[(key,d)],j2) by rw[hsm,hp];rfl);replace hp:=q_ hp;obtain⟨ti,hi1,hi2,hi3,hi4⟩:=info_parts zgc;clear hsm hgo hri
     go_in
     go_wp2_with (first
      |(go_at_call 216;refine hrun.o.mono ?_;rintro e w1 ⟨rfl,hf1,h1⟩;obtain⟨k0,k1⟩:=hfac.o w1 hf1;have e0:=(hL1.o w1 hf1 h1).M.e;have b20:=(hL1.o w1 hf1 h1).b2.c0;have L1:=q_ (hL1.o w1 hf1 h1);replace hf1:=q_ hf1;replace h1:=q_ h1)
      |(go_at_call 164;refine(z7_ 58 h1.o hs4 hle.2 rfl (by decide) h58.o).mono ?_;rintro e w2 ⟨rfl,hf2,h2⟩;have L2:=L1.o.call h2 hf2 hlt2 (by have:=L1.o.c;omega);have hC:=q_ (hR (e1+1) (by omega) hlt2 w2 _ L2.M L2.ty);have d20:=L2.b2.c0;have d31:=L2.b3.c1;replace L2:=q_ L2;have F2:=q_ (hf1.o.trans hf2 u_);clear hf2 h2)
      |(go_at_call 110;refine hC.o.mono ?_;rintro e w3 ⟨v3,ev3,rfl,hf3,hm3⟩;rw[hp.o] at hm3;obtain⟨rfl,hDv,h3,hj3⟩:=hm3;obtain⟨dT,dx,rfl⟩:=hDv.iface;have L3:=L2.o.call h3 hf3 hj3 (by have:=L2.o.c;omega);obtain⟨lv3,ys3,q1,q2,q3,q4⟩:=L2.o.row;rw[hnn.o] at q2;have r0:=q_ q2.lt;have r1:=hf3.blk q1 (by omega);have r2:=zb_ q2 hf3 (λ g hg e=>(by have:=q2.lt g hg;omega));have rM:=q_ (q4.fr hf3 (λ g hg e=>(by omega)));obtain⟨la3,lc3,rfl⟩:=zf_ r2;replace hDv:=q_ hDv;clear q1 q2 q3 q4;have k3:=r1.c0;have kg:=r1.thaw 0;have hB3:=L3.hB;replace L3:=q_ L3;replace r1:=q_ r1;replace r2:=q_ r2;clear hf3 h3)
      |(at_builtin;go_must (refine wpList_append_own_at _ rfl _ _ 171 rfl (w.heap.size+3) 173 ti _ 2 32 zjq hi1 hi2 hi3 hi4 rfl (by decide) (.slice la3 (m+1) lc3) (m+1) ys3 rfl ?hown _ 1 1 [.string key,.iface dT dx] rfl rfl (yh_ _ #[.string key,.iface dT dx] _ _ ?nn) ?one ?b1 ?b2 ?b3 ?_)
        case hown=>exact World.ownsRow.alloc r2.o _
        case nn=>simp
        case one=>simp[Value.oneCell']
        case b1=>unfold maxLen;omega
        case b2=>omega
        case b3=>simp;omega
        intro v5 w5 ho5 hg5 hn5 hl5
        have hF5:Fr w3 w5 (λ g=>(Value.slice la3 (m+1) lc3).ownBlock=some g):=Fr.grown ((Fr.refl w3 _).alloc _) hg5 (λ k e _=>e)
        have hl6:H_ (v5.ownBlock=(Value.slice la3 (m+1) lc3).ownBlock\/∃ h,v5.ownBlock=some h/\w3.heap.size<=h):=q_ (hl5.imp id (λ e=>⟨_,e,by simp⟩))
        have R5:=hF5.blk r1.o (λ e=>by have:=r2.o.lt _ e;omega)
        have e5:=R5.c0
        have f5:=R5.thaw 0
        have hn5':∀ g,v5.ownBlock=some g->w.heap.size+3<=g:=(λ g hg=>(ho5.lt g hg).1)
        obtain⟨g5,cap5,rfl⟩:=zk_ ho5 (by omega)
        replace hF5:=q_ hF5
        replace ho5:=q_ ho5
        replace R5:=q_ R5
        replace hn5':=q_ hn5'
        clear hg5 hl5 hn5))
     try go_ret
     rw[Q_.o];refine⟨_,rfl,?_⟩;rw[hst.o];refine⟨rfl,by omega,?_⟩;have hG:Fr w5 (w5.setCell ⟨w.heap.size+2,0,none⟩ (.slice (some ⟨g5,0,none⟩) ((m+1)+1) cap5)) (λ g=>g=w.heap.size+2):=(Fr.refl w5 (λ g=>g=w.heap.size+2)).setCell ⟨w.heap.size+2,0,none⟩ _ (λ _=>rfl);have hH:Fr w3 (w5.setCell ⟨w.heap.size+2,0,none⟩ (.slice (some ⟨g5,0,none⟩) ((m+1)+1) cap5)) (λ g=>w.heap.size+2<=g):=(hF5.o.mono (λ g _ e=>by have:=r2.o.lt g e;omega)).trans hG (λ g _ e=>by omega);have hM1:=L3.o.M;have hbG:=hM1.brG;have hl1:=L3.o.lt
     have hPl:∀ g,P g->¬ (w.heap.size+2<=g):=λ g hg=>by have:=hM1.Pbr g hg;omega
     have hyl:=r2.o.1;exact⟨⟨hH.blk hM1.R (by omega),hM1.D.fr hH hPl,hM1.G.fr hH (by have:=hM1.lt;omega) (λ g e=>by omega),hM1.E,hM1.Pbr,hM1.brG,hM1.hs,hM1.il⟩,L3.o.fr.trans hH (λ g hg e=>by omega),L3.o.lt,ah_ L3.o.hB hH.size,hH.blk L3.o.b2 (by omega),hH.blk L3.o.b3 (by omega),L3.o.ty.fr hH hPl,by rw[al_,hnn.o,ai_];omega,_,_,R5.o.set 0 _,by rw[al_,hnn.o,ai_];exact zb_ ho5.o hG (λ g hg e=>by have:=hn5'.o g hg;omega),by rw[jp_,al_,hnn.o,ai_];exact⟨(m+1),rfl,by rw[aw_ (by omega),show(m+1)*2-ys3.length=0 by omega];rfl⟩,rM.o.grow (c:=w.heap.size+2) (hDv.o.mono (λ g _ hg=>⟨by have:=L2.o.hB;omega,λ e=>by have:=r0.o g e;omega⟩)) hks ((hF5.o.mono (λ _ _ e=>.inl e)).trans hG (λ _ _ e=>.inr e)) (by omega) hl6.o⟩
open Go.RowKit
theorem zv5 {w0 w:World}{P:Nat->Prop}{ss:BA}{ds:List PD}{sv rv:Value}{xs:List Value}{s:BA}{nt:TypeId}{nx:Value}{pl:Bool}{br i:Nat}{t:PT}{p:Int}(M:NC w0 P ss ds sv rv xs s nt nx pl br i w) (hT:TyV w P t (.iface vT vx)){W':World}(h:RdAt W' br sv rv s (i+1) (!pl)) (hf:Fr (((w.alloc (.cells #[.pointer (some ⟨br,0,none⟩)] 225)).alloc (.cells #[.int .i64 p,.iface vT vx] 254)).alloc (.cells #[.slice none 0 0] 171)) W' (· = br)) (hi:i+1<=s.size) :
 MI w0 w P ss ds sv rv xs s nt nx pl br i t p (.iface vT vx) [] (i+1) W':=by
 have hbl:=M.lt;have A:Fr w (((w.alloc (.cells #[.pointer (some ⟨br,0,none⟩)] 225)).alloc (.cells #[.int .i64 p,.iface vT vx] 254)).alloc (.cells #[.slice none 0 0] 171)) (λ _=>False):=(((Fr.refl w _).alloc _).alloc _).alloc _
 have hz:(((w.alloc (.cells #[.pointer (some ⟨br,0,none⟩)] 225)).alloc (.cells #[.int .i64 p,.iface vT vx] 254)).alloc (.cells #[.slice none 0 0] 171)).heap.size=w.heap.size+3:=by simp
 have z1:(w.alloc (.cells #[.pointer (some ⟨br,0,none⟩)] 225)).heap.size=w.heap.size+1:=by simp
 have z2:((w.alloc (.cells #[.pointer (some ⟨br,0,none⟩)] 225)).alloc (.cells #[.int .i64 p,.iface vT vx] 254)).heap.size=w.heap.size+2:=by simp
 have B2:=((Blk.new w #[.pointer (some ⟨br,0,none⟩)] 225).alloc (.cells #[.int .i64 p,.iface vT vx] 254)).alloc (.cells #[.slice none 0 0] 171);have B3:=(Blk.new (w.alloc (.cells #[.pointer (some ⟨br,0,none⟩)] 225)) #[.int .i64 p,.iface vT vx] 254).alloc (.cells #[.slice none 0 0] 171);have B6:=Blk.new ((w.alloc (.cells #[.pointer (some ⟨br,0,none⟩)] 225)).alloc (.cells #[.int .i64 p,.iface vT vx] 254)) #[.slice none 0 0] 171;rw[z1] at B3;rw[z2] at B6;have hsz:=hf.size;exact⟨(M.new A).call h hf hi,(A.mono v_).trans hf u_,hbl,by omega,hf.blk B2 (by omega),hf.blk B3 (by omega),(hT.fr A u_).fr hf (λ g hg e=>M.brP (e▸hg)),by simp,_,_,hf.blk B6 (by omega),World.ownsRow_nil _ _ _ _,rfl,RowE.nil _ _ _ _⟩
theorem zki {q0:Nat}{w0 w:World}{P:Nat->Prop}{ss:BA}{ds:List PD}{sv rv:Value}{xs:List Value}{s:BA}{nt:TypeId}{nx:Value}{pl:Bool}{br i:Nat}{t:PT}{p:Int}{f:Nat}(M:NC w0 P ss ds sv rv xs s nt nx pl br i w) (hT:TyV w P t (.iface vT vx)) (hI:yd_ w0) (hR:∀ j,i<j->j<=s.size->DatN w0 P ss ds sv rv xs s nt nx pl br f t j) :
 Calls prog 169 #[.pointer (some ⟨br,0,none⟩),.agg #[.int .i64 p,.iface vT vx]] w (yr_ (za_ ds) (.wrap 123 q0 t) w sv rv s nt nx pl br (vt_ (rdT s (za_ ds) pl f t) s 123 i)):=by
 refine hq_ λ POST Q_=>?_
 have hs4:s.size<=4000:=by have:=M.hs;omega
 have A:Fr w (((w.alloc (.cells #[.pointer (some ⟨br,0,none⟩)] 225)).alloc (.cells #[.int .i64 p,.iface vT vx] 254)).alloc (.cells #[.slice none 0 0] 171)) (λ _=>False):=(((Fr.refl w _).alloc _).alloc _).alloc _;have hgo:=j2_ s (za_ ds) pl f t
 have IT:zo9 (St:=List (BA×DT)) sv rv s nt nx pl br 215 #[.pointer (some ⟨w.heap.size,0,none⟩),.pointer (some ⟨w.heap.size+2,0,none⟩),.pointer (some ⟨w.heap.size+1,0,none⟩)] (j0_ (rdT s (za_ ds) pl f t) s) (λ n j W=>MI w0 w P ss ds sv rv xs s nt nx pl br i t p (.iface vT vx) n j W) (BadL w sv rv s nt nx pl br):=
  { F:=λ W=>by kernel_rfl
    R:=λ h=>⟨h.M.R,h.M.il,h.M.e⟩
    K:=λ h h1 h2 h3 h4=>h.call h1 h2 h3 (by have:=h.c;omega)
    B:=λ h=>⟨h.fr,.base,_,h.M.R,h.M.il⟩
    C:=λ {n j W} h=>(zsr h hI (λ j' h1 h2=>hR j' (by have:=h.c;omega) h2) (λ j d j' e=>(hgo j d j' e).1)).mono (by
     rintro e W' ⟨v,he,hm⟩
     refine⟨v,he,?_⟩
     cases hq:j0_ (rdT s (za_ ds) pl f t) s n j with
     | none=>rw[hq] at hm;exact hm
     | some q=>obtain⟨a,b⟩:=q;rw[hq] at hm;exact hm) }
 have hC:=q_ (zdr IT (w:=(((w.alloc (.cells #[.pointer (some ⟨br,0,none⟩)] 225)).alloc (.cells #[.int .i64 p,.iface vT vx] 254)).alloc (.cells #[.slice none 0 0] 171))) (σ:=([]:List (BA×DT))) (i:=i) (co:=123) (cf:=125) 123 125 (A.blk M.R id) M.il (λ W' h hf hi=>zv5 M hT h hf hi) (λ W' h hf=>⟨⟨(A.mono v_).trans hf u_,.base,i,h,M.il⟩,((M.new A).call h hf M.il).e⟩) hs4 rfl rfl (by decide) (by decide));have hres:=q_ (zv8 (rdT s (za_ ds) pl f t) s i);clear IT A hgo hT hR hI M
 cases hp:zao (j0_ (rdT s (za_ ds) pl f t) s) s 123 125 [] i with
 | none=>
  rw[hp] at hres;replace hp:=q_ hp
  go_in
  go_wp2_with (go_at_call 213;refine hC.o.mono ?_;rintro e w2 ⟨v2,rfl,hm⟩;rw[hp.o] at hm;obtain⟨⟨eT,ex,rfl⟩,hB⟩:=hm;replace hB:=q_ hB)
  try go_ret
  rw[Q_.o,hres.o];obtain⟨h1,h2,h3⟩:=hB.o;exact⟨.nilIface,_,rfl,h1,rfl,h2,h3⟩
 | some q=>
  obtain⟨n2,j2⟩:=q;rw[hp] at hres;replace hp:=q_ hp
  go_in
  go_wp2_with (go_at_call 213;refine hC.o.mono ?_;rintro e w2 ⟨v2,rfl,hm⟩;rw[hp.o] at hm;obtain⟨rfl,hL⟩:=hm;obtain⟨lv,ys,r1,r2,r3,r4⟩:=hL.row;obtain⟨la,lc,rfl⟩:=zf_ r2;have k0:=r1.c0;have hDv:=q_ ((show RowE (za_ ds) _ _ (.wrap 123 q0 t) _ _ from r4).dat (Q:=λ g=>w.heap.size<=g) r2 (λ g _ hg=>(by omega)) (λ g hg=>(by have:=r2.lt g hg;omega)));replace hL:=q_ hL;clear r1 r2 r3 r4)
  try go_ret
  rw[Q_.o,hres.o];exact nok hDv.o hL.o.fr hL.o.M.R hL.o.M.il
open Go.RowKit
theorem yr_.pre {env:Nat->Option PB}{t:PT}{w w1 w':World}{sv rv:Value}{s:BA}{nt:TypeId}{nx:Value}{pl:Bool}{br:Nat}{res:Option (DT×Nat)}{e:Ending}(A:Fr w w1 (λ _=>False)) (h:yr_ env t w1 sv rv s nt nx pl br res e w'):yr_ env t w sv rv s nt nx pl br res e w':=by
 obtain⟨v,ev,he,hf,hm⟩:=h;refine⟨v,ev,he,(A.mono v_).trans hf u_,?_⟩
 cases res with
 | none=>exact⟨hm.1,hm.2.1.less A.size,hm.2.2⟩
 | some q=>obtain⟨d,j⟩:=q;exact⟨hm.1,hm.2.1.mono (λ g _ hg=>ah_ A.size hg),hm.2.2⟩
def NumN (w0:World) (P:Nat->Prop) (ss:BA) (ds:List PD) (sv rv:Value) (xs:List Value) (s:BA) (nt:TypeId) (nx:Value) (pl:Bool) (br:Nat):Prop:=
 ∀ (w:World) (i:Nat) (t:PT),NC w0 P ss ds sv rv xs s nt nx pl br i w->
  Calls prog 166 #[.pointer (some ⟨br,0,none⟩),.int .i64 (-2147483648),.int .i64 2147483647] w (yr_ (za_ ds) t w sv rv s nt nx pl br ((vr_ s 105 i).map (λ q=>(.mk 105 q.1 noB [] [],q.2))))/\
  Calls prog 166 #[.pointer (some ⟨br,0,none⟩),.int .i64 (-9223372036854775808),.int .i64 9223372036854775807] w (yr_ (za_ ds) t w sv rv s nt nx pl br ((vr_ s 108 i).map (λ q=>(.mk 108 q.1 noB [] [],q.2))))
section
variable {w0:World} {P:Nat->Prop} {ss:BA} {ds:List PD} {sv rv:Value} {xs:List Value} {s:BA} {nt:TypeId} {nx:Value} {pl:Bool} {br i:Nat} {f p:Nat}
theorem zyq:DatN w0 P ss ds sv rv xs s nt nx pl br (f+1) (.leaf 110 p) i:=by
 intro w v M hT
 obtain rfl:v=.iface 244 (.agg #[.int .i64 (p:Int)]):=by
  cases hT with
  | base _ _ h=>rfl
  | name _ _ h=>exact absurd h (by decide)
 refine hq_ λ POST Q_=>?_;have A:Fr w (w.alloc (.cells #[.int .i64 (p:Int)] 244)) (λ _=>False):=(Fr.refl w _).alloc _;have M0:=M.new A
 have hs4:s.size<=4000:=by have:=M.hs;omega
 have hil:=M.il;have A':=q_ (A.mono (T:=λ g=>g=br) v_);replace M0:=q_ M0;clear M hT;have a0:=jm_
 by_cases h78:bt s i=78
 ·have hlt:i+1<=s.size:=zl_ (s:=s) (i:=i) (by omega);have hr:=q_ (show rdT s (za_ ds) pl (f+1) (.leaf 110 p) i=some (.mk 110 0 noB [] [],i+1) by rw[rdT];unfold va_;rw[if_pos rfl,if_pos h78]);replace h78:=q_ h78
  go_in
  go_wp2_with (go_at_call 164;refine(z7_ 78 M0.o.R hs4 hil rfl (by decide) h78.o).mono ?_;rintro e w2 ⟨rfl,hf2,h2⟩;replace hf2:=q_ hf2;replace h2:=q_ h2)
  try go_ret
  rw[Q_.o,hr.o];exact nok (DaV.plain .nothing (by decide)) (A'.o.trans hf2.o u_) h2.o hlt
 ·have hr:=q_ (show rdT s (za_ ds) pl (f+1) (.leaf 110 p) i=none by rw[rdT];unfold va_;rw[if_pos rfl,if_neg h78]);replace h78:=q_ h78
  go_in
  go_wp2_with (go_at_call 164;refine(xc_ 78 M0.o.R hs4 hil rfl (by decide) h78.o).mono ?_;rintro e w2 ⟨rfl,hf2,h2⟩;have e2:=(M0.o.call h2 hf2 hil).e;replace hf2:=q_ hf2;replace h2:=q_ h2)
  go_quiet (fail)
  go_wp2_with fail
  try go_ret
  rw[Q_.o,hr.o];exact nerr ((A'.o.trans hf2.o u_).still (ze_.drewN _ _)) (h2.o.still (ze_.drewN _ _)) hil
theorem zyo:DatN w0 P ss ds sv rv xs s nt nx pl br (f+1) (.leaf 116 p) i:=by
 intro w v M hT
 obtain rfl:v=.iface 245 (.agg #[.int .i64 (p:Int)]):=by
  cases hT with
  | base _ _ h=>rfl
  | name _ _ h=>exact absurd h (by decide)
 have hr:rdT s (za_ ds) pl (f+1) (.leaf 116 p) i=tEnd s i:=by
  rw[rdT];unfold va_ tEnd;rw[if_neg (by decide),if_pos rfl]
 rw[hr];refine hq_ λ POST Q_=>?_;clear hr hT;have A:Fr w (w.alloc (.cells #[.int .i64 (p:Int)] 245)) (λ _=>False):=(Fr.refl w _).alloc _;have M0:=M.new A;have hC:=q_ (zp0 (t:=.leaf 116 p) M0);replace A:=q_ A;clear M0 M;have a0:=zh_ 245 (by decide);have a1:=zau
 go_in
 go_wp2_with (go_at_call 165;refine hC.o.mono ?_;intro e w2 hN;obtain⟨v2,ev2,rfl,hN2⟩:=hN;replace hN2:=q_ hN2)
 try go_ret
 rw[Q_.o];exact yr_.pre A.o ⟨v2,ev2,rfl,hN2.o⟩
theorem zys (hN:NumN w0 P ss ds sv rv xs s nt nx pl br):DatN w0 P ss ds sv rv xs s nt nx pl br (f+1) (.leaf 105 p) i:=by
 intro w v M hT
 obtain rfl:v=.iface 247 (.agg #[.int .i64 (p:Int)]):=by
  cases hT with
  | base _ _ h=>rfl
  | name _ _ h=>exact absurd h (by decide)
 have hr:rdT s (za_ ds) pl (f+1) (.leaf 105 p) i=(vr_ s 105 i).map (λ q=>(.mk 105 q.1 noB [] [],q.2)):=by
  rw[rdT];unfold va_;rw[if_neg (by decide),if_neg (by decide),if_pos (by decide)];cases vr_ s 105 i<;>rfl
 rw[hr];refine hq_ λ POST Q_=>?_;clear hr hT;have A:Fr w (w.alloc (.cells #[.int .i64 (p:Int)] 247)) (λ _=>False):=(Fr.refl w _).alloc _;have M0:=M.new A;have hC:=q_ ((hN _ _ (.leaf 105 p) M0).1);replace A:=q_ A;clear M0 M;have a0:=zh_ 247 (by decide);have a1:=zo_ 247 (by decide);have a2:=zdh
 go_in
 go_wp2_with (go_at_call 166;refine hC.o.mono ?_;intro e w2 hN;obtain⟨v2,ev2,rfl,hN2⟩:=hN;replace hN2:=q_ hN2)
 try go_ret
 rw[Q_.o];exact yr_.pre A.o ⟨v2,ev2,rfl,hN2.o⟩
theorem zyr (hN:NumN w0 P ss ds sv rv xs s nt nx pl br):DatN w0 P ss ds sv rv xs s nt nx pl br (f+1) (.leaf 108 p) i:=by
 intro w v M hT
 obtain rfl:v=.iface 249 (.agg #[.int .i64 (p:Int)]):=by
  cases hT with
  | base _ _ h=>rfl
  | name _ _ h=>exact absurd h (by decide)
 have hr:rdT s (za_ ds) pl (f+1) (.leaf 108 p) i=(vr_ s 108 i).map (λ q=>(.mk 108 q.1 noB [] [],q.2)):=by
  rw[rdT];unfold va_;rw[if_neg (by decide),if_neg (by decide),if_pos (by decide)];cases vr_ s 108 i<;>rfl
 rw[hr];refine hq_ λ POST Q_=>?_;clear hr hT;have A:Fr w (w.alloc (.cells #[.int .i64 (p:Int)] 249)) (λ _=>False):=(Fr.refl w _).alloc _;have M0:=M.new A;have hC:=q_ ((hN _ _ (.leaf 108 p) M0).2);replace A:=q_ A;clear M0 M;have a0:=zh_ 249 (by decide);have a1:=zo_ 249 (by decide);have a2:=zz_ 249 (by decide)
 have a3:=zby
 go_in
 go_wp2_with (go_at_call 166;refine hC.o.mono ?_;intro e w2 hN;obtain⟨v2,ev2,rfl,hN2⟩:=hN;replace hN2:=q_ hN2)
 try go_ret
 rw[Q_.o];exact yr_.pre A.o ⟨v2,ev2,rfl,hN2.o⟩
theorem zyp:DatN w0 P ss ds sv rv xs s nt nx pl br (f+1) (.leaf 115 p) i:=by
 intro w v M hT
 obtain rfl:v=.iface 250 (.agg #[.int .i64 (p:Int)]):=by
  cases hT with
  | base _ _ h=>rfl
  | name _ _ h=>exact absurd h (by decide)
 have hr:rdT s (za_ ds) pl (f+1) (.leaf 115 p) i=sEnd s i:=by
  rw[rdT];unfold va_ sEnd;rw[if_neg (by decide),if_neg (by decide),if_neg (by decide),if_pos rfl]
 rw[hr];refine hq_ λ POST Q_=>?_;clear hr hT;have A:Fr w (w.alloc (.cells #[.int .i64 (p:Int)] 250)) (λ _=>False):=(Fr.refl w _).alloc _;have M0:=M.new A;have hC:=q_ (zm4 (t:=.leaf 115 p) M0);replace A:=q_ A;clear M0 M;have a0:=zh_ 250 (by decide);have a1:=zo_ 250 (by decide);have a2:=zz_ 250 (by decide);have a3:=zw_ 250 (by decide);have a4:=zbx
 go_in
 go_wp2_with (go_at_call 167;refine hC.o.mono ?_;intro e w2 hN;obtain⟨v2,ev2,rfl,hN2⟩:=hN;replace hN2:=q_ hN2)
 try go_ret
 rw[Q_.o];exact yr_.pre A.o ⟨v2,ev2,rfl,hN2.o⟩
theorem z0b {t:PT}(hI:yi_ w0) (hR:∀ j,i<j->j<=s.size->DatN w0 P ss ds sv rv xs s nt nx pl br f t j):DatN w0 P ss ds sv rv xs s nt nx pl br (f+1) (.wrap 91 p t) i:=by
 intro w v M hT
 obtain⟨v2,hv2,rfl⟩:∃ v2,TyV w P t v2/\v=.iface 252 (.agg #[.int .i64 (p:Int),v2]):=by
  cases hT with
  | wrap _ _ h=>exact⟨_,h,rfl⟩
 obtain⟨vT,vx,rfl⟩:=hv2.iface;rw[rdT];refine hq_ λ POST Q_=>?_;clear hT;have A:Fr w (w.alloc (.cells #[.int .i64 (p:Int),.iface vT vx] 252)) (λ _=>False):=(Fr.refl w _).alloc _;have M0:=M.new A;have hC:=q_ (zss (q0:=p) (p:=(p:Int)) M0 (hv2.fr A u_) hI hR);replace A:=q_ A;clear M0 M;have a0:=zh_ 252 (by decide);have a1:=zo_ 252 (by decide);have a2:=zz_ 252 (by decide);have a3:=zw_ 252 (by decide);have a4:=z3_ 252 (by decide);have a5:=v2_
 go_in
 go_wp2_with (go_at_call 168;refine hC.o.mono ?_;intro e w2 hN;obtain⟨v2,ev2,rfl,hN2⟩:=hN;replace hN2:=q_ hN2)
 try go_ret
 rw[Q_.o];exact yr_.pre A.o ⟨v2,ev2,rfl,hN2.o⟩
theorem zyn {t:PT}(hI:yd_ w0) (hR:∀ j,i<j->j<=s.size->DatN w0 P ss ds sv rv xs s nt nx pl br f t j):DatN w0 P ss ds sv rv xs s nt nx pl br (f+1) (.wrap 123 p t) i:=by
 intro w v M hT
 obtain⟨v2,hv2,rfl⟩:∃ v2,TyV w P t v2/\v=.iface 254 (.agg #[.int .i64 (p:Int),v2]):=by
  cases hT with
  | wrap _ _ h=>exact⟨_,h,rfl⟩
 obtain⟨vT,vx,rfl⟩:=hv2.iface;rw[rdT];refine hq_ λ POST Q_=>?_;clear hT;have A:Fr w (w.alloc (.cells #[.int .i64 (p:Int),.iface vT vx] 254)) (λ _=>False):=(Fr.refl w _).alloc _;have M0:=M.new A;have hC:=q_ (zki (q0:=p) (p:=(p:Int)) M0 (hv2.fr A u_) hI hR);replace A:=q_ A;clear M0 M;have a0:=zh_ 254 (by decide);have a1:=zo_ 254 (by decide);have a2:=zz_ 254 (by decide);have a3:=zw_ 254 (by decide);have a4:=z3_ 254 (by decide);have a5:=zy_ 254 (by decide);have a6:=jx_
 go_in
 go_wp2_with (go_at_call 169;refine hC.o.mono ?_;intro e w2 hN;obtain⟨v2,ev2,rfl,hN2⟩:=hN;replace hN2:=q_ hN2)
 try go_ret
 rw[Q_.o];exact yr_.pre A.o ⟨v2,ev2,rfl,hN2.o⟩
theorem z0c {l:List PT}(hne:l≠[]) (hI:yi_ w0) (hR:∀ t∈l,DatN w0 P ss ds sv rv xs s nt nx true br f t i):DatN w0 P ss ds sv rv xs s nt nx true br (f+1) (.alts p l) i:=by
 intro w v M hT
 cases l with
 | nil=>exact absurd rfl hne
 | cons t r=>
 obtain⟨X,v2,ho,_,hX,rfl⟩:∃ X v2,w.ownsRow 0 88 1 v2 (t::r).length ((List.range (t::r).length).map X)/\(∀ g,v2.ownBlock=some g->P g)/\(∀ i u,(t::r)[i]?=some u->TyV w P u (X i))/\v=.iface 258 (.agg #[.int .i64 (p:Int),v2]):=by
  cases hT with
  | alts _ X ho hP h=>exact⟨X,_,ho,hP,h,rfl⟩
 obtain⟨ba,bc,rfl⟩:=zf_ ho
 have hr:rdT s (za_ ds) true (f+1) (.alts p (t::r)) i=oneB 0 (rdT s (za_ ds) true f t i):=by
  rw[rdT];unfold y9_;rw[if_pos rfl];simp only;cases rdT s (za_ ds) true f t i<;>rfl
 rw[hr];refine hq_ λ POST Q_=>?_;have hRt:=hR t (by simp);have hX0:=hX 0 t rfl;clear hT hr hR hX hne;have A:Fr w (w.alloc (.cells #[.int .i64 (p:Int),.slice ba (t::r).length bc] 258)) (λ _=>False):=(Fr.refl w _).alloc _;have M0:=M.new A;have hC:=q_ (zpy (tt:=.alts p (t::r)) (p:=(p:Int)) rfl M0 (zb_ ho A u_) (hX0.fr A u_) hI hRt);replace A:=q_ A;clear M0 M ho hX0 hRt;generalize (t::r).length=n at hC A⊢;have a0:=zh_ 258 (by decide);have a1:=zo_ 258 (by decide);have a2:=zz_ 258 (by decide);have a3:=zw_ 258 (by decide);have a4:=z3_ 258 (by decide);have a5:=zy_ 258 (by decide);have a6:=yw_ 258 (by decide);have a7:=x1_
 go_in
 go_wp2_with (go_at_call 170;refine hC.o.mono ?_;intro e w2 hN;obtain⟨v2,ev2,rfl,hN2⟩:=hN;replace hN2:=q_ hN2)
 try go_ret
 rw[Q_.o];exact yr_.pre A.o ⟨v2,ev2,rfl,hN2.o⟩
end
open Go.RowKit
def DatB (tt:PT) (w0:World) (P:Nat->Prop) (ss:BA) (ds:List PD) (sv rv:Value) (xs:List Value) (s:BA) (nt:TypeId) (nx:Value) (pl:Bool) (br f:Nat) (b:PB) (i:Nat):Prop:=
 ∀ (w:World) (v:Value),NC w0 P ss ds sv rv xs s nt nx pl br i w->xo_ w P ss b v->
  Calls prog 110 #[.pointer (some ⟨br,0,none⟩),v] w (yr_ (za_ ds) tt w sv rv s nt nx pl br (y6_ (rdT s (za_ ds) pl f) s b i))
section
variable {tt:PT} {w0:World} {P:Nat->Prop} {ss:BA} {ds:List PD} {sv rv:Value} {xs:List Value} {s:BA} {nt:TypeId} {nx:Value} {pl:Bool} {br i:Nat} {f p:Nat}
theorem zt9 (hsub:∀ k g,fs[k]?=some g->yb_ (za_ ds) tt 0 k=g.ty) (hsm:∀ g∈fs,zn_ g.letter=true) (hlen:fs.length<=300) (hse:zry (za_ ds)) (hok:∀ g∈fs,okT (za_ ds) g.ty) (hR:∀ g∈fs,∀ j,i<j->j<=s.size->DatN w0 P ss ds sv rv xs s nt nx pl br f g.ty j):DatB tt w0 P ss ds sv rv xs s nt nx pl br f (.recd fs) i:=by
 intro w v M hT
 obtain⟨p,sv2,zs,ho,hP,h,rfl⟩:∃ (p:Nat) (sv2:Value) (zs:List Value),w.ownsRow 0 220 4 sv2 fs.length zs/\(∀ g,sv2.ownBlock=some g->P g)/\vi_ w P ss fs zs/\v=.iface 263 (.agg #[.int .i64 (p:Int),sv2]):=by
  cases hT with
  | recd p ho hP h=>exact⟨p,_,_,ho,hP,h,rfl⟩
 obtain⟨fa,fc,rfl⟩:=zf_ ho;refine hq_ λ POST Q_=>?_;clear hT;have A:Fr w (w.alloc (.cells #[.int .i64 (p:Int),.slice fa fs.length fc] 263)) (λ _=>False):=(Fr.refl w _).alloc _;have M0:=M.new A;have hC:=q_ (zm3 (p:=(p:Int)) hsub M0 ((⟨ho,hP,h⟩:vj_ w P ss fs _ _).fr A u_) hsm hlen hse hok hR);replace A:=q_ A;clear M0 M ho h hR hok hsm;have a0:=zh_ 263 (by decide);have a1:=zo_ 263 (by decide);have a2:=zz_ 263 (by decide);have a3:=zw_ 263 (by decide);have a4:=z3_ 263 (by decide);have a5:=zy_ 263 (by decide);have a6:=yw_ 263 (by decide);have a7:=ym_ 263 (by decide);have a8:=jb_ 263 (by decide);have a9:=vh_
 go_in
 go_wp2_with (go_at_call 171;refine hC.o.mono ?_;intro e w2 hN;obtain⟨v2,ev2,rfl,hN2⟩:=hN;replace hN2:=q_ hN2)
 try go_ret
 rw[Q_.o];exact yr_.pre A.o ⟨v2,ev2,rfl,hN2.o⟩
theorem zua {l:List (Nat×Nat)}{o:Option (Nat×Nat)}(hsy:∀ n,symL (za_ ds) tt n=(l.map Prod.fst).getD n 0) (hsm:∀ q∈l,zn_ q.1=true) (hlen:l.length<=300):DatB tt w0 P ss ds sv rv xs s nt nx pl br f (.enum l o) i:=by
 intro w v M hT
 obtain⟨p,sv2,u,ho,hP,hu,rfl⟩:∃ (p:Nat) (sv2 u:Value),w.ownsRow 0 217 2 sv2 l.length (yg_ l)/\(∀ g,sv2.ownBlock=some g->P g)/\UnkV w P o u/\v=.iface 268 (.agg #[.int .i64 (p:Int),sv2,u]):=by
  cases hT with
  | enum p ho hP h=>exact⟨p,_,_,ho,hP,h,rfl⟩
 obtain⟨fa,fc,rfl⟩:=zf_ ho
 obtain⟨dd,rfl⟩:∃ d,u=.pointer d:=by
  unfold UnkV at hu;split at hu
  ·exact⟨_,hu⟩
  ·obtain⟨g',_,e,_⟩:=hu;exact⟨_,e⟩
 have hr:y6_ (rdT s (za_ ds) pl f) s (.enum l o) i=eEnd s l i:=by
  unfold y6_ eEnd;simp only
  by_cases hlt:i<s.size
  ·rw[if_pos hlt];cases (l.map Prod.fst).findIdx? (λ c=>c==bt s i)<;>rfl
  ·rw[if_neg hlt,zef (by omega),zc8 (λ h=>by
    obtain⟨q,hq,e⟩:=bk_.1 h
    obtain⟨k,hk,_⟩:=zb9 (hsm q hq)
    omega)]
 rw[hr];refine hq_ λ POST Q_=>?_;clear hT hu hr;have A:Fr w (w.alloc (.cells #[.int .i64 (p:Int),.slice fa l.length fc,.pointer dd] 268)) (λ _=>False):=(Fr.refl w _).alloc _;have M0:=M.new A;have hC:=q_ (zm1 (t:=tt) (p:=(p:Int)) (u:=.pointer dd) M0 hsy (zb_ ho A u_) hP hlen hsm);replace A:=q_ A;clear M0 M ho hsm;have a0:=zh_ 268 (by decide);have a1:=zo_ 268 (by decide);have a2:=zz_ 268 (by decide);have a3:=zw_ 268 (by decide);have a4:=z3_ 268 (by decide);have a5:=zy_ 268 (by decide);have a6:=yw_ 268 (by decide);have a7:=ym_ 268 (by decide);have a8:=jb_ 268 (by decide);have a9:=yo_ 268 (by decide);have a10:=zbz
 go_in
 go_wp2_with (go_at_call 172;refine hC.o.mono ?_;intro e w2 hN;obtain⟨v2,ev2,rfl,hN2⟩:=hN;replace hN2:=q_ hN2)
 try go_ret
 rw[Q_.o];exact yr_.pre A.o ⟨v2,ev2,rfl,hN2.o⟩
theorem zqw {n:Nat}:DatB tt w0 P ss ds sv rv xs s nt nx pl br f (.bytes n) i:=by
 intro w v M hT
 obtain⟨p,rfl⟩:∃ p:Nat,v=.iface 271 (.agg #[.int .i64 (p:Int),.int .i64 (n:Int)]):=by
  cases hT with
  | bytes p n=>exact⟨p,rfl⟩
 have hr:y6_ (rdT s (za_ ds) pl f) s (.bytes n) i=fEnd s n i:=by
  unfold y6_ fEnd
  rfl
 rw[hr];refine hq_ λ POST Q_=>?_;clear hT hr;have A:Fr w (w.alloc (.cells #[.int .i64 (p:Int),.int .i64 (n:Int)] 271)) (λ _=>False):=(Fr.refl w _).alloc _;have M0:=M.new A;have hC:=q_ (zp5 (t:=tt) (p:=(p:Int)) (n:=n) M0);replace A:=q_ A;clear M0 M;have a0:=zh_ 271 (by decide);have a1:=zo_ 271 (by decide);have a2:=zz_ 271 (by decide);have a3:=zw_ 271 (by decide);have a4:=z3_ 271 (by decide);have a5:=zy_ 271 (by decide);have a6:=yw_ 271 (by decide);have a7:=ym_ 271 (by decide);have a8:=jb_ 271 (by decide);have a9:=yo_ 271 (by decide);have a10:=zah 271 (by decide);have a11:=zcm
 go_in
 go_wp2_with (go_at_call 173;refine hC.o.mono ?_;intro e w2 hN;obtain⟨v2,ev2,rfl,hN2⟩:=hN;replace hN2:=q_ hN2)
 try go_ret
 rw[Q_.o];exact yr_.pre A.o ⟨v2,ev2,rfl,hN2.o⟩
theorem zt6 {c:Nat}(hc:z0_ c=true){b:PB}(hb:za_ ds c=some b) (hR:DatB (.leaf c p) w0 P ss ds sv rv xs s nt nx pl br f b i):DatN w0 P ss ds sv rv xs s nt nx pl br (f+1) (.leaf c p) i:=by
 intro w v M hT
 have hcr:65<=c/\c<=70:=by simpa[z0_] using hc
 obtain rfl:v=.iface 261 (.agg #[.int .i64 (p:Int),.int .u8 (c:Int)]):=by
  cases hT with
  | base _ _ h=>
   simp only[zu_,au_,beq_iff_eq] at h;omega
  | name _ _ h=>rfl
 have hr:rdT s (za_ ds) pl (f+1) (.leaf c p) i=y6_ (rdT s (za_ ds) pl f) s b i:=by
  rw[rdT];unfold va_;rw[if_neg (by omega),if_neg (by omega),if_neg (by omega),if_neg (by omega),hb]
 rw[hr];obtain⟨R_,hRES⟩:∃ r,r=y6_ (rdT s (za_ ds) pl f) s b i:=⟨_,rfl⟩;rw[<- hRES];refine hq_ λ POST Q_=>?_;have A:Fr w (w.alloc (.cells #[.int .i64 (p:Int),.int .u8 (c:Int)] 261)) (λ _=>False):=(Fr.refl w _).alloc _;have M0:=M.new A;have hN0:=Blk.new w #[.int .i64 (p:Int),.int .u8 (c:Int)] 261;have hbl:=M.lt;have hcalls:=q_ (And.intro M0 (And.intro hN0 A));clear hr hT M M0 hN0 A;have a0:=zh_ 261 (by decide);have a1:=zo_ 261 (by decide);have a2:=zz_ 261 (by decide);have a3:=zw_ 261 (by decide);have a4:=z3_ 261 (by decide);have a5:=zy_ 261 (by decide);have a6:=yw_ 261 (by decide);have a7:=ym_ 261 (by decide);have a8:=v1_
 go_in
 go_wp2_with fail
 obtain⟨M0,hN0,A⟩:=hcalls.o;have M1:=M0.still (ze_.drew _);have u0:=M0.R.c0;have u1:=M0.R.c1;have u2:=hN0.c1;have hCm:=ju_ (rv:=rv) c M1.D;refine z8_ (λ W=>W.cell? ⟨br,0,none⟩=some sv/\W.cell? ⟨br,1,none⟩=some rv/\W.cell? ⟨w.heap.size,1,none⟩=some (.int .u8 (c:Int))) (by kernel_rfl) ?_;refine tA_ 0 rfl (by kernel_rfl) (λ _ _ _ h=>h) (by rintro W ⟨h1,h2,h3⟩;go_simp<;>rfl) ?_;refine tA_ 1 rfl (by kernel_rfl) (λ _ _ _ h=>h) (by rintro W ⟨h1,h2,h3⟩;go_simp<;>rfl) ?_;refine tA_ 2 rfl (by kernel_rfl) (λ _ _ _ h=>h) (by rintro W ⟨h1,h2,h3⟩;go_simp<;>rfl) ?_;refine tA_ 3 rfl (by kernel_rfl) (λ _ _ _ h=>h) (by rintro W ⟨h1,h2,h3⟩;go_simp<;>rfl) ?_;refine tA_ 4 rfl (by kernel_rfl) (λ _ _ _ h=>h) (by rintro W ⟨h1,h2,h3⟩;go_simp<;>rfl) ?_;refine tA_ 5 rfl (by kernel_rfl) (λ _ _ _ h=>h) (by rintro W ⟨h1,h2,h3⟩;go_simp<;>rfl) ?_;refine tA_ 6 rfl (by kernel_rfl) (λ _ _ _ h=>h) (by rintro W ⟨h1,h2,h3⟩;go_simp<;>rfl) ?_;refine zr_ 7 rfl (by kernel_rfl) ⟨u0,u1,u2⟩ (λ K hK=>?_);go_simp;refine hCm.mono ?_;rintro e w2 ⟨v2,rfl,hf2,hm2⟩;refine hK _ _ ?_;clear hK K;rw[hb] at hm2;have M2:=M1.new hf2;have hCd:=hR w2 v2 M2 hm2;have hN2:=hf2.blk (((Fr.refl _ (λ _=>False)).still (ze_.drew (w.alloc (.cells #[.int .i64 (p:Int),.int .u8 (c:Int)] 261)))).blk hN0 id) id;have x0:=M2.R.c0;have x1:=M2.R.c1;have x2:=hN2.c1;rw[<- hRES] at hCd;refine zr_ 8 rfl (by kernel_rfl) ⟨x0,x1,x2⟩ (λ K hK=>?_);go_simp;refine hCd.mono ?_;rintro e w3 ⟨v3,ev3,rfl,hf3,hm3⟩;refine hK _ _ ?_;clear hK K
 obtain⟨j3,h3⟩:∃ j,RdAt w3 br sv rv s j (!pl):=by
  cases R_ with
  | none=>exact⟨_,hm3.2.2.choose_spec.1⟩
  | some q=>exact⟨_,hm3.2.2.1⟩
 have y0:=h3.c0;have y1:=h3.c1;have y2:=(hf3.blk hN2 (by omega)).c1;replace hm3:=q_ hm3;replace hf3:=q_ hf3;replace hf2:=q_ hf2;replace A:=q_ A;clear hCm hCd M0 M1 M2 hN0 hN2 hm2 hcalls u0 u1 u2 x0 x1 x2 h3;refine tA_ 9 rfl (by kernel_rfl) (λ _ _ _ h=>h) (by rintro W ⟨h1,h2,h3⟩;go_simp<;>rfl) ?_;refine tA_ 10 rfl (by kernel_rfl) (λ _ _ _ h=>h) (by rintro W ⟨h1,h2,h3⟩;go_simp<;>rfl) ?_;refine tA_ 11 rfl (by kernel_rfl) (λ _ _ _ h=>h) (by rintro W ⟨h1,h2,h3⟩;go_simp<;>rfl) ?_;refine tA_ 12 rfl (by kernel_rfl) (λ _ _ _ h=>h) (by rintro W ⟨h1,h2,h3⟩;go_simp<;>rfl) ?_;refine z5_ (by kernel_rfl) ⟨y0,y1,y2⟩ ?_ _
 go_wp2_with fail
 refine bodyPost_ret (v:=.tuple #[v3,ev3]) (by simp[results,results110,go_sem]) rfl ?_;rw[Q_.o];exact yr_.pre (A.o.trans (((Fr.refl _ (λ _=>False)).still (ze_.drew _)).trans hf2.o u_) u_) ⟨v3,ev3,rfl,hf3.o,hm3.o⟩
end
def v0_ (ds:List PD):Prop:=∀ c b,za_ ds c=some b->plB b/\okB (za_ ds) b
theorem v0_.sm {ds:List PD}(h:v0_ ds):zry (za_ ds):=λ c _ _ e=>(h c _ e).1.2.1
def brL (pl:Bool) (l:List PT):Prop:=pl=true\/l.length<=300
mutual
def brT (pl:Bool):PT->Prop
 | .leaf _ _=>True
 | .wrap _ _ t=>brT pl t
 | .alts _ l=>brL pl l/\brTs pl l
def brTs (pl:Bool):List PT->Prop
 | []=>True
 | t::r=>brT pl t/\brTs pl r
end
def brE (pl:Bool) (ds:List PD):Prop:=∀ c fs,za_ ds c=some (.recd fs)->∀ g∈fs,brT pl g.ty
mutual
theorem zfg:∀ t:PT,brT true t
 | .leaf _ _=>by unfold brT;trivial
 | .wrap _ _ t=>by unfold brT;exact zfg t
 | .alts _ l=>by unfold brT;exact⟨.inl rfl,zlt l⟩
theorem zlt:∀ l:List PT,brTs true l
 | []=>by unfold brTs;trivial
 | t::r=>by unfold brTs;exact⟨zfg t,zlt r⟩
end
theorem zuh {pl:Bool}:∀ {l:List PT},brTs pl l->∀ t∈l,brT pl t
 | [],_,t,h=>by cases h
 | a::r,h,t,ht=>by
  unfold brTs at h
  rcases an_.1 ht with rfl|ht
  ·exact h.1
  ·exact zuh h.2 t ht
def UniN (w0:World) (P:Nat->Prop) (ss:BA) (ds:List PD) (sv rv:Value) (xs:List Value) (s:BA) (nt:TypeId) (nx:Value) (pl:Bool) (br:Nat):Prop:=
 ∀ (f p:Nat) (l:List PT) (i:Nat),l≠[]->brL pl l->i<=s.size->(∀ t∈l,∀ j,(pl=true->j=i)->(pl=false->i<j)->j<=s.size->DatN w0 P ss ds sv rv xs s nt nx pl br f t j)->DatN w0 P ss ds sv rv xs s nt nx pl br (f+1) (.alts p l) i
theorem zrn {w0:World}{P:Nat->Prop}{ss:BA}{ds:List PD}{sv rv:Value}{xs:List Value}{s:BA}{nt:TypeId}{nx:Value}{br:Nat}(hI:yi_ w0):UniN w0 P ss ds sv rv xs s nt nx true br:=
 λ _ _ _ i hne _ hi hR=>z0c hne hI (λ t ht=>hR t ht i (λ _=>rfl) (λ h=>by cases h) hi)
theorem zt8 {w0:World}{P:Nat->Prop}{ss:BA}{ds:List PD}{sv rv:Value}{xs:List Value}{s:BA}{nt:TypeId}{nx:Value}{pl:Bool}{br:Nat}(hE:v0_ ds) (hB:brE pl ds) (hI:yi_ w0) (hQ:yd_ w0) (hN:NumN w0 P ss ds sv rv xs s nt nx pl br) (hU:UniN w0 P ss ds sv rv xs s nt nx pl br) :
 ∀ (f:Nat) (t:PT) (i:Nat),okT (za_ ds) t->brT pl t->i<=s.size->2*(s.size-i)+(if t.isAlts=true then 1 else 0)<f->DatN w0 P ss ds sv rv xs s nt nx pl br f t i:=by
 intro f
 induction f with
 | zero=>intro t i _ _ _ h;omega
 | succ f ih=>
  intro t i ht hbt hi hm;have next:∀ u,okT (za_ ds) u->brT pl u->∀ j,i<j->j<=s.size->DatN w0 P ss ds sv rv xs s nt nx pl br f u j:=λ u hu hb j h1 h2=>ih u j hu hb h2 (by split<;>omega)
  cases t with
  | leaf c p=>
   unfold okT at ht
   rcases ht with hb|⟨hn,pb,he⟩
   ·simp only[zu_,au_,beq_iff_eq] at hb
    rcases hb with(((rfl|rfl)|rfl)|rfl)|rfl
    ·exact zyq
    ·exact zyo
    ·exact zys hN
    ·exact zyr hN
    ·exact zyp
   ·obtain⟨g1,g2⟩:=hE c pb he;refine zt6 hn he ?_
    cases pb with
    | recd fs=>exact zt9 (λ k g hg=>by simp only[yb_,he,aq_,a4_,hg];rfl) g1.2.1 g1.1 hE.sm g2 (λ g hg=>next g.ty (g2 g hg) (hB c fs he g hg))
    | enum l o=>exact zua (λ n=>by simp only[symL,he]) g1.2.1 g1.1
    | bytes n=>exact zqw
  | wrap c p t=>
   unfold okT at ht;unfold brT at hbt
   rcases ht.1 with rfl|rfl
   ·exact z0b hI (next t ht.2 hbt)
   ·exact zyn hQ (next t ht.2 hbt)
  | alts p l=>
   unfold okT at ht;unfold brT at hbt
   have hall:∀ u∈l,okT (za_ ds) u/\u.isAlts=false:=by
    have:=ht.2;clear ht hm hbt
    induction l with
    | nil=>intro u hu;simp at hu
    | cons x r ihr=>
     unfold okTs at this;intro u hu
     rcases an_.1 hu with rfl|hu
     ·exact⟨this.2.1,this.1⟩
     ·exact ihr this.2.2 u hu
   refine hU f p l i ht.1 hbt.1 hi (λ u hu j h1 h2 h3=>?_);refine ih u j (hall u hu).1 (zuh hbt.2 u hu) h3 ?_
   have hij:i<=j:=by
    cases pl with
    | true=>have:=h1 rfl;omega
    | false=>have:=h2 rfl;omega
   rw[(hall u hu).2];simp only[PT.isAlts,if_true] at hm;simp only[az_,if_false];omega
open Go.RowKit
def zgs (env:Nat->Option PB) (t:PT) (w:World) (S:Nat->Prop) (nt:TypeId) (nx:Value) (r:Option DT) (e:Ending) (w':World):Prop:=
 ∃ v ev,e=.returned (.tuple #[v,ev])/\Fr w w' S/\match r with|some d=>ev=.nilIface/\DaV env w' (λ g=>w.heap.size<=g) d t v|none=>v=.nilIface/\ErrD w' w.heap.size nt nx ev
theorem zhi {w0 w:World}{P:Nat->Prop}{ss:BA}{ds:List PD}{sv rv:Value}{xs:List Value}{s:BA}{nt:TypeId}{nx:Value}{pl:Bool}{br:Nat}{t:PT}{v:Value}(M:NC w0 P ss ds sv rv xs s nt nx pl br 0 w) (hT:TyV w P t v) (hR:DatN w0 P ss ds sv rv xs s nt nx pl br (2*s.size+2) t 0) :
 Calls prog 80 #[.pointer (some ⟨br,0,none⟩),v] w (zgs (za_ ds) t w (· = br) nt nx (xn_ (za_ ds) pl t s)):=by
 refine hq_ λ POST Q_=>?_;have hC:=q_ (hR w v M hT);replace M:=q_ M;clear hT hR
 cases hp:rdT s (za_ ds) pl (2*s.size+2) t 0 with
 | none=>
  have hr:=q_ (show xn_ (za_ ds) pl t s=none by unfold xn_;rw[hp]);replace hp:=q_ hp
  go_in
  go_wp2_with (go_at_call 110;refine hC.o.mono ?_;rintro e w1 ⟨v1,ev1,rfl,hf1,hm⟩;rw[hp.o] at hm;obtain⟨rfl,hErr,_⟩:=hm;obtain⟨eT,ex,rfl⟩:=hErr.iface;replace hf1:=q_ hf1;replace hErr:=q_ hErr)
  try go_ret
  rw[Q_.o,hr.o];exact⟨_,_,rfl,hf1.o,rfl,hErr.o⟩
 | some q=>
  obtain⟨d,j⟩:=q;have hj:=(j2_ s (za_ ds) pl _ t 0 d j hp).2
  by_cases hjs:j=s.size
  ·have hr:=q_ (show xn_ (za_ ds) pl t s=some d by unfold xn_;rw[hp];simp only;rw[if_pos hjs])
   have hjn:¬ ((j:Int)<(s.size:Int)):=by omega
   replace hp:=q_ hp;clear hjs hj
   go_in
   go_wp2_with (go_at_call 110;refine hC.o.mono ?_;rintro e w1 ⟨v1,ev1,rfl,hf1,hm⟩;rw[hp.o] at hm;obtain⟨rfl,hDv,h1,_⟩:=hm;obtain⟨dT,dx,rfl⟩:=hDv.iface;replace hDv:=q_ hDv;have c2:=h1.c2;have c3:=h1.c3;replace hf1:=q_ hf1;clear h1)
   go_quiet (fail)
   go_wp2_with fail
   try go_ret
   rw[Q_.o,hr.o];exact⟨_,_,rfl,hf1.o.still (ze_.drewN _ _),rfl,hDv.o.fr ((Fr.refl w1 (λ _=>False)).still (ze_.drewN _ _)) u_⟩
  ·have hr:=q_ (show xn_ (za_ ds) pl t s=none by unfold xn_;rw[hp];simp only;rw[if_neg hjs])
   have hjn:(j:Int)<(s.size:Int):=by omega
   replace hp:=q_ hp;clear hjs
   go_in
   go_wp2_with (go_at_call 110;refine hC.o.mono ?_;rintro e w1 ⟨v1,ev1,rfl,hf1,hm⟩;rw[hp.o] at hm;obtain⟨rfl,hDv,h1,hj1⟩:=hm;obtain⟨dT,dx,rfl⟩:=hDv.iface;clear hDv;have c2:=h1.c2;have c3:=h1.c3;have e1:=(M.o.call h1 hf1 hj1).e;replace hf1:=q_ hf1;clear h1)
   go_quiet (fail)
   go_wp2_with fail
   go_quiet (fail)
   go_wp2_with fail
   try go_ret
   rw[Q_.o,hr.o];exact⟨_,_,rfl,hf1.o.still ((ze_.drewN _ _).trans (ze_.drewN _ _)),rfl,.base⟩
def zh2 (w0:World):Prop:=∀ P ss ds sv rv xs s nt nx pl br,NumN w0 P ss ds sv rv xs s nt nx pl br
theorem zm5 {w0 w:World}{P:Nat->Prop}{ss:BA}{ds:List PD}{sv:Value}{rT:TypeId}{rx:Value}{xs:List Value}{s:BA}{nt:TypeId}{nx:Value}{t:PT}{v:Value}(D:DRow w P ss ds sv xs) (hT:TyV w P t v) (hG:y1_ w0 w) (hk:w0.heap.size<=w.heap.size) (hPw:∀ g,P g->g<w.heap.size) (hE:ErrV 3 w0 nt nx) (hs:s.size<=300) (hok:okT (za_ ds) t) (hen:v0_ ds) (hI:yi_ w0) (hQ:yd_ w0) (hN:zh2 w0) :
 Calls prog 109 #[.agg #[sv,.iface rT rx],v,.string s] w (zgs (za_ ds) t w (λ _=>False) nt nx (xn_ (za_ ds) true t s)):=by
 refine hq_ λ POST Q_=>?_;obtain⟨sa,sc,rfl⟩:=zf_ D.row;have A:Fr w ((w.alloc (.cells #[.slice sa ds.length sc,.iface rT rx] 90)).alloc (.cells #[.slice sa ds.length sc,.iface rT rx,.string s,.int .i64 0,.bool false] 144)) (λ _=>False):=((Fr.refl w _).alloc _).alloc _
 have z1:(w.alloc (.cells #[.slice sa ds.length sc,.iface rT rx] 90)).heap.size=w.heap.size+1:=by simp
 have hR0:=Blk.new (w.alloc (.cells #[.slice sa ds.length sc,.iface rT rx] 90)) #[.slice sa ds.length sc,.iface rT rx,.string s,.int .i64 0,.bool false] 144;rw[z1] at hR0
 have M0:NC w0 P ss ds (.slice sa ds.length sc) (.iface rT rx) xs s nt nx true (w.heap.size+1) 0 ((w.alloc (.cells #[.slice sa ds.length sc,.iface rT rx] 90)).alloc (.cells #[.slice sa ds.length sc,.iface rT rx,.string s,.int .i64 0,.bool false] 144)):=
  ⟨hR0,D.fr A u_,hG.fr A hk (λ g f=>f.elim),hE,λ g hg=>by have:=hPw g hg;omega,by omega,by omega,aj_ _⟩
 have hC:=q_ (zhi M0 (hT.fr A u_) (zt8 hen (λ _ _ _ g _=>zfg g.ty) hI hQ (hN _ _ _ _ _ _ _ _ _ _ _) (zrn hI) _ t 0 hok (zfg t) o_ (by split<;>omega)));replace A:=q_ A;clear M0 hR0 z1 D hT hG
 go_in
 go_wp2_with (go_at_call 80;refine hC.o.mono ?_;rintro e w1 ⟨v1,ev1,rfl,hf1,hm⟩;replace hf1:=q_ hf1;replace hm:=q_ hm)
 try go_ret
 rw[Q_.o];have hsz:=A.o.size;refine⟨v1,ev1,rfl,A.o.trans hf1.o (λ g hg e=>by omega),?_⟩;have hm':=hm.o
 cases hq:xn_ (za_ ds) true t s with
 | none=>rw[hq] at hm';exact⟨hm'.1,hm'.2.less hsz⟩
 | some d=>rw[hq] at hm';exact⟨hm'.1,hm'.2.mono (λ g _ hg=>by omega)⟩
end Go.Proofs.YthmjjpkjgjklmaaGreatDoor
