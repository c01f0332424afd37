import Derived.Test.YtiifagiebikmdaaGreatDoorW27
import Derived.Test.YtiifagiebikmdaaGreatDoorW11
import Derived.Test.YtiifagiebikmdaaGreatDoorA00
set_option maxHeartbeats 16000000
set_option maxRecDepth 100000
set_option linter.unusedSimpArgs false
open Go.Proofs.Tryz
namespace Go.Proofs.YtiifagiebikmdaaGreatDoor
open Go.RowKit
variable {fs:List PF}{vT:TypeId}{vx:Value}
theorem zqq {s:BA}{env:Nat->Option PB}{pl:Bool}{f i:Nat}(m:zqj env) (k:∀ g∈fs,okT env g.ty) :
 zb1 fs.length (zaq (za7 (rdT s env pl f) fs) s 40 41 [] i)=yo_ (rdT s env pl f) s (.recd fs) i:=by
 unfold zaq yo_;simp only
 by_cases b:bt s i=40
 ·rw[if_pos b,if_pos b];have d:=zj_ (s:=s) (i:=i) (by omega)
  by_cases a:bt s (i+1)=41
  ·rw[if_pos a]
   cases fs with
   | nil=>
    simp only[a6_,ya_,zb1];rw[if_pos a]
    rfl
   | cons g r=>
    rw[ay_,ya_,if_pos rfl,zyh m a f g.ty (k g (by simp))]
    rfl
  ·rw[if_neg a]
   cases c:fs with
   | nil=>
    rw[jo_];simp only[za7,List.getElem?_nil,a6_,ya_,zb1];rw[if_neg a]
   | cons g r=>
    rw[<- c];have h:=zkf (rdT s env pl f) s fs (zam s env pl f) (s.size+2) [] (i+1) (by rw[c];simp) d (by omega);rw[h];simp only[ao_,List.drop_zero]
    cases ya_ (rdT s env pl f) s true (fs.map PF.ty) (i+1) with
    | none=>rfl
    | some q=>
     obtain⟨l,e⟩:=q
     rfl
 ·rw[if_neg b,if_neg b]
  rfl
theorem ztn {w0 w:World}{P:Nat->Prop}{ss:BA}{ds:List PD}{sv rv:Value}{xs:List Value}{s:BA}{nt:TypeId}{nx:Value}{pl:Bool}{br i:Nat}{p:Int}{a:Option Addr}{b:Nat}{zs:List Value}(M:NC w0 P ss ds sv rv xs s nt nx pl br i w) (m:j8_ w P ss fs (.slice a fs.length b) zs){W':World}(h:RdAt W' br sv rv s (i+1) (!pl)) (c:Fr (((w.alloc (.cells #[.pointer (some ⟨br,0,none⟩)] 154)).alloc (.cells #[.int .i64 p,.slice a fs.length b] 211)).alloc (.cells #[.slice none 0 0] 163)) W' (· = br)) (o:i+1<=s.size) :
 RI w0 w P ss ds sv rv xs s nt nx pl br i fs p (.slice a fs.length b) zs [] (i+1) W':=by
 have n:=M.lt;have A:Fr w (((w.alloc (.cells #[.pointer (some ⟨br,0,none⟩)] 154)).alloc (.cells #[.int .i64 p,.slice a fs.length b] 211)).alloc (.cells #[.slice none 0 0] 163)) (λ _=>False):=(((Fr.refl w _).alloc _).alloc _).alloc _
 have x:(((w.alloc (.cells #[.pointer (some ⟨br,0,none⟩)] 154)).alloc (.cells #[.int .i64 p,.slice a fs.length b] 211)).alloc (.cells #[.slice none 0 0] 163)).heap.size=w.heap.size+3:=by simp
 have q:(w.alloc (.cells #[.pointer (some ⟨br,0,none⟩)] 154)).heap.size=w.heap.size+1:=by simp
 have r:((w.alloc (.cells #[.pointer (some ⟨br,0,none⟩)] 154)).alloc (.cells #[.int .i64 p,.slice a fs.length b] 211)).heap.size=w.heap.size+2:=by simp
 have l:=((Blk.new w #[.pointer (some ⟨br,0,none⟩)] 154).alloc (.cells #[.int .i64 p,.slice a fs.length b] 211)).alloc (.cells #[.slice none 0 0] 163);have d:=(Blk.new (w.alloc (.cells #[.pointer (some ⟨br,0,none⟩)] 154)) #[.int .i64 p,.slice a fs.length b] 211).alloc (.cells #[.slice none 0 0] 163);have k:=Blk.new ((w.alloc (.cells #[.pointer (some ⟨br,0,none⟩)] 154)).alloc (.cells #[.int .i64 p,.slice a fs.length b] 211)) #[.slice none 0 0] 163;rw[q] at d;rw[r] at k;have u:=c.size;exact⟨(M.new A).call h c o,(A.mono v_).trans c u_,n,by omega,c.blk l (by omega),c.blk d (by omega),(m.fr A u_).fr c (λ g hg e=>M.brP (e▸hg)),by simp,ak_ _,_,c.blk k (by omega),RowD.nil _ _ _⟩
theorem zl9 {w0 w:World}{P:Nat->Prop}{ss:BA}{ds:List PD}{sv rv:Value}{xs:List Value}{s:BA}{nt:TypeId}{nx:Value}{pl:Bool}{br i:Nat}{p:Int}{D:Option Addr}{E:Nat}{zs:List Value}{f:Nat}(M:NC w0 P ss ds sv rv xs s nt nx pl br i w) (U:j8_ w P ss fs (.slice D fs.length E) zs) (a0:∀ g∈fs,zi_ g.letter=true) (a2:fs.length<=300) (a5:zqj (zc_ ds)) (Y:∀ g∈fs,okT (zc_ ds) g.ty) (V:∀ g∈fs,∀ j,i<j->j<=s.size->DatN w0 P ss ds sv rv xs s nt nx pl br f g.ty j) :
 Calls prog 121 #[.pointer (some ⟨br,0,none⟩),.agg #[.int .i64 p,.slice D fs.length E]] w (yy_ w sv rv s nt nx pl br (yo_ (rdT s (zc_ ds) pl f) s (.recd fs) i)):=by
 refine hq_ λ a6 I=>?_
 have a4:s.size<=4000:=by have:=M.hs;omega
 have A:Fr w (((w.alloc (.cells #[.pointer (some ⟨br,0,none⟩)] 154)).alloc (.cells #[.int .i64 p,.slice D fs.length E] 211)).alloc (.cells #[.slice none 0 0] 163)) (λ _=>False):=(((Fr.refl w _).alloc _).alloc _).alloc _;have X:=zam s (zc_ ds) pl f
 have T:zn4 sv rv s nt nx pl br 151 #[.pointer (some ⟨w.heap.size+2,0,none⟩),.pointer (some ⟨w.heap.size+1,0,none⟩),.pointer (some ⟨w.heap.size,0,none⟩)] (za7 (rdT s (zc_ ds) pl f) fs) (λ l j W=>RI w0 w P ss ds sv rv xs s nt nx pl br i fs p (.slice D fs.length E) zs l j W) (BadL w sv rv s nt nx pl br):=
  { F:=λ W=>by kernel_rfl
    R:=λ h=>⟨h.M.R,h.M.il,h.M.e⟩
    K:=λ h h1 J L h4=>h.call h1 J L (by have:=h.c;omega)
    B:=λ h=>⟨h.fr,.base,_,h.M.R,h.M.il⟩
    C:=λ {l j W} h=>(zrb h a0 a2 (λ g hg=>V g hg j (by have:=h.c;omega) h.M.il) (λ t d j' e=>(X t j d j' e).1)).mono (by
     rintro e W' ⟨v,he,m⟩
     refine⟨v,he,?_⟩
     cases Z:za7 (rdT s (zc_ ds) pl f) fs l j with
     | none=>rw[Z] at m;exact m
     | some q=>obtain⟨a,b⟩:=q;rw[Z] at m;exact m) }
 have N:=q_ (zdl T (w:=(((w.alloc (.cells #[.pointer (some ⟨br,0,none⟩)] 154)).alloc (.cells #[.int .i64 p,.slice D fs.length E] 211)).alloc (.cells #[.slice none 0 0] 163))) (σ:=([]:List DT)) (i:=i) (co:=40) (cf:=41) 40 41 (A.blk M.R id) M.il (λ W' h H hi=>ztn M U h H hi) (λ W' h H=>⟨⟨(A.mono v_).trans H u_,.base,i,h,M.il⟩,((M.new A).call h H M.il).e⟩) a4 rfl rfl (by decide) (by decide));have u:=q_ (zqq (s:=s) (pl:=pl) (f:=f) (i:=i) a5 Y);clear T A X U V M Y a0
 cases r:zaq (za7 (rdT s (zc_ ds) pl f) fs) s 40 41 [] i with
 | none=>
  rw[r] at u;replace r:=q_ r
  go_in
  go_wp2_with (go_at_call 143;refine N.o.mono ?_;rintro e w2 ⟨v2,rfl,m⟩;rw[r.o] at m;obtain⟨⟨eT,ex,rfl⟩,hB⟩:=m;replace hB:=q_ hB)
  try go_ret
  rw[I.o,<- u.o];obtain⟨h1,J,L⟩:=hB.o;exact⟨.nilIface,_,rfl,h1,rfl,J,L⟩
 | some q=>
  obtain⟨l2,O⟩:=q;rw[r] at u;replace r:=q_ r;obtain⟨S,x⟩:∃ n,l2.length=n:=⟨_,rfl⟩
  by_cases hn:S<fs.length
  ·have a3:(S:Int)<(fs.length:Int):=by omega
   rw[show zb1 fs.length (some (l2,O))=none from if_pos (by omega)] at u;replace x:=q_ x
   go_in
   go_wp2_with (go_at_call 143;refine N.o.mono ?_;rintro e w2 ⟨v2,rfl,m⟩;rw[r.o] at m;obtain⟨rfl,k⟩:=m;obtain⟨lv,r1,y⟩:=k.row;obtain⟨ys,z⟩:=y.row;obtain⟨la,lc,rfl⟩:=zo_ z;rw[x.o] at r1;have k0:=r1.c0;have a1:=k.b3.c1;have e0:=k.M.e;replace k:=q_ k;clear r1 y z)
   go_quiet (fail)
   go_wp2_with fail
   try go_ret
   rw[I.o,<- u.o];exact nerr (k.o.fr.still (zd_.drewN _ _)) (k.o.M.R.still (zd_.drewN _ _)) k.o.M.il
  ·have a3:¬ ((S:Int)<(fs.length:Int)):=by omega
   rw[show zb1 fs.length (some (l2,O))=some (.mk 114 0 noB [] l2,O) from if_neg (by omega)] at u;replace x:=q_ x
   go_in
   go_wp2_with (go_at_call 143;refine N.o.mono ?_;rintro e w2 ⟨v2,rfl,m⟩;rw[r.o] at m;obtain⟨rfl,k⟩:=m;obtain⟨lv,r1,y⟩:=k.row;obtain⟨ys,z⟩:=y.row;obtain⟨la,lc,rfl⟩:=zo_ z;have G:=y.dat (Q:=λ g=>w.heap.size<=g) (λ g _ hg=>(by omega)) (λ g hg=>(by have:=z.lt g hg;omega)) (.inr ⟨rfl,rfl⟩);rw[x.o] at r1 G;replace G:=q_ G;have k0:=r1.c0;have a1:=k.b3.c1;replace k:=q_ k;clear r1 y z)
   try go_ret
   rw[I.o,<- u.o];exact nok G.o k.o.fr k.o.M.R k.o.M.il
def oneB (k:Nat):Option (DT×Nat)->Option (DT×Nat)
 | none=>none
 | some (d,j)=>some (.mk 40 (k:Int) noB [] [d],j)
theorem zmc {w0 w:World}{P:Nat->Prop}{ss:BA}{ds:List PD}{sv rv:Value}{xs:List Value}{s:BA}{nt:TypeId}{nx:Value}{pl:Bool}{br i:Nat}{t:PT}{n k:Nat}{p:Int}{C:Value}{f:Nat}{X:Nat->Value}(M:NC w0 P ss ds sv rv xs s nt nx pl br i w) (ho:w.ownsRow 0 83 1 C n ((List.range n).map X)) (R:k<n) (H:k<=4000) (u:TyV w P t (X k)) (O:xr_ w0) (F:DatN w0 P ss ds sv rv xs s nt nx pl br f t i) :
 Calls prog 150 #[.pointer (some ⟨br,0,none⟩),.agg #[.int .i64 p,C],.int .i64 (k:Int)] w (yy_ w sv rv s nt nx pl br (oneB k (rdT s (zc_ ds) pl f t i))):=by
 refine hq_ λ Z B=>?_;obtain⟨g,K,rfl⟩:=zh_ ho (by omega);obtain⟨T,x,I⟩:=u.iface;have c0:=zp_ ho rfl (k:=k) (x:=X k) (by simp[R]);rw[I] at c0 u;have A:Fr w (w.alloc (.cells #[.int .i64 p,.slice (some ⟨g,0,none⟩) n K] 220)) (λ _=>False):=(Fr.refl w _).alloc _;have l:=M.new A;have a1:=World.block_lt_of_cell? w ⟨g,k,none⟩ c0;have D:=q_ (F _ _ l (u.fr A u_))
 have a2:(k:Int)<(n:Int):=by omega
 have S:=A.size;replace A:=q_ A;replace l:=q_ l;clear ho u F M I
 cases b:rdT s (zc_ ds) pl f t i with
 | none=>
  replace b:=q_ b
  go_in
  go_wp2_with (first
   |(go_at_call 83;refine D.o.mono ?_;rintro e w1 ⟨Y,L,rfl,a,h⟩;rw[b.o] at h;obtain⟨rfl,r,U,h1,y⟩:=h;obtain⟨eT,ex,rfl⟩:=r.iface;have J:=q_ ((l.o.call h1 a y).G);replace a:=q_ a;replace r:=q_ r;replace h1:=q_ h1)
   |(go_at_call 158;refine(zed (n:=k) O J.o H).mono ?_;intro e w2 Q;obtain⟨N,V,rfl,a0,z,c⟩:=Q;replace c:=q_ c;replace z:=q_ z))
  try go_ret
  rw[B.o,b.o];have E:=(A.o.mono (T:=λ g=>g=br) v_).trans a.o u_;have a3:=E.size;exact⟨.nilIface,_,rfl,E.trans c.o v_,rfl,.within N (by omega) V z.o ((r.o.less S).fr c.o u_),U,c.o.blk h1.o id,y⟩
 | some q=>
  obtain⟨d,j2⟩:=q;replace b:=q_ b
  go_in
  go_wp2_with (go_at_call 83;refine D.o.mono ?_;rintro e w1 ⟨Y,L,rfl,a,h⟩;rw[b.o] at h;obtain⟨rfl,m,h1,y⟩:=h;obtain⟨dT,dx,rfl⟩:=m.iface;replace m:=q_ m;replace a:=q_ a;replace h1:=q_ h1)
  try go_ret
  rw[B.o,b.o];exact nok (.branch k H (m.o.mono (λ g _ hg=>by omega))) ((A.o.mono (T:=λ g=>g=br) v_).trans a.o u_) h1.o y
theorem zov {w0 w:World}{P:Nat->Prop}{ss:BA}{ds:List PD}{sv rv:Value}{xs:List Value}{s:BA}{nt:TypeId}{nx:Value}{br i:Nat}{t:PT}{l:List PT}{p:Int}{m:Value}{f:Nat}{X:Nat->Value}(M:NC w0 P ss ds sv rv xs s nt nx true br i w) (ho:w.ownsRow 0 83 1 m (t::l).length ((List.range (t::l).length).map X)) (x:TyV w P t (X 0)) (F:xr_ w0) (u:DatN w0 P ss ds sv rv xs s nt nx true br f t i) :
 Calls prog 120 #[.pointer (some ⟨br,0,none⟩),.agg #[.int .i64 p,m]] w (yy_ w sv rv s nt nx true br (oneB 0 (rdT s (zc_ ds) true f t i))):=by
 refine hq_ λ H B=>?_;obtain⟨C,D,rfl⟩:=zo_ ho;have A:Fr w (w.alloc (.cells #[.int .i64 p,.slice C (t::l).length D] 220)) (λ _=>False):=(Fr.refl w _).alloc _;have b:=M.new A;have r:=q_ (zmc (p:=p) (k:=0) b (za_ ho A u_) (by simp) (by omega) (x.fr A u_) F u);have c4:=b.R.c4;have z:=A.size;replace A:=q_ A;clear b ho x u M;generalize (t::l).length=n at r A z c4⊢
 go_in
 go_wp2_with (go_at_call 150;refine r.o.mono ?_;rintro e w1 ⟨G,E,rfl,c,h⟩;replace c:=q_ c;replace h:=q_ h)
 try go_ret
 rw[B.o];refine⟨G,E,rfl,(A.o.mono (T:=λ g=>g=br) v_).trans c.o u_,?_⟩;have a:=h.o
 cases y:oneB 0 (rdT s (zc_ ds) true f t i) with
 | none=>rw[y] at a;exact⟨a.1,a.2.1.less z,a.2.2⟩
 | some q=>obtain⟨d,j⟩:=q;rw[y] at a;exact⟨a.1,a.2.1.mono (λ g _ hg=>by omega),a.2.2⟩
open Go.RowKit
theorem zbu:∀ (a b:List UInt8),(Op.bytesLess a b||a==b) = !Op.bytesLess b a:=by
 intro a
 induction a with
 | nil=>intro b;cases b<;>rfl
 | cons x xs ih=>
  intro b
  cases b with
  | nil=>rfl
  | cons y ys=>
   simp only[Op.bytesLess,List.cons_beq_cons];have h:=ih ys
   by_cases h1:x<y
   ·have c:¬ y<x:=by simp only[UInt8.lt_iff_toNat_lt] at h1⊢;omega
    have d:¬ y=x:=λ e=>by subst e;simp only[UInt8.lt_iff_toNat_lt] at h1;omega
    simp[h1,c,d]
   ·by_cases c:x=y
    ·subst c
     simp[h1,h]
    ·have d:y<x:=by
      have:x.toNat≠y.toNat:=λ e=>c (UInt8.toNat_inj.1 e);simp only[UInt8.lt_iff_toNat_lt] at h1⊢;omega
     simp[h1,c,d]
def ju_ (R:Nat->Option (DT×Nat)) (s:BA) (es:List (BA×DT)) (j:Nat):Option (List (BA×DT)×Nat):=
 match zfh s true (zen es) j with
 | none=>none
 | some (k,j1)=>(R j1).map (λ q=>(es++[(k,q.1)],q.2))
theorem zrt (R:Nat->Option (DT×Nat)) (s:BA) (a:Nat):∀ n es j,jo_ (ju_ R s) s a n es j=(xi_ R s a true n (zen es) j).map (λ q=>(es++q.1,q.2)):=by
 intro n
 induction n with
 | zero=>intro es j;rfl
 | succ n ih=>
  intro es j;rw[jo_,xi_];simp only[ju_]
  cases zfh s true (zen es) j with
  | none=>rfl
  | some q=>
   obtain⟨key,b⟩:=q;simp only
   cases R b with
   | none=>rfl
   | some q=>
    obtain⟨d,j'⟩:=q;simp only[bw_];split
    ·rfl
    ·split
     ·rw[ih (es++[(key,d)]) (j'+1),jg_]
      cases xi_ R s a true n (some key) (j'+1) with
      | none=>rfl
      | some q=>simp
     ·rfl
theorem zuc (R:Nat->Option (DT×Nat)) (s:BA) (i:Nat):vy_ R s 123 i=(zaq (ju_ R s) s 123 125 [] i).map (λ q=>(.mk 123 0 noB (q.1.map Prod.fst) (q.1.map Prod.snd),q.2)):=by
 unfold zaq vy_ zb0
 by_cases h:bt s i=123
 ·rw[if_pos h,if_pos h,show xq_ 123=125 from rfl,show((123:Nat)==123)=true from rfl]
  by_cases a:bt s (i+1)=125
  ·rw[if_pos a,if_pos a]
   rfl
  ·rw[if_neg a,if_neg a,zrt R s 125 _ [] (i+1),show zen []=none from rfl]
   cases xi_ R s 125 true (s.size+2) none (i+1) with
   | none=>rfl
   | some q=>simp
 ·rw[if_neg h,if_neg h]
  rfl
structure MI (w0 w:World) (P:Nat->Prop) (ss:BA) (ds:List PD) (sv rv:Value) (xs:List Value) (s:BA) (nt:TypeId) (nx:Value) (pl:Bool) (br i:Nat) (t:PT) (p:Int) (v:Value) (es:List (BA×DT)) (j:Nat) (W:World):Prop where
 M:NC w0 P ss ds sv rv xs s nt nx pl br j W
 fr:Fr w W (· = br)
 lt:br<w.heap.size
 hB:w.heap.size+3<=W.heap.size
 b2:Blk W w.heap.size [.pointer (some ⟨br,0,none⟩)] 154
 b3:Blk W (w.heap.size+1) [.int .i64 p,v] 206
 ty:TyV W P t v
 c:i+es.length<j
 row:∃ lv ys,Blk W (w.heap.size+2) [lv] 158/\W.ownsRow (w.heap.size+3) 160 2 lv es.length ys/\zvu (zen es) es.length ys/\RowM W (λ g=>w.heap.size+3<=g/\lv.ownBlock≠some g) es ys
section
variable {w0 w:World} {P:Nat->Prop} {ss:BA} {ds:List PD} {sv rv:Value} {xs:List Value} {s:BA} {nt:TypeId} {nx:Value} {pl:Bool} {br i:Nat} {t:PT} {p:Int} {v:Value} {es:List (BA×DT)} {j j':Nat} {W W':World}
theorem MI.call (L:MI w0 w P ss ds sv rv xs s nt nx pl br i t p v es j W) (h:RdAt W' br sv rv s j' (!pl)) (a:Fr W W' (· = br)) (c:j'<=s.size) (hc:i+es.length<j'):MI w0 w P ss ds sv rv xs s nt nx pl br i t p v es j' W':=by
 have h1:=L.lt;obtain⟨lv,ys,r1,b,d,k⟩:=L.row;exact⟨L.M.call h a c,L.fr.trans a u_,L.lt,ai_ L.hB a.size,a.blk L.b2 (by omega),a.blk L.b3 (by omega),L.ty.fr a (λ g hg e=>L.M.brP (e▸hg)),hc,lv,ys,a.blk r1 (by omega),za_ b a (λ g hg e=>by have:=b.lt g hg;omega),d,k.fr a (λ g hg e=>by omega)⟩
end
theorem zm2:Tryz.prog.underlying 158=some (.slice 160):=by kernel_rfl
theorem zie:(Tryz.prog.info? 160).map (λ i=>(i.zero,i.size,i.bytes))=some (some (.agg #[.string ⟨#[]⟩,.nilIface]),2,32):=by kernel_rfl
def zvs (w0 w:World) (P:Nat->Prop) (ss:BA) (ds:List PD) (sv rv:Value) (xs:List Value) (s:BA) (nt:TypeId) (nx:Value) (pl:Bool) (br i:Nat) (t:PT) (p:Int) (v:Value) (R:Nat->Option (DT×Nat)) (es:List (BA×DT)) (j:Nat) (e:Ending) (W':World):Prop:=
 ∃ v1,e=.returned v1/\match ju_ R s es j with|some (es',j')=>v1=.nilIface/\j<j'/\MI w0 w P ss ds sv rv xs s nt nx pl br i t p v es' j' W'|none=>(∃ T x,v1=.iface T x)/\BadL w sv rv s nt nx pl br v1 W'
theorem zrf {w0 w:World}{P:Nat->Prop}{ss:BA}{ds:List PD}{sv rv:Value}{xs:List Value}{s:BA}{nt:TypeId}{nx:Value}{pl:Bool}{br i:Nat}{t:PT}{p:Int}{es:List (BA×DT)}{j f:Nat}{W:World}(L:MI w0 w P ss ds sv rv xs s nt nx pl br i t p (.iface vT vx) es j W) (hI:xs_ w0) (hR:∀ j',j<j'->j'<=s.size->DatN w0 P ss ds sv rv xs s nt nx pl br f t j') (a3:∀ j d j',rdT s (zc_ ds) pl f t j=some (d,j')->j<j') :
 Calls prog 146 #[.pointer (some ⟨w.heap.size,0,none⟩),.pointer (some ⟨w.heap.size+2,0,none⟩),.pointer (some ⟨w.heap.size+1,0,none⟩)] W (zvs w0 w P ss ds sv rv xs s nt nx pl br i t p (.iface vT vx) (rdT s (zc_ ds) pl f t) es j):=by
 refine hq_ λ g1 Q_=>?_;have h8:=L.b2.c0;have g0:=L.M.il;have i2:=L.M.hs
 have b4:s.size<=4000:=by omega
 obtain⟨n,J⟩:∃ n,es.length=n:=⟨_,rfl⟩;obtain⟨last,b7⟩:∃ o,zen es=o:=⟨_,rfl⟩
 have i0:i+n<j:=by rw[<- J];exact L.c
 have i1:=L.lt;have h9:=L.hB;have O:=zfw g0;obtain⟨r,e1⟩:∃ r,zw_ s j=r:=⟨_,rfl⟩;rw[e1] at O;obtain⟨key,e3⟩:∃ k,s.extract j r=k:=⟨_,rfl⟩
 have e4:key.size<=4000:=by rw[<- e3,bb_];omega
 have a9:=q_ (show Calls prog 147 #[.pointer (some ⟨br,0,none⟩),.func (.func 148) #[] #[]] W λ e w'=>e=.returned (.string key)/\Fr W w' (· = br)/\RdAt w' br sv rv s r (!pl) by
  have h:=zbd L.M.R b4 g0
  rw[show z0_ 97 122 s j=r from e1,e3] at h
  exact h)
 have d7:H_ (zfh s true (zen es) j=if bt s r=58/\zgo last key=true then some (key,r+1) else none):=q_ (by unfold zfh;rw[if_pos rfl,e1,e3,b7]);have B:H_ (∀ w1,Fr W w1 (· = br)->RdAt w1 br sv rv s r (!pl)->MI w0 w P ss ds sv rv xs s nt nx pl br i t p (.iface vT vx) es r w1):=q_ (λ w1 U h=>L.call h U O.2 (by omega))
 have e9:H_ (ju_ (rdT s (zc_ ds) pl f t) s es j=none->∀ w1 j1,Fr W w1 (· = br)->RdAt w1 br sv rv s j1 (!pl)->j1<=s.size->g1 (.returned (.iface nt nx)) w1):=q_ (λ N w1 j1 U h hj=>by
  rw[Q_.o]
  refine⟨_,rfl,?_⟩
  rw[N]
  exact⟨⟨_,_,rfl⟩,L.fr.trans U u_,.base,j1,h,hj⟩)
 replace L:=q_ L;replace J:=q_ J;replace b7:=q_ b7;clear e1 e3
 by_cases Q:zgo last key=true
 case neg=>
  have N:=q_ (show ju_ (rdT s (zc_ ds) pl f t) s es j=none by unfold ju_;rw[d7.o,if_neg (λ h=>Q h.2)])
  cases last with
  | none=>exact absurd rfl Q
  | some lk=>
   have h2:(Op.bytesLess key.toList lk.toList||key.toList==lk.toList)=true:=by
    rw[zbu]
    cases hb:Op.bytesLess lk.toList key.toList with
    | false=>rfl
    | true=>exact absurd hb Q
   obtain⟨lv,ys,r1,l,hq,_⟩:=L.o.row;rw[b7.o,J.o] at hq;obtain⟨m,hm,d8⟩:=hq;rw[J.o] at l;have d6:n=m+1:=hm;subst d6;obtain⟨la,lc,rfl⟩:=zo_ l;obtain⟨g,g2,f0⟩:=zh_ l (by simp);cases f0
   have h5:IntKind.i64.wrap (((m+1:Nat):Int)-1)=(m:Int):=by rw[IntKind.wrap_i64];omega
   have h3:(0:Int)<((m+1:Nat):Int):=by omega
   have a2:H_ (∀ w1,Fr W w1 (· = br)->w1.cell? ⟨w.heap.size+2,0,none⟩=some (.slice (some ⟨g,0,none⟩) (m+1) lc)/\w1.cell? ⟨g,m*2,none⟩=some (.string lk)):=q_ (λ w1 U=>⟨by rw[(U.blk r1 (by omega)).cell 0];rfl,zp_ (za_ l U (λ g' hg e=>by have:=l.lt g' hg;omega)) rfl d8⟩);clear r1 l d8 hm Q hR a3
   go_in
   go_wp2_with (go_at_call 147;refine a9.o.mono ?_;rintro e w1 ⟨rfl,a,h1⟩;obtain⟨k0,k1⟩:=a2.o w1 a;have e0:=(B.o w1 a h1).M.e;replace a:=q_ a;replace h1:=q_ h1)
   try go_ret
   exact e9.o N.o w1 r a.o h1.o O.2
 case pos=>
  cases last with
  | none=>
   obtain⟨lv,ys,r1,l,hm,_⟩:=L.o.row;rw[b7.o,J.o] at hm;rw[J.o] at l;have d6:n=0:=hm;subst d6;obtain⟨la,lc,rfl⟩:=zo_ l;have a2:H_ (∀ w1,Fr W w1 (· = br)->w1.cell? ⟨w.heap.size+2,0,none⟩=some (.slice la 0 lc)):=q_ (λ w1 U=>by rw[(U.blk r1 (by omega)).cell 0];rfl);clear r1 l hm
   by_cases A:bt s r=58
   case neg=>
    have N:=q_ (show ju_ (rdT s (zc_ ds) pl f t) s es j=none by unfold ju_;rw[d7.o,if_neg (λ h=>A h.1)]);replace A:=q_ A;clear hR a3 Q
    go_in
    go_wp2_with (first
     |(go_at_call 147;refine a9.o.mono ?_;rintro e w1 ⟨rfl,a,h1⟩;have k0:=a2.o w1 a;have e0:=(B.o w1 a h1).M.e;have b8:=(B.o w1 a h1).b2.c0;have H:=q_ (B.o w1 a h1);replace a:=q_ a;replace h1:=q_ h1)
     |(go_at_call 114;refine(xt_ 58 h1.o b4 O.2 rfl (by decide) A.o).mono ?_;rintro e w2 ⟨rfl,u,z⟩;have e2:=(H.o.call z u O.2 H.o.c).M.e;replace u:=q_ u;replace z:=q_ z))
    try go_ret
    exact e9.o N.o w2 r (a.o.trans u.o u_) z.o O.2
   case pos=>
    have a5:r+1<=s.size:=zj_ (s:=s) (i:=r) (by omega)
    have a6:ju_ (rdT s (zc_ ds) pl f t) s es j=(rdT s (zc_ ds) pl f t (r+1)).map (λ q=>(es++[(key,q.1)],q.2)):=by
     unfold ju_;rw[d7.o,if_pos ⟨A,Q⟩]
    replace A:=q_ A
    cases F:rdT s (zc_ ds) pl f t (r+1) with
    | none=>
     have N:=q_ (show ju_ (rdT s (zc_ ds) pl f t) s es j=none by rw[a6,F];rfl);replace F:=q_ F;clear a6 a3 Q
     go_in
     go_wp2_with (first
      |(go_at_call 147;refine a9.o.mono ?_;rintro e w1 ⟨rfl,a,h1⟩;have k0:=a2.o w1 a;have e0:=(B.o w1 a h1).M.e;have b8:=(B.o w1 a h1).b2.c0;have H:=q_ (B.o w1 a h1);replace a:=q_ a;replace h1:=q_ h1)
      |(go_at_call 114;refine(y8_ 58 h1.o b4 O.2 rfl (by decide) A.o).mono ?_;rintro e w2 ⟨rfl,u,z⟩;have b:=H.o.call z u a5 (by have:=H.o.c;omega);have hC:=q_ (hR (r+1) (by omega) a5 w2 _ b.M b.ty);have e6:=b.b2.c0;have e7:=b.b3.c1;replace b:=q_ b;have F2:=q_ (a.o.trans u u_);clear u z)
      |(go_at_call 83;refine hC.o.mono ?_;rintro e w3 ⟨v3,e8,rfl,C,X⟩;rw[F.o] at X;obtain⟨rfl,a1,j3,K,a4⟩:=X;obtain⟨eT,ex,rfl⟩:=a1.iface;have G3:=(b.o.M.call K C a4).G;have F3:=q_ (b.o.fr.trans C u_);replace a1:=q_ a1;replace K:=q_ K;replace G3:=q_ G3;clear C)
      |(go_at_call 149;refine(zc2 (k:=key) hI G3.o e4).mono ?_;intro e w4 hW;obtain⟨g4,f9,rfl,g7,a7,V⟩:=hW;replace V:=q_ V;replace a7:=q_ a7))
     try go_ret
     rw[Q_.o];refine⟨_,rfl,?_⟩;rw[N.o];have h4:=F3.o.size;have f8:=b.o.fr.size;exact⟨⟨_,_,rfl⟩,F3.o.trans V.o v_,.within g4 (by omega) f9 a7.o ((a1.o.less f8).fr V.o u_),j3,V.o.blk K.o id,a4⟩
    | some q=>
     obtain⟨d,j2⟩:=q;have g8:=a3 _ d j2 F;have N:=q_ (show ju_ (rdT s (zc_ ds) pl f t) s es j=some (es++[(key,d)],j2) by rw[a6,F];rfl);replace F:=q_ F;obtain⟨ti,f1,f2,f3,f4⟩:=info_parts zie;clear a6 a3 Q
     go_in
     go_wp2_with (first
      |(go_at_call 147;refine a9.o.mono ?_;rintro e w1 ⟨rfl,a,h1⟩;have k0:=a2.o w1 a;have e0:=(B.o w1 a h1).M.e;have b8:=(B.o w1 a h1).b2.c0;have H:=q_ (B.o w1 a h1);replace a:=q_ a;replace h1:=q_ h1)
      |(go_at_call 114;refine(y8_ 58 h1.o b4 O.2 rfl (by decide) A.o).mono ?_;rintro e w2 ⟨rfl,u,z⟩;have b:=H.o.call z u a5 (by have:=H.o.c;omega);have hC:=q_ (hR (r+1) (by omega) a5 w2 _ b.M b.ty);have e6:=b.b2.c0;have e7:=b.b3.c1;replace b:=q_ b;have F2:=q_ (a.o.trans u u_);clear u z)
      |(go_at_call 83;refine hC.o.mono ?_;rintro e w3 ⟨v3,e8,rfl,C,X⟩;rw[F.o] at X;obtain⟨rfl,a0,K,a4⟩:=X;obtain⟨dT,dx,rfl⟩:=a0.iface;have x:=b.o.call K C a4 (by have:=b.o.c;omega);obtain⟨h7,d9,q1,Z,q3,q4⟩:=b.o.row;rw[J.o] at Z;have r0:=q_ Z.lt;have r1:=C.blk q1 (by omega);have l:=za_ Z C (λ g hg e=>(by have:=Z.lt g hg;omega));have rM:=q_ (q4.fr C (λ g hg e=>(by omega)));obtain⟨b5,b6,rfl⟩:=zo_ l;replace a0:=q_ a0;clear q1 Z q3 q4;have k3:=r1.c0;have kg:=r1.thaw 0;have g3:=x.hB;replace x:=q_ x;replace r1:=q_ r1;replace l:=q_ l;clear C K)
      |(at_builtin;go_must (refine wpList_append_own_at _ rfl _ _ 158 rfl (w.heap.size+3) 160 ti _ 2 32 zm2 f1 f2 f3 f4 rfl (by decide) (.slice b5 0 b6) 0 d9 rfl ?hown _ 1 1 [.string key,.iface dT dx] rfl rfl (z7_ _ #[.string key,.iface dT dx] _ _ ?nn) ?one ?b1 ?b2 ?b3 ?_)
        case hown=>exact World.ownsRow.alloc l.o _
        case nn=>simp
        case one=>simp[Value.oneCell']
        case b1=>unfold maxLen;omega
        case b2=>omega
        case b3=>simp;omega
        intro v5 w5 Y d1 f7 d2
        have T:Fr w3 w5 (λ g=>(Value.slice b5 0 b6).ownBlock=some g):=Fr.grown ((Fr.refl w3 _).alloc _) d1 (λ k e _=>e)
        have f6:H_ (v5.ownBlock=(Value.slice b5 0 b6).ownBlock\/∃ h,v5.ownBlock=some h/\w3.heap.size<=h):=q_ (d2.imp id (λ e=>⟨_,e,by simp⟩))
        have S:=T.blk r1.o (λ e=>by have:=l.o.lt _ e;omega)
        have e5:=S.c0
        have f5:=S.thaw 0
        have a8:∀ g,v5.ownBlock=some g->w.heap.size+3<=g:=(λ g hg=>(Y.lt g hg).1)
        obtain⟨g5,b9,rfl⟩:=zh_ Y (by omega)
        replace T:=q_ T
        replace Y:=q_ Y
        replace S:=q_ S
        replace a8:=q_ a8
        clear d1 d2 f7))
     try go_ret
     rw[Q_.o];refine⟨_,rfl,?_⟩;rw[N.o];refine⟨rfl,by omega,?_⟩;have hG:Fr w5 (w5.setCell ⟨w.heap.size+2,0,none⟩ (.slice (some ⟨g5,0,none⟩) (0+1) b9)) (λ g=>g=w.heap.size+2):=(Fr.refl w5 (λ g=>g=w.heap.size+2)).setCell ⟨w.heap.size+2,0,none⟩ _ (λ _=>rfl);have I:Fr w3 (w5.setCell ⟨w.heap.size+2,0,none⟩ (.slice (some ⟨g5,0,none⟩) (0+1) b9)) (λ g=>w.heap.size+2<=g):=(T.o.mono (λ g _ e=>by have:=l.o.lt g e;omega)).trans hG (λ g _ e=>by omega);have y:=x.o.M;have g6:=y.brG;have g9:=x.o.lt
     have d0:∀ g,P g->¬ (w.heap.size+2<=g):=λ g hg=>by have:=y.Pbr g hg;omega
     have h6:=l.o.1;exact⟨⟨I.blk y.R (by omega),y.D.fr I d0,y.G.fr I (by have:=y.lt;omega) (λ g e=>by omega),y.E,y.Pbr,y.brG,y.hs,y.il⟩,x.o.fr.trans I (λ g hg e=>by omega),x.o.lt,ai_ x.o.hB I.size,I.blk x.o.b2 (by omega),I.blk x.o.b3 (by omega),x.o.ty.fr I d0,by rw[ah_,J.o,am_];omega,_,_,S.o.set 0 _,by rw[ah_,J.o,am_];exact za_ Y.o hG (λ g hg e=>by have:=a8.o g hg;omega),by rw[jg_,ah_,J.o,am_];exact⟨0,rfl,by rw[ar_ (by omega),show 0*2-d9.length=0 by omega];rfl⟩,rM.o.grow (c:=w.heap.size+2) (a0.o.mono (λ g _ hg=>⟨by have:=b.o.hB;omega,λ e=>by have:=r0.o g e;omega⟩)) e4 ((T.o.mono (λ _ _ e=>.inl e)).trans hG (λ _ _ e=>.inr e)) (by omega) f6.o⟩
  | some lk=>
   have h2:(Op.bytesLess key.toList lk.toList||key.toList==lk.toList)=false:=by
    rw[zbu];rw[show Op.bytesLess lk.toList key.toList=true from Q]
    rfl
   obtain⟨lv,ys,r1,l,hq,_⟩:=L.o.row;rw[b7.o,J.o] at hq;obtain⟨m,hm,d8⟩:=hq;rw[J.o] at l;have d6:n=m+1:=hm;subst d6;obtain⟨la,lc,rfl⟩:=zo_ l;obtain⟨g,g2,f0⟩:=zh_ l (by simp);cases f0
   have h5:IntKind.i64.wrap (((m+1:Nat):Int)-1)=(m:Int):=by rw[IntKind.wrap_i64];omega
   have h3:(0:Int)<((m+1:Nat):Int):=by omega
   have a2:H_ (∀ w1,Fr W w1 (· = br)->w1.cell? ⟨w.heap.size+2,0,none⟩=some (.slice (some ⟨g,0,none⟩) (m+1) lc)/\w1.cell? ⟨g,m*2,none⟩=some (.string lk)):=q_ (λ w1 U=>⟨by rw[(U.blk r1 (by omega)).cell 0];rfl,zp_ (za_ l U (λ g' hg e=>by have:=l.lt g' hg;omega)) rfl d8⟩);clear r1 l d8 hm
   by_cases A:bt s r=58
   case neg=>
    have N:=q_ (show ju_ (rdT s (zc_ ds) pl f t) s es j=none by unfold ju_;rw[d7.o,if_neg (λ h=>A h.1)]);replace A:=q_ A;clear hR a3 Q
    go_in
    go_wp2_with (first
     |(go_at_call 147;refine a9.o.mono ?_;rintro e w1 ⟨rfl,a,h1⟩;obtain⟨k0,k1⟩:=a2.o w1 a;have e0:=(B.o w1 a h1).M.e;have b8:=(B.o w1 a h1).b2.c0;have H:=q_ (B.o w1 a h1);replace a:=q_ a;replace h1:=q_ h1)
     |(go_at_call 114;refine(xt_ 58 h1.o b4 O.2 rfl (by decide) A.o).mono ?_;rintro e w2 ⟨rfl,u,z⟩;have e2:=(H.o.call z u O.2 H.o.c).M.e;replace u:=q_ u;replace z:=q_ z))
    try go_ret
    exact e9.o N.o w2 r (a.o.trans u.o u_) z.o O.2
   case pos=>
    have a5:r+1<=s.size:=zj_ (s:=s) (i:=r) (by omega)
    have a6:ju_ (rdT s (zc_ ds) pl f t) s es j=(rdT s (zc_ ds) pl f t (r+1)).map (λ q=>(es++[(key,q.1)],q.2)):=by
     unfold ju_;rw[d7.o,if_pos ⟨A,Q⟩]
    replace A:=q_ A
    cases F:rdT s (zc_ ds) pl f t (r+1) with
    | none=>
     have N:=q_ (show ju_ (rdT s (zc_ ds) pl f t) s es j=none by rw[a6,F];rfl);replace F:=q_ F;clear a6 a3 Q
     go_in
     go_wp2_with (first
      |(go_at_call 147;refine a9.o.mono ?_;rintro e w1 ⟨rfl,a,h1⟩;obtain⟨k0,k1⟩:=a2.o w1 a;have e0:=(B.o w1 a h1).M.e;have b8:=(B.o w1 a h1).b2.c0;have H:=q_ (B.o w1 a h1);replace a:=q_ a;replace h1:=q_ h1)
      |(go_at_call 114;refine(y8_ 58 h1.o b4 O.2 rfl (by decide) A.o).mono ?_;rintro e w2 ⟨rfl,u,z⟩;have b:=H.o.call z u a5 (by have:=H.o.c;omega);have hC:=q_ (hR (r+1) (by omega) a5 w2 _ b.M b.ty);have e6:=b.b2.c0;have e7:=b.b3.c1;replace b:=q_ b;have F2:=q_ (a.o.trans u u_);clear u z)
      |(go_at_call 83;refine hC.o.mono ?_;rintro e w3 ⟨v3,e8,rfl,C,X⟩;rw[F.o] at X;obtain⟨rfl,a1,j3,K,a4⟩:=X;obtain⟨eT,ex,rfl⟩:=a1.iface;have G3:=(b.o.M.call K C a4).G;have F3:=q_ (b.o.fr.trans C u_);replace a1:=q_ a1;replace K:=q_ K;replace G3:=q_ G3;clear C)
      |(go_at_call 149;refine(zc2 (k:=key) hI G3.o e4).mono ?_;intro e w4 hW;obtain⟨g4,f9,rfl,g7,a7,V⟩:=hW;replace V:=q_ V;replace a7:=q_ a7))
     try go_ret
     rw[Q_.o];refine⟨_,rfl,?_⟩;rw[N.o];have h4:=F3.o.size;have f8:=b.o.fr.size;exact⟨⟨_,_,rfl⟩,F3.o.trans V.o v_,.within g4 (by omega) f9 a7.o ((a1.o.less f8).fr V.o u_),j3,V.o.blk K.o id,a4⟩
    | some q=>
     obtain⟨d,j2⟩:=q;have g8:=a3 _ d j2 F;have N:=q_ (show ju_ (rdT s (zc_ ds) pl f t) s es j=some (es++[(key,d)],j2) by rw[a6,F];rfl);replace F:=q_ F;obtain⟨ti,f1,f2,f3,f4⟩:=info_parts zie;clear a6 a3 Q
     go_in
     go_wp2_with (first
      |(go_at_call 147;refine a9.o.mono ?_;rintro e w1 ⟨rfl,a,h1⟩;obtain⟨k0,k1⟩:=a2.o w1 a;have e0:=(B.o w1 a h1).M.e;have b8:=(B.o w1 a h1).b2.c0;have H:=q_ (B.o w1 a h1);replace a:=q_ a;replace h1:=q_ h1)
      |(go_at_call 114;refine(y8_ 58 h1.o b4 O.2 rfl (by decide) A.o).mono ?_;rintro e w2 ⟨rfl,u,z⟩;have b:=H.o.call z u a5 (by have:=H.o.c;omega);have hC:=q_ (hR (r+1) (by omega) a5 w2 _ b.M b.ty);have e6:=b.b2.c0;have e7:=b.b3.c1;replace b:=q_ b;have F2:=q_ (a.o.trans u u_);clear u z)
      |(go_at_call 83;refine hC.o.mono ?_;rintro e w3 ⟨v3,e8,rfl,C,X⟩;rw[F.o] at X;obtain⟨rfl,a0,K,a4⟩:=X;obtain⟨dT,dx,rfl⟩:=a0.iface;have x:=b.o.call K C a4 (by have:=b.o.c;omega);obtain⟨h7,d9,q1,Z,q3,q4⟩:=b.o.row;rw[J.o] at Z;have r0:=q_ Z.lt;have r1:=C.blk q1 (by omega);have l:=za_ Z C (λ g hg e=>(by have:=Z.lt g hg;omega));have rM:=q_ (q4.fr C (λ g hg e=>(by omega)));obtain⟨b5,b6,rfl⟩:=zo_ l;replace a0:=q_ a0;clear q1 Z q3 q4;have k3:=r1.c0;have kg:=r1.thaw 0;have g3:=x.hB;replace x:=q_ x;replace r1:=q_ r1;replace l:=q_ l;clear C K)
      |(at_builtin;go_must (refine wpList_append_own_at _ rfl _ _ 158 rfl (w.heap.size+3) 160 ti _ 2 32 zm2 f1 f2 f3 f4 rfl (by decide) (.slice b5 (m+1) b6) (m+1) d9 rfl ?hown _ 1 1 [.string key,.iface dT dx] rfl rfl (z7_ _ #[.string key,.iface dT dx] _ _ ?nn) ?one ?b1 ?b2 ?b3 ?_)
        case hown=>exact World.ownsRow.alloc l.o _
        case nn=>simp
        case one=>simp[Value.oneCell']
        case b1=>unfold maxLen;omega
        case b2=>omega
        case b3=>simp;omega
        intro v5 w5 Y d1 f7 d2
        have T:Fr w3 w5 (λ g=>(Value.slice b5 (m+1) b6).ownBlock=some g):=Fr.grown ((Fr.refl w3 _).alloc _) d1 (λ k e _=>e)
        have f6:H_ (v5.ownBlock=(Value.slice b5 (m+1) b6).ownBlock\/∃ h,v5.ownBlock=some h/\w3.heap.size<=h):=q_ (d2.imp id (λ e=>⟨_,e,by simp⟩))
        have S:=T.blk r1.o (λ e=>by have:=l.o.lt _ e;omega)
        have e5:=S.c0
        have f5:=S.thaw 0
        have a8:∀ g,v5.ownBlock=some g->w.heap.size+3<=g:=(λ g hg=>(Y.lt g hg).1)
        obtain⟨g5,b9,rfl⟩:=zh_ Y (by omega)
        replace T:=q_ T
        replace Y:=q_ Y
        replace S:=q_ S
        replace a8:=q_ a8
        clear d1 d2 f7))
     try go_ret
     rw[Q_.o];refine⟨_,rfl,?_⟩;rw[N.o];refine⟨rfl,by omega,?_⟩;have hG:Fr w5 (w5.setCell ⟨w.heap.size+2,0,none⟩ (.slice (some ⟨g5,0,none⟩) ((m+1)+1) b9)) (λ g=>g=w.heap.size+2):=(Fr.refl w5 (λ g=>g=w.heap.size+2)).setCell ⟨w.heap.size+2,0,none⟩ _ (λ _=>rfl);have I:Fr w3 (w5.setCell ⟨w.heap.size+2,0,none⟩ (.slice (some ⟨g5,0,none⟩) ((m+1)+1) b9)) (λ g=>w.heap.size+2<=g):=(T.o.mono (λ g _ e=>by have:=l.o.lt g e;omega)).trans hG (λ g _ e=>by omega);have y:=x.o.M;have g6:=y.brG;have g9:=x.o.lt
     have d0:∀ g,P g->¬ (w.heap.size+2<=g):=λ g hg=>by have:=y.Pbr g hg;omega
     have h6:=l.o.1;exact⟨⟨I.blk y.R (by omega),y.D.fr I d0,y.G.fr I (by have:=y.lt;omega) (λ g e=>by omega),y.E,y.Pbr,y.brG,y.hs,y.il⟩,x.o.fr.trans I (λ g hg e=>by omega),x.o.lt,ai_ x.o.hB I.size,I.blk x.o.b2 (by omega),I.blk x.o.b3 (by omega),x.o.ty.fr I d0,by rw[ah_,J.o,am_];omega,_,_,S.o.set 0 _,by rw[ah_,J.o,am_];exact za_ Y.o hG (λ g hg e=>by have:=a8.o g hg;omega),by rw[jg_,ah_,J.o,am_];exact⟨(m+1),rfl,by rw[ar_ (by omega),show(m+1)*2-d9.length=0 by omega];rfl⟩,rM.o.grow (c:=w.heap.size+2) (a0.o.mono (λ g _ hg=>⟨by have:=b.o.hB;omega,λ e=>by have:=r0.o g e;omega⟩)) e4 ((T.o.mono (λ _ _ e=>.inl e)).trans hG (λ _ _ e=>.inr e)) (by omega) f6.o⟩
open Go.RowKit
theorem zub {w0 w:World}{P:Nat->Prop}{ss:BA}{ds:List PD}{sv rv:Value}{xs:List Value}{s:BA}{nt:TypeId}{nx:Value}{pl:Bool}{br i:Nat}{t:PT}{p:Int}(M:NC w0 P ss ds sv rv xs s nt nx pl br i w) (k:TyV w P t (.iface vT vx)){W':World}(h:RdAt W' br sv rv s (i+1) (!pl)) (a:Fr (((w.alloc (.cells #[.pointer (some ⟨br,0,none⟩)] 154)).alloc (.cells #[.int .i64 p,.iface vT vx] 206)).alloc (.cells #[.slice none 0 0] 158)) W' (· = br)) (m:i+1<=s.size) :
 MI w0 w P ss ds sv rv xs s nt nx pl br i t p (.iface vT vx) [] (i+1) W':=by
 have l:=M.lt;have A:Fr w (((w.alloc (.cells #[.pointer (some ⟨br,0,none⟩)] 154)).alloc (.cells #[.int .i64 p,.iface vT vx] 206)).alloc (.cells #[.slice none 0 0] 158)) (λ _=>False):=(((Fr.refl w _).alloc _).alloc _).alloc _
 have r:(((w.alloc (.cells #[.pointer (some ⟨br,0,none⟩)] 154)).alloc (.cells #[.int .i64 p,.iface vT vx] 206)).alloc (.cells #[.slice none 0 0] 158)).heap.size=w.heap.size+3:=by simp
 have n:(w.alloc (.cells #[.pointer (some ⟨br,0,none⟩)] 154)).heap.size=w.heap.size+1:=by simp
 have o:((w.alloc (.cells #[.pointer (some ⟨br,0,none⟩)] 154)).alloc (.cells #[.int .i64 p,.iface vT vx] 206)).heap.size=w.heap.size+2:=by simp
 have d:=((Blk.new w #[.pointer (some ⟨br,0,none⟩)] 154).alloc (.cells #[.int .i64 p,.iface vT vx] 206)).alloc (.cells #[.slice none 0 0] 158);have b:=(Blk.new (w.alloc (.cells #[.pointer (some ⟨br,0,none⟩)] 154)) #[.int .i64 p,.iface vT vx] 206).alloc (.cells #[.slice none 0 0] 158);have c:=Blk.new ((w.alloc (.cells #[.pointer (some ⟨br,0,none⟩)] 154)).alloc (.cells #[.int .i64 p,.iface vT vx] 206)) #[.slice none 0 0] 158;rw[n] at b;rw[o] at c;have q:=a.size;exact⟨(M.new A).call h a m,(A.mono v_).trans a u_,l,by omega,a.blk d (by omega),a.blk b (by omega),(k.fr A u_).fr a (λ g hg e=>M.brP (e▸hg)),by simp,_,_,a.blk c (by omega),World.ownsRow_nil _ _ _ _,rfl,RowM.nil _ _⟩
theorem zj4 {w0 w:World}{P:Nat->Prop}{ss:BA}{ds:List PD}{sv rv:Value}{xs:List Value}{s:BA}{nt:TypeId}{nx:Value}{pl:Bool}{br i:Nat}{t:PT}{p:Int}{f:Nat}(M:NC w0 P ss ds sv rv xs s nt nx pl br i w) (J:TyV w P t (.iface vT vx)) (H:xs_ w0) (I:∀ j,i<j->j<=s.size->DatN w0 P ss ds sv rv xs s nt nx pl br f t j) :
 Calls prog 119 #[.pointer (some ⟨br,0,none⟩),.agg #[.int .i64 p,.iface vT vx]] w (yy_ w sv rv s nt nx pl br (vy_ (rdT s (zc_ ds) pl f t) s 123 i)):=by
 refine hq_ λ Z E=>?_
 have U:s.size<=4000:=by have:=M.hs;omega
 have A:Fr w (((w.alloc (.cells #[.pointer (some ⟨br,0,none⟩)] 154)).alloc (.cells #[.int .i64 p,.iface vT vx] 206)).alloc (.cells #[.slice none 0 0] 158)) (λ _=>False):=(((Fr.refl w _).alloc _).alloc _).alloc _;have L:=zam s (zc_ ds) pl f t
 have D:zn4 (St:=List (BA×DT)) sv rv s nt nx pl br 146 #[.pointer (some ⟨w.heap.size,0,none⟩),.pointer (some ⟨w.heap.size+2,0,none⟩),.pointer (some ⟨w.heap.size+1,0,none⟩)] (ju_ (rdT s (zc_ ds) pl f t) s) (λ n j W=>MI w0 w P ss ds sv rv xs s nt nx pl br i t p (.iface vT vx) n j W) (BadL w sv rv s nt nx pl br):=
  { F:=λ W=>by kernel_rfl
    R:=λ h=>⟨h.M.R,h.M.il,h.M.e⟩
    K:=λ h h1 r z h4=>h.call h1 r z (by have:=h.c;omega)
    B:=λ h=>⟨h.fr,.base,_,h.M.R,h.M.il⟩
    C:=λ {n j W} h=>(zrf h H (λ j' h1 r=>I j' (by have:=h.c;omega) r) (λ j d j' e=>(L j d j' e).1)).mono (by
     rintro e W' ⟨v,he,k⟩
     refine⟨v,he,?_⟩
     cases N:ju_ (rdT s (zc_ ds) pl f t) s n j with
     | none=>rw[N] at k;exact k
     | some q=>obtain⟨a,b⟩:=q;rw[N] at k;exact k) }
 have G:=q_ (zdl D (w:=(((w.alloc (.cells #[.pointer (some ⟨br,0,none⟩)] 154)).alloc (.cells #[.int .i64 p,.iface vT vx] 206)).alloc (.cells #[.slice none 0 0] 158))) (σ:=([]:List (BA×DT))) (i:=i) (co:=123) (cf:=125) 123 125 (A.blk M.R id) M.il (λ W' h u T=>zub M J h u T) (λ W' h u=>⟨⟨(A.mono v_).trans u u_,.base,i,h,M.il⟩,((M.new A).call h u M.il).e⟩) U rfl rfl (by decide) (by decide));have x:=q_ (zuc (rdT s (zc_ ds) pl f t) s i);clear D A L J I H M
 cases l:zaq (ju_ (rdT s (zc_ ds) pl f t) s) s 123 125 [] i with
 | none=>
  rw[l] at x;replace l:=q_ l
  go_in
  go_wp2_with (go_at_call 143;refine G.o.mono ?_;rintro e Y ⟨X,rfl,k⟩;rw[l.o] at k;obtain⟨⟨eT,ex,rfl⟩,hB⟩:=k;replace hB:=q_ hB)
  try go_ret
  rw[E.o,x.o];obtain⟨h1,r,z⟩:=hB.o;exact⟨.nilIface,_,rfl,h1,rfl,r,z⟩
 | some q=>
  obtain⟨n2,j2⟩:=q;rw[l] at x;replace l:=q_ l
  go_in
  go_wp2_with (go_at_call 143;refine G.o.mono ?_;rintro e Y ⟨X,rfl,k⟩;rw[l.o] at k;obtain⟨rfl,m⟩:=k;obtain⟨lv,ys,r1,y,V,O⟩:=m.row;obtain⟨la,lc,rfl⟩:=zo_ y;have k0:=r1.c0;have S:=q_ (O.dat (Q:=λ g=>w.heap.size<=g) y (λ g _ hg=>(by omega)) (λ g hg=>(by have:=y.lt g hg;omega)));replace m:=q_ m;clear r1 y V O)
  try go_ret
  rw[E.o,x.o];exact nok S.o m.o.fr m.o.M.R m.o.M.il
open Go.RowKit
theorem yy_.pre {w w1 w':World}{sv rv:Value}{s:BA}{nt:TypeId}{nx:Value}{pl:Bool}{br:Nat}{b:Option (DT×Nat)}{e:Ending}(A:Fr w w1 (λ _=>False)) (h:yy_ w1 sv rv s nt nx pl br b e w'):yy_ w sv rv s nt nx pl br b e w':=by
 obtain⟨v,c,he,k,a⟩:=h;refine⟨v,c,he,(A.mono v_).trans k u_,?_⟩
 cases b with
 | none=>exact⟨a.1,a.2.1.less A.size,a.2.2⟩
 | some q=>obtain⟨d,j⟩:=q;exact⟨a.1,a.2.1.mono (λ g _ hg=>ai_ A.size hg),a.2.2⟩
def NumN (w0:World) (P:Nat->Prop) (ss:BA) (ds:List PD) (sv rv:Value) (xs:List Value) (s:BA) (nt:TypeId) (nx:Value) (pl:Bool) (br:Nat):Prop:=
 ∀ (w:World) (i:Nat),NC w0 P ss ds sv rv xs s nt nx pl br i w->
  Calls prog 116 #[.pointer (some ⟨br,0,none⟩),.int .i64 (-2147483648),.int .i64 2147483647] w (yy_ w sv rv s nt nx pl br ((jj_ s 105 i).map (λ q=>(.mk 105 q.1 noB [] [],q.2))))/\
  Calls prog 116 #[.pointer (some ⟨br,0,none⟩),.int .i64 (-9223372036854775808),.int .i64 9223372036854775807] w (yy_ w sv rv s nt nx pl br ((jj_ s 108 i).map (λ q=>(.mk 108 q.1 noB [] [],q.2))))
section
variable {w0:World} {P:Nat->Prop} {ss:BA} {ds:List PD} {sv rv:Value} {xs:List Value} {s:BA} {nt:TypeId} {nx:Value} {pl:Bool} {br i:Nat} {f p:Nat}
theorem zxc:DatN w0 P ss ds sv rv xs s nt nx pl br (f+1) (.leaf 110 p) i:=by
 intro w v M q
 obtain rfl:v=.iface 198 (.agg #[.int .i64 (p:Int)]):=by
  cases q with
  | base _ _ h=>rfl
  | name _ _ h=>exact absurd h (by decide)
 refine hq_ λ y n=>?_;have A:Fr w (w.alloc (.cells #[.int .i64 (p:Int)] 198)) (λ _=>False):=(Fr.refl w _).alloc _;have d:=M.new A
 have r:s.size<=4000:=by have:=M.hs;omega
 have k:=M.il;have m:=q_ (A.mono (T:=λ g=>g=br) v_);replace d:=q_ d;clear M q;have z:=zaw
 by_cases b:bt s i=78
 ·have u:i+1<=s.size:=zj_ (s:=s) (i:=i) (by omega);have l:=q_ (show rdT s (zc_ ds) pl (f+1) (.leaf 110 p) i=some (.mk 110 0 noB [] [],i+1) by rw[rdT];unfold xx_;rw[if_pos rfl,if_pos b]);replace b:=q_ b
  go_in
  go_wp2_with (go_at_call 114;refine(y8_ 78 d.o.R r k rfl (by decide) b.o).mono ?_;rintro e x ⟨rfl,c,a⟩;replace c:=q_ c;replace a:=q_ a)
  try go_ret
  rw[n.o,l.o];exact nok (.flat .nothing) (m.o.trans c.o u_) a.o u
 ·have l:=q_ (show rdT s (zc_ ds) pl (f+1) (.leaf 110 p) i=none by rw[rdT];unfold xx_;rw[if_pos rfl,if_neg b]);replace b:=q_ b
  go_in
  go_wp2_with (go_at_call 114;refine(xt_ 78 d.o.R r k rfl (by decide) b.o).mono ?_;rintro e x ⟨rfl,c,a⟩;have B:=(d.o.call a c k).e;replace c:=q_ c;replace a:=q_ a)
  go_quiet (fail)
  go_wp2_with fail
  try go_ret
  rw[n.o,l.o];exact nerr ((m.o.trans c.o u_).still (zd_.drewN _ _)) (a.o.still (zd_.drewN _ _)) k
theorem zxa:DatN w0 P ss ds sv rv xs s nt nx pl br (f+1) (.leaf 116 p) i:=by
 intro w v M c
 obtain rfl:v=.iface 199 (.agg #[.int .i64 (p:Int)]):=by
  cases c with
  | base _ _ h=>rfl
  | name _ _ h=>exact absurd h (by decide)
 have d:rdT s (zc_ ds) pl (f+1) (.leaf 116 p) i=tEnd s i:=by
  rw[rdT];unfold xx_ tEnd;rw[if_neg (by decide),if_pos rfl]
 rw[d];refine hq_ λ q g=>?_;clear d c;have A:Fr w (w.alloc (.cells #[.int .i64 (p:Int)] 199)) (λ _=>False):=(Fr.refl w _).alloc _;have b:=M.new A;have l:=q_ (zox b);replace A:=q_ A;clear b M;have r:=zm_ 199 (by decide);have u:=zcf
 go_in
 go_wp2_with (go_at_call 115;refine l.o.mono ?_;intro e x m;obtain⟨n,k,rfl,a⟩:=m;replace a:=q_ a)
 try go_ret
 rw[g.o];exact yy_.pre A.o ⟨n,k,rfl,a.o⟩
theorem zxe (a:NumN w0 P ss ds sv rv xs s nt nx pl br):DatN w0 P ss ds sv rv xs s nt nx pl br (f+1) (.leaf 105 p) i:=by
 intro w v M d
 obtain rfl:v=.iface 200 (.agg #[.int .i64 (p:Int)]):=by
  cases d with
  | base _ _ h=>rfl
  | name _ _ h=>exact absurd h (by decide)
 have g:rdT s (zc_ ds) pl (f+1) (.leaf 105 p) i=(jj_ s 105 i).map (λ q=>(.mk 105 q.1 noB [] [],q.2)):=by
  rw[rdT];unfold xx_;rw[if_neg (by decide),if_neg (by decide),if_pos (by decide)];cases jj_ s 105 i<;>rfl
 rw[g];refine hq_ λ r k=>?_;clear g d;have A:Fr w (w.alloc (.cells #[.int .i64 (p:Int)] 200)) (λ _=>False):=(Fr.refl w _).alloc _;have c:=M.new A;have m:=q_ ((a _ _ c).1);replace A:=q_ A;clear c M;have u:=zm_ 200 (by decide);have x:=zy_ 200 (by decide);have y:=zgc
 go_in
 go_wp2_with (go_at_call 116;refine m.o.mono ?_;intro e z a;obtain⟨n,l,rfl,b⟩:=a;replace b:=q_ b)
 try go_ret
 rw[k.o];exact yy_.pre A.o ⟨n,l,rfl,b.o⟩
theorem zxd (a:NumN w0 P ss ds sv rv xs s nt nx pl br):DatN w0 P ss ds sv rv xs s nt nx pl br (f+1) (.leaf 108 p) i:=by
 intro w v M d
 obtain rfl:v=.iface 201 (.agg #[.int .i64 (p:Int)]):=by
  cases d with
  | base _ _ h=>rfl
  | name _ _ h=>exact absurd h (by decide)
 have g:rdT s (zc_ ds) pl (f+1) (.leaf 108 p) i=(jj_ s 108 i).map (λ q=>(.mk 108 q.1 noB [] [],q.2)):=by
  rw[rdT];unfold xx_;rw[if_neg (by decide),if_neg (by decide),if_pos (by decide)];cases jj_ s 108 i<;>rfl
 rw[g];refine hq_ λ r k=>?_;clear g d;have A:Fr w (w.alloc (.cells #[.int .i64 (p:Int)] 201)) (λ _=>False):=(Fr.refl w _).alloc _;have c:=M.new A;have m:=q_ ((a _ _ c).2);replace A:=q_ A;clear c M;have u:=zm_ 201 (by decide);have x:=zy_ 201 (by decide);have y:=yn_ 201 (by decide);have z:=zd1
 go_in
 go_wp2_with (go_at_call 116;refine m.o.mono ?_;intro e B a;obtain⟨n,l,rfl,b⟩:=a;replace b:=q_ b)
 try go_ret
 rw[k.o];exact yy_.pre A.o ⟨n,l,rfl,b.o⟩
theorem zxb:DatN w0 P ss ds sv rv xs s nt nx pl br (f+1) (.leaf 115 p) i:=by
 intro w v M c
 obtain rfl:v=.iface 202 (.agg #[.int .i64 (p:Int)]):=by
  cases c with
  | base _ _ h=>rfl
  | name _ _ h=>exact absurd h (by decide)
 have d:rdT s (zc_ ds) pl (f+1) (.leaf 115 p) i=sEnd s i:=by
  rw[rdT];unfold xx_ sEnd;rw[if_neg (by decide),if_neg (by decide),if_neg (by decide),if_pos rfl]
 rw[d];refine hq_ λ q g=>?_;clear d c;have A:Fr w (w.alloc (.cells #[.int .i64 (p:Int)] 202)) (λ _=>False):=(Fr.refl w _).alloc _;have b:=M.new A;have l:=q_ (zma b);replace A:=q_ A;clear b M;have r:=zm_ 202 (by decide);have u:=zy_ 202 (by decide);have x:=yn_ 202 (by decide);have y:=yk_ 202 (by decide);have z:=zd0
 go_in
 go_wp2_with (go_at_call 117;refine l.o.mono ?_;intro e B m;obtain⟨n,k,rfl,a⟩:=m;replace a:=q_ a)
 try go_ret
 rw[g.o];exact yy_.pre A.o ⟨n,k,rfl,a.o⟩
theorem zy2 {t:PT}(n:xr_ w0) (r:∀ j,i<j->j<=s.size->DatN w0 P ss ds sv rv xs s nt nx pl br f t j):DatN w0 P ss ds sv rv xs s nt nx pl br (f+1) (.wrap 91 p t) i:=by
 intro w v M d
 obtain⟨a,g,rfl⟩:∃ a,TyV w P t a/\v=.iface 205 (.agg #[.int .i64 (p:Int),a]):=by
  cases d with
  | wrap _ _ h=>exact⟨_,h,rfl⟩
 obtain⟨vT,vx,rfl⟩:=g.iface;rw[rdT];refine hq_ λ u k=>?_;clear d;have A:Fr w (w.alloc (.cells #[.int .i64 (p:Int),.iface vT vx] 205)) (λ _=>False):=(Fr.refl w _).alloc _;have c:=M.new A;have m:=q_ (zrh (p:=(p:Int)) c (g.fr A u_) n r);replace A:=q_ A;clear c M;have x:=zm_ 205 (by decide);have y:=zy_ 205 (by decide);have z:=yn_ 205 (by decide);have B:=yk_ 205 (by decide);have C:=yx_ 205 (by decide);have D:=zag
 go_in
 go_wp2_with (go_at_call 118;refine m.o.mono ?_;intro e E q;obtain⟨a,l,rfl,b⟩:=q;replace b:=q_ b)
 try go_ret
 rw[k.o];exact yy_.pre A.o ⟨a,l,rfl,b.o⟩
theorem zw9 {t:PT}(n:xs_ w0) (r:∀ j,i<j->j<=s.size->DatN w0 P ss ds sv rv xs s nt nx pl br f t j):DatN w0 P ss ds sv rv xs s nt nx pl br (f+1) (.wrap 123 p t) i:=by
 intro w v M d
 obtain⟨a,g,rfl⟩:∃ a,TyV w P t a/\v=.iface 206 (.agg #[.int .i64 (p:Int),a]):=by
  cases d with
  | wrap _ _ h=>exact⟨_,h,rfl⟩
 obtain⟨vT,vx,rfl⟩:=g.iface;rw[rdT];refine hq_ λ u k=>?_;clear d;have A:Fr w (w.alloc (.cells #[.int .i64 (p:Int),.iface vT vx] 206)) (λ _=>False):=(Fr.refl w _).alloc _;have c:=M.new A;have m:=q_ (zj4 (p:=(p:Int)) c (g.fr A u_) n r);replace A:=q_ A;clear c M;have x:=zm_ 206 (by decide);have y:=zy_ 206 (by decide);have z:=yn_ 206 (by decide);have B:=yk_ 206 (by decide);have C:=yx_ 206 (by decide);have D:=yg_ 206 (by decide);have E:=zbj
 go_in
 go_wp2_with (go_at_call 119;refine m.o.mono ?_;intro e F q;obtain⟨a,l,rfl,b⟩:=q;replace b:=q_ b)
 try go_ret
 rw[k.o];exact yy_.pre A.o ⟨a,l,rfl,b.o⟩
theorem zy3 {l:List PT}(z:l≠[]) (G:xr_ w0) (k:∀ t∈l,DatN w0 P ss ds sv rv xs s nt nx true br f t i):DatN w0 P ss ds sv rv xs s nt nx true br (f+1) (.alts p l) i:=by
 intro w v M q
 cases l with
 | nil=>exact absurd rfl z
 | cons t r=>
 obtain⟨X,a,ho,_,x,rfl⟩:∃ X a,w.ownsRow 0 83 1 a (t::r).length ((List.range (t::r).length).map X)/\(∀ g,a.ownBlock=some g->P g)/\(∀ i u,(t::r)[i]?=some u->TyV w P u (X i))/\v=.iface 220 (.agg #[.int .i64 (p:Int),a]):=by
  cases q with
  | alts _ X ho hP h=>exact⟨X,_,ho,hP,h,rfl⟩
 obtain⟨D,E,rfl⟩:=zo_ ho
 have B:rdT s (zc_ ds) true (f+1) (.alts p (t::r)) i=oneB 0 (rdT s (zc_ ds) true f t i):=by
  rw[rdT];unfold zan;rw[if_pos rfl];simp only;cases rdT s (zc_ ds) true f t i<;>rfl
 rw[B];refine hq_ λ I C=>?_;have m:=k t (by simp);have y:=x 0 t rfl;clear q B k x z;have A:Fr w (w.alloc (.cells #[.int .i64 (p:Int),.slice D (t::r).length E] 220)) (λ _=>False):=(Fr.refl w _).alloc _;have c:=M.new A;have d:=q_ (zov (p:=(p:Int)) c (za_ ho A u_) (y.fr A u_) G m);replace A:=q_ A;clear c M ho y m;generalize (t::r).length=n at d A⊢;have J:=zm_ 220 (by decide);have K:=zy_ 220 (by decide);have L:=yn_ 220 (by decide);have N:=yk_ 220 (by decide);have O:=yx_ 220 (by decide);have Q:=yg_ 220 (by decide);have R:=xh_ 220 (by decide);have S:=jq_
 go_in
 go_wp2_with (go_at_call 120;refine d.o.mono ?_;intro e T H;obtain⟨a,F,rfl,b⟩:=H;replace b:=q_ b)
 try go_ret
 rw[C.o];exact yy_.pre A.o ⟨a,F,rfl,b.o⟩
end
open Go.RowKit
def DatB (w0:World) (P:Nat->Prop) (ss:BA) (ds:List PD) (sv rv:Value) (xs:List Value) (s:BA) (nt:TypeId) (nx:Value) (pl:Bool) (br f:Nat) (b:PB) (i:Nat):Prop:=
 ∀ (w:World) (v:Value),NC w0 P ss ds sv rv xs s nt nx pl br i w->vn_ w P ss b v->
  Calls prog 83 #[.pointer (some ⟨br,0,none⟩),v] w (yy_ w sv rv s nt nx pl br (yo_ (rdT s (zc_ ds) pl f) s b i))
section
variable {w0:World} {P:Nat->Prop} {ss:BA} {ds:List PD} {sv rv:Value} {xs:List Value} {s:BA} {nt:TypeId} {nx:Value} {pl:Bool} {br i:Nat} {f p:Nat}
theorem zsg (m:∀ g∈fs,zi_ g.letter=true) (z:fs.length<=300) (B:zqj (zc_ ds)) (l:∀ g∈fs,okT (zc_ ds) g.ty) (d:∀ g∈fs,∀ j,i<j->j<=s.size->DatN w0 P ss ds sv rv xs s nt nx pl br f g.ty j):DatB w0 P ss ds sv rv xs s nt nx pl br f (.recd fs) i:=by
 intro w v M k
 obtain⟨p,a,zs,ho,hP,h,rfl⟩:∃ (p:Nat) (a:Value) (zs:List Value),w.ownsRow 0 149 4 a fs.length zs/\(∀ g,a.ownBlock=some g->P g)/\vu_ w P ss fs zs/\v=.iface 211 (.agg #[.int .i64 (p:Int),a]):=by
  cases k with
  | recd p ho hP h=>exact⟨p,_,_,ho,hP,h,rfl⟩
 obtain⟨r,u,rfl⟩:=zo_ ho;refine hq_ λ D n=>?_;clear k;have A:Fr w (w.alloc (.cells #[.int .i64 (p:Int),.slice r fs.length u] 211)) (λ _=>False):=(Fr.refl w _).alloc _;have c:=M.new A;have x:=q_ (zl9 (p:=(p:Int)) c ((⟨ho,hP,h⟩:j8_ w P ss fs _ _).fr A u_) m z B l d);replace A:=q_ A;clear c M ho h d l m;have E:=zm_ 211 (by decide);have F:=zy_ 211 (by decide);have G:=yn_ 211 (by decide);have H:=yk_ 211 (by decide);have I:=yx_ 211 (by decide);have J:=yg_ 211 (by decide);have K:=xh_ 211 (by decide);have L:=y0_ 211 (by decide);have N:=jr_ 211 (by decide);have O:=j1_
 go_in
 go_wp2_with (go_at_call 121;refine x.o.mono ?_;intro e Q y;obtain⟨C,q,rfl,b⟩:=y;replace b:=q_ b)
 try go_ret
 rw[n.o];exact yy_.pre A.o ⟨C,q,rfl,b.o⟩
theorem zsh {l:List (Nat×Nat)}{o:Option (Nat×Nat)}(m:∀ q∈l,zi_ q.1=true) (H:l.length<=300):DatB w0 P ss ds sv rv xs s nt nx pl br f (.enum l o) i:=by
 intro w v M x
 obtain⟨p,a,u,ho,hP,hu,rfl⟩:∃ (p:Nat) (a u:Value),w.ownsRow 0 146 2 a l.length (yp_ l)/\(∀ g,a.ownBlock=some g->P g)/\UnkV w P o u/\v=.iface 216 (.agg #[.int .i64 (p:Int),a,u]):=by
  cases x with
  | enum p ho hP h=>exact⟨p,_,_,ho,hP,h,rfl⟩
 obtain⟨D,E,rfl⟩:=zo_ ho
 obtain⟨r,rfl⟩:∃ d,u=.pointer d:=by
  unfold UnkV at hu;split at hu
  ·exact⟨_,hu⟩
  ·obtain⟨g',_,e,_⟩:=hu;exact⟨_,e⟩
 have z:yo_ (rdT s (zc_ ds) pl f) s (.enum l o) i=eEnd s l i:=by
  unfold yo_ eEnd;simp only
  by_cases y:i<s.size
  ·rw[if_pos y];cases (l.map Prod.fst).findIdx? (λ c=>c==bt s i)<;>rfl
  ·rw[if_neg y,zf5 (by omega),zkn (λ h=>by
    obtain⟨q,I,e⟩:=bs_.1 h
    obtain⟨k,hk,_⟩:=zb5 (m q I)
    omega)]
 rw[z];refine hq_ λ K B=>?_;clear x hu z;have A:Fr w (w.alloc (.cells #[.int .i64 (p:Int),.slice D l.length E,.pointer r] 216)) (λ _=>False):=(Fr.refl w _).alloc _;have n:=M.new A;have F:=q_ (zl7 (p:=(p:Int)) (u:=.pointer r) n (za_ ho A u_) hP H m);replace A:=q_ A;clear n M ho m;have L:=zm_ 216 (by decide);have N:=zy_ 216 (by decide);have Q:=yn_ 216 (by decide);have R:=yk_ 216 (by decide);have S:=yx_ 216 (by decide);have T:=yg_ 216 (by decide);have U:=xh_ 216 (by decide);have V:=y0_ 216 (by decide);have X:=jr_ 216 (by decide);have Y:=x2_ 216 (by decide);have O:=zd2
 go_in
 go_wp2_with (go_at_call 122;refine F.o.mono ?_;intro e Z G;obtain⟨J,C,rfl,b⟩:=G;replace b:=q_ b)
 try go_ret
 rw[B.o];exact yy_.pre A.o ⟨J,C,rfl,b.o⟩
theorem zpm {n:Nat}:DatB w0 P ss ds sv rv xs s nt nx pl br f (.bytes n) i:=by
 intro w v M c
 obtain⟨p,rfl⟩:∃ p:Nat,v=.iface 233 (.agg #[.int .i64 (p:Int),.int .i64 (n:Int)]):=by
  cases c with
  | bytes p n=>exact⟨p,rfl⟩
 have d:yo_ (rdT s (zc_ ds) pl f) s (.bytes n) i=fEnd s n i:=by
  unfold yo_ fEnd
  rfl
 rw[d];refine hq_ λ q g=>?_;clear c d;have A:Fr w (w.alloc (.cells #[.int .i64 (p:Int),.int .i64 (n:Int)] 233)) (λ _=>False):=(Fr.refl w _).alloc _;have b:=M.new A;have k:=q_ (zo1 (p:=(p:Int)) (n:=n) b);replace A:=q_ A;clear b M;have r:=zm_ 233 (by decide);have u:=zy_ 233 (by decide);have z:=yn_ 233 (by decide);have B:=yk_ 233 (by decide);have C:=yx_ 233 (by decide);have D:=yg_ 233 (by decide);have E:=xh_ 233 (by decide);have F:=y0_ 233 (by decide);have G:=jr_ 233 (by decide);have H:=x2_ 233 (by decide);have x:=zgd 233 (by decide);have y:=zge
 go_in
 go_wp2_with (go_at_call 123;refine k.o.mono ?_;intro e I l;obtain⟨m,h,rfl,a⟩:=l;replace a:=q_ a)
 try go_ret
 rw[g.o];exact yy_.pre A.o ⟨m,h,rfl,a.o⟩
theorem zse {c:Nat}(hc:z5_ c=true){b:PB}(hb:zc_ ds c=some b) (U:DatB w0 P ss ds sv rv xs s nt nx pl br f b i):DatN w0 P ss ds sv rv xs s nt nx pl br (f+1) (.leaf c p) i:=by
 intro w v M G
 have b5:65<=c/\c<=70:=by simpa[z5_] using hc
 obtain rfl:v=.iface 209 (.agg #[.int .i64 (p:Int),.int .u8 (c:Int)]):=by
  cases G with
  | base _ _ h=>
   simp only[yc_,ax_,beq_iff_eq] at h;omega
  | name _ _ h=>rfl
 have I:rdT s (zc_ ds) pl (f+1) (.leaf c p) i=yo_ (rdT s (zc_ ds) pl f) s b i:=by
  rw[rdT];unfold xx_;rw[if_neg (by omega),if_neg (by omega),if_neg (by omega),if_neg (by omega),hb]
 rw[I];obtain⟨T,F⟩:∃ V,V=yo_ (rdT s (zc_ ds) pl f) s b i:=⟨_,rfl⟩;rw[<- F];refine hq_ λ a9 S=>?_;have A:Fr w (w.alloc (.cells #[.int .i64 (p:Int),.int .u8 (c:Int)] 209)) (λ _=>False):=(Fr.refl w _).alloc _;have g:=M.new A;have k:=Blk.new w #[.int .i64 (p:Int),.int .u8 (c:Int)] 209;have b4:=M.lt;have H:=q_ (And.intro g (And.intro k A));clear I G M g k A;have a0:=zm_ 209 (by decide);have a1:=zy_ 209 (by decide);have a2:=yn_ 209 (by decide);have a3:=yk_ 209 (by decide);have a4:=yx_ 209 (by decide);have a5:=yg_ 209 (by decide);have a6:=xh_ 209 (by decide);have a7:=y0_ 209 (by decide)
 have a8:=zby
 go_in
 go_wp2_with fail
 obtain⟨g,k,A⟩:=H.o;have x:=g.still (zd_.drew _);have u0:=g.R.c0;have J:=g.R.c1;have u2:=k.c1;have E:=zap (rv:=rv) c x.D;refine z9_ (λ W=>W.cell? ⟨br,0,none⟩=some sv/\W.cell? ⟨br,1,none⟩=some rv/\W.cell? ⟨w.heap.size,1,none⟩=some (.int .u8 (c:Int))) (by kernel_rfl) ?_;refine tA_ 0 rfl (by kernel_rfl) (λ _ _ _ h=>h) (by rintro W ⟨h1,d,a⟩;go_simp<;>rfl) ?_;refine tA_ 1 rfl (by kernel_rfl) (λ _ _ _ h=>h) (by rintro W ⟨h1,d,a⟩;go_simp<;>rfl) ?_;refine tA_ 2 rfl (by kernel_rfl) (λ _ _ _ h=>h) (by rintro W ⟨h1,d,a⟩;go_simp<;>rfl) ?_;refine tA_ 3 rfl (by kernel_rfl) (λ _ _ _ h=>h) (by rintro W ⟨h1,d,a⟩;go_simp<;>rfl) ?_;refine tA_ 4 rfl (by kernel_rfl) (λ _ _ _ h=>h) (by rintro W ⟨h1,d,a⟩;go_simp<;>rfl) ?_;refine tA_ 5 rfl (by kernel_rfl) (λ _ _ _ h=>h) (by rintro W ⟨h1,d,a⟩;go_simp<;>rfl) ?_;refine tA_ 6 rfl (by kernel_rfl) (λ _ _ _ h=>h) (by rintro W ⟨h1,d,a⟩;go_simp<;>rfl) ?_;refine zu_ 7 rfl (by kernel_rfl) ⟨u0,J,u2⟩ (λ K l=>?_);go_simp;refine E.mono ?_;rintro e Y ⟨X,rfl,m,B⟩;refine l _ _ ?_;clear l K;rw[hb] at B;have r:=x.new m;have y:=U Y X r B;have z:=m.blk (((Fr.refl _ (λ _=>False)).still (zd_.drew (w.alloc (.cells #[.int .i64 (p:Int),.int .u8 (c:Int)] 209)))).blk k id) id;have N:=r.R.c0;have O:=r.R.c1;have Q:=z.c1;rw[<- F] at y;refine zu_ 8 rfl (by kernel_rfl) ⟨N,O,Q⟩ (λ K l=>?_);go_simp;refine y.mono ?_;rintro e Z ⟨L,C,rfl,u,n⟩;refine l _ _ ?_;clear l K
 obtain⟨j3,a⟩:∃ j,RdAt Z br sv rv s j (!pl):=by
  cases T with
  | none=>exact⟨_,n.2.2.choose_spec.1⟩
  | some q=>exact⟨_,n.2.2.1⟩
 have y0:=a.c0;have y1:=a.c1;have y2:=(u.blk z (by omega)).c1;replace n:=q_ n;replace u:=q_ u;replace m:=q_ m;replace A:=q_ A;clear E y g x r k z B H u0 J u2 N O Q a;refine tA_ 9 rfl (by kernel_rfl) (λ _ _ _ h=>h) (by rintro W ⟨h1,d,a⟩;go_simp<;>rfl) ?_;refine tA_ 10 rfl (by kernel_rfl) (λ _ _ _ h=>h) (by rintro W ⟨h1,d,a⟩;go_simp<;>rfl) ?_;refine tA_ 11 rfl (by kernel_rfl) (λ _ _ _ h=>h) (by rintro W ⟨h1,d,a⟩;go_simp<;>rfl) ?_;refine tA_ 12 rfl (by kernel_rfl) (λ _ _ _ h=>h) (by rintro W ⟨h1,d,a⟩;go_simp<;>rfl) ?_;refine z8_ (by kernel_rfl) ⟨y0,y1,y2⟩ ?_ _
 go_wp2_with fail
 refine bodyPost_ret (v:=.tuple #[L,C]) (by simp[results,results83,go_sem]) rfl ?_;rw[S.o];exact yy_.pre (A.o.trans (((Fr.refl _ (λ _=>False)).still (zd_.drew _)).trans m.o u_) u_) ⟨L,C,rfl,u.o,n.o⟩
end
def j4_ (ds:List PD):Prop:=∀ c b,zc_ ds c=some b->plB b/\okB (zc_ ds) b
theorem j4_.sm {ds:List PD}(h:j4_ ds):zqj (zc_ ds):=λ c _ _ e=>(h c _ e).1.2.1
def brL (pl:Bool) (l:List PT):Prop:=pl=true\/l.length<=300
mutual
def brT (pl:Bool):PT->Prop
 | .leaf _ _=>True
 | .wrap _ _ t=>brT pl t
 | .alts _ l=>brL pl l/\brTs pl l
def brTs (pl:Bool):List PT->Prop
 | []=>True
 | t::r=>brT pl t/\brTs pl r
end
def brE (pl:Bool) (ds:List PD):Prop:=∀ c fs,zc_ ds c=some (.recd fs)->∀ g∈fs,brT pl g.ty
mutual
theorem ze1:∀ t:PT,brT true t
 | .leaf _ _=>by unfold brT;trivial
 | .wrap _ _ t=>by unfold brT;exact ze1 t
 | .alts _ l=>by unfold brT;exact⟨.inl rfl,zk0 l⟩
theorem zk0:∀ l:List PT,brTs true l
 | []=>by unfold brTs;trivial
 | t::r=>by unfold brTs;exact⟨ze1 t,zk0 r⟩
end
theorem zsq {pl:Bool}:∀ {l:List PT},brTs pl l->∀ t∈l,brT pl t
 | [],_,t,h=>by cases h
 | a::r,h,t,b=>by
  unfold brTs at h
  rcases ap_.1 b with rfl|b
  ·exact h.1
  ·exact zsq h.2 t b
def UniN (w0:World) (P:Nat->Prop) (ss:BA) (ds:List PD) (sv rv:Value) (xs:List Value) (s:BA) (nt:TypeId) (nx:Value) (pl:Bool) (br:Nat):Prop:=
 ∀ (f p:Nat) (l:List PT) (i:Nat),l≠[]->brL pl l->i<=s.size->(∀ t∈l,∀ j,(pl=true->j=i)->(pl=false->i<j)->j<=s.size->DatN w0 P ss ds sv rv xs s nt nx pl br f t j)->DatN w0 P ss ds sv rv xs s nt nx pl br (f+1) (.alts p l) i
theorem zqb {w0:World}{P:Nat->Prop}{ss:BA}{ds:List PD}{sv rv:Value}{xs:List Value}{s:BA}{nt:TypeId}{nx:Value}{br:Nat}(a:xr_ w0):UniN w0 P ss ds sv rv xs s nt nx true br:=
 λ _ _ _ i d _ c b=>zy3 d a (λ t e=>b t e i (λ _=>rfl) (λ h=>by cases h) c)
theorem zw8 {w0:World}{P:Nat->Prop}{ss:BA}{ds:List PD}{sv rv:Value}{xs:List Value}{s:BA}{nt:TypeId}{nx:Value}{pl:Bool}{br:Nat}(m:j4_ ds) (hB:brE pl ds) (B:xr_ w0) (C:xs_ w0) (q:NumN w0 P ss ds sv rv xs s nt nx pl br) (D:UniN w0 P ss ds sv rv xs s nt nx pl br) :
 ∀ (f:Nat) (t:PT) (i:Nat),okT (zc_ ds) t->brT pl t->i<=s.size->2*(s.size-i)+(if t.isAlts=true then 1 else 0)<f->DatN w0 P ss ds sv rv xs s nt nx pl br f t i:=by
 intro f
 induction f with
 | zero=>intro t i _ _ _ h;omega
 | succ f ih=>
  intro t i a b E z;have next:∀ u,okT (zc_ ds) u->brT pl u->∀ j,i<j->j<=s.size->DatN w0 P ss ds sv rv xs s nt nx pl br f u j:=λ u hu hb j h1 e=>ih u j hu hb e (by split<;>omega)
  cases t with
  | leaf c p=>
   unfold okT at a
   rcases a with hb|⟨hn,pb,he⟩
   ·simp only[yc_,ax_,beq_iff_eq] at hb
    rcases hb with(((rfl|rfl)|rfl)|rfl)|rfl
    ·exact zxc
    ·exact zxa
    ·exact zxe q
    ·exact zxd q
    ·exact zxb
   ·obtain⟨d,k⟩:=m c pb he;refine zse hn he ?_
    cases pb with
    | recd fs=>exact zsg d.2.1 d.1 m.sm k (λ g hg=>next g.ty (k g hg) (hB c fs he g hg))
    | enum l o=>exact zsh d.2.1 d.1
    | bytes n=>exact zpm
  | wrap c p t=>
   unfold okT at a;unfold brT at b
   rcases a.1 with rfl|rfl
   ·exact zy2 B (next t a.2 b)
   ·exact zw9 C (next t a.2 b)
  | alts p l=>
   unfold okT at a;unfold brT at b
   have y:∀ u∈l,okT (zc_ ds) u/\u.isAlts=false:=by
    have:=a.2;clear a z b
    induction l with
    | nil=>intro u hu;simp at hu
    | cons x r ihr=>
     unfold okTs at this;intro u hu
     rcases ap_.1 hu with rfl|hu
     ·exact⟨this.2.1,this.1⟩
     ·exact ihr this.2.2 u hu
   refine D f p l i a.1 b.1 E (λ u hu j h1 e A=>?_);refine ih u j (y u hu).1 (zsq b.2 u hu) A ?_
   have F:i<=j:=by
    cases pl with
    | true=>have:=h1 rfl;omega
    | false=>have:=e rfl;omega
   rw[(y u hu).2];simp only[PT.isAlts,if_true] at z;simp only[a3_,if_false];omega
open Go.RowKit
def zvl (w:World) (S:Nat->Prop) (nt:TypeId) (nx:Value) (ok:Bool) (e:Ending) (w':World):Prop:=
 ∃ v ev,e=.returned (.tuple #[v,ev])/\Fr w w' S/\if ok=true then ev=.nilIface/\(∃ T x,v=.iface T x) else v=.nilIface/\ErrD w' w.heap.size nt nx ev
def zvm (w:World) (S:Nat->Prop) (nt:TypeId) (nx:Value) (r:Option DT) (e:Ending) (w':World):Prop:=
 ∃ v ev,e=.returned (.tuple #[v,ev])/\Fr w w' S/\match r with|some d=>ev=.nilIface/\DatV w' (λ g=>w.heap.size<=g) d v|none=>v=.nilIface/\ErrD w' w.heap.size nt nx ev
theorem zou {w0 w:World}{P:Nat->Prop}{ss:BA}{ds:List PD}{sv rv:Value}{xs:List Value}{s:BA}{nt:TypeId}{nx:Value}{pl:Bool}{br:Nat}{t:PT}{v:Value}(M:NC w0 P ss ds sv rv xs s nt nx pl br 0 w) (x:TyV w P t v) (u:DatN w0 P ss ds sv rv xs s nt nx pl br (2*s.size+2) t 0) :
 Calls prog 54 #[.pointer (some ⟨br,0,none⟩),v] w (zvm w (· = br) nt nx (vp_ (zc_ ds) pl t s)):=by
 refine hq_ λ D m=>?_;have n:=q_ (u w v M x);replace M:=q_ M;clear x u
 cases a:rdT s (zc_ ds) pl (2*s.size+2) t 0 with
 | none=>
  have h:=q_ (show vp_ (zc_ ds) pl t s=none by unfold vp_;rw[a]);replace a:=q_ a
  go_in
  go_wp2_with (go_at_call 83;refine n.o.mono ?_;rintro e w1 ⟨y,r,rfl,b,c⟩;rw[a.o] at c;obtain⟨rfl,k,_⟩:=c;obtain⟨F,G,rfl⟩:=k.iface;replace b:=q_ b;replace k:=q_ k)
  try go_ret
  rw[m.o,h.o];exact⟨_,_,rfl,b.o,rfl,k.o⟩
 | some q=>
  obtain⟨d,j⟩:=q;have A:=(zam s (zc_ ds) pl _ t 0 d j a).2
  by_cases l:j=s.size
  ·have h:=q_ (show vp_ (zc_ ds) pl t s=some d by unfold vp_;rw[a];simp only;rw[if_pos l])
   have C:¬ ((j:Int)<(s.size:Int)):=by omega
   replace a:=q_ a;clear l A
   go_in
   go_wp2_with (go_at_call 83;refine n.o.mono ?_;rintro e w1 ⟨y,r,rfl,b,c⟩;rw[a.o] at c;obtain⟨rfl,g,h1,_⟩:=c;obtain⟨z,dx,rfl⟩:=g.iface;replace g:=q_ g;have c2:=h1.c2;have c3:=h1.c3;replace b:=q_ b;clear h1)
   go_quiet (fail)
   go_wp2_with fail
   try go_ret
   rw[m.o,h.o];exact⟨_,_,rfl,b.o.still (zd_.drewN _ _),rfl,g.o.fr ((Fr.refl w1 (λ _=>False)).still (zd_.drewN _ _)) u_⟩
  ·have h:=q_ (show vp_ (zc_ ds) pl t s=none by unfold vp_;rw[a];simp only;rw[if_neg l])
   have C:(j:Int)<(s.size:Int):=by omega
   replace a:=q_ a;clear l
   go_in
   go_wp2_with (go_at_call 83;refine n.o.mono ?_;rintro e w1 ⟨y,r,rfl,b,c⟩;rw[a.o] at c;obtain⟨rfl,g,h1,B⟩:=c;obtain⟨z,dx,rfl⟩:=g.iface;clear g;have c2:=h1.c2;have c3:=h1.c3;have E:=(M.o.call h1 b B).e;replace b:=q_ b;clear h1)
   go_quiet (fail)
   go_wp2_with fail
   go_quiet (fail)
   go_wp2_with fail
   try go_ret
   rw[m.o,h.o];exact⟨_,_,rfl,b.o.still ((zd_.drewN _ _).trans (zd_.drewN _ _)),rfl,.base⟩
def zn1 (w0:World):Prop:=∀ P ss ds sv rv xs s nt nx pl br,NumN w0 P ss ds sv rv xs s nt nx pl br
theorem zj6 {w0 w:World}{P:Nat->Prop}{ss:BA}{ds:List PD}{sv:Value}{rT:TypeId}{rx:Value}{xs:List Value}{s:BA}{nt:TypeId}{nx:Value}{t:PT}{v:Value}(D:DRow w P ss ds sv xs) (r:TyV w P t v) (n:xd_ w0 w) (hk:w0.heap.size<=w.heap.size) (F:∀ g,P g->g<w.heap.size) (C:ErrV 3 w0 nt nx) (hs:s.size<=300) (I:okT (zc_ ds) t) (H:j4_ ds) (q:xr_ w0) (G:xs_ w0) (E:zn1 w0) :
 Calls prog 82 #[.agg #[sv,.iface rT rx],v,.string s] w (zvl w (λ _=>False) nt nx (vp_ (zc_ ds) true t s).isSome):=by
 refine hq_ λ L y=>?_;obtain⟨a,b,rfl⟩:=zo_ D.row;have A:Fr w ((w.alloc (.cells #[.slice a ds.length b,.iface rT rx] 85)).alloc (.cells #[.slice a ds.length b,.iface rT rx,.string s,.int .i64 0,.bool false] 114)) (λ _=>False):=((Fr.refl w _).alloc _).alloc _
 have x:(w.alloc (.cells #[.slice a ds.length b,.iface rT rx] 85)).heap.size=w.heap.size+1:=by simp
 have h:=Blk.new (w.alloc (.cells #[.slice a ds.length b,.iface rT rx] 85)) #[.slice a ds.length b,.iface rT rx,.string s,.int .i64 0,.bool false] 114;rw[x] at h
 have m:NC w0 P ss ds (.slice a ds.length b) (.iface rT rx) xs s nt nx true (w.heap.size+1) 0 ((w.alloc (.cells #[.slice a ds.length b,.iface rT rx] 85)).alloc (.cells #[.slice a ds.length b,.iface rT rx,.string s,.int .i64 0,.bool false] 114)):=
  ⟨h,D.fr A u_,n.fr A hk (λ g f=>f.elim),C,λ g hg=>by have:=F g hg;omega,by omega,by omega,ak_ _⟩
 have B:=q_ (zou m (r.fr A u_) (zw8 H (λ _ _ _ g _=>ze1 g.ty) q G (E _ _ _ _ _ _ _ _ _ _ _) (zqb q) _ t 0 I (ze1 t) o_ (by split<;>omega)));replace A:=q_ A;clear m h x D r n
 go_in
 go_wp2_with (go_at_call 54;refine B.o.mono ?_;rintro e w1 ⟨K,z,rfl,k,l⟩;replace k:=q_ k;replace l:=q_ l)
 try go_ret
 rw[y.o];have J:=A.o.size;refine⟨K,z,rfl,A.o.trans k.o (λ g hg e=>by omega),?_⟩;have c:=l.o
 cases u:vp_ (zc_ ds) true t s with
 | none=>rw[u] at c;exact⟨c.1,c.2.less J⟩
 | some d=>rw[u] at c;exact⟨c.1,c.2.iface⟩
end Go.Proofs.YtiifagiebikmdaaGreatDoor
