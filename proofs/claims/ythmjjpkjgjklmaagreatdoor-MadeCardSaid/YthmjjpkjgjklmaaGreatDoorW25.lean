import Derived.Test.YthmjjpkjgjklmaaGreatDoorW20
import Derived.Test.YthmjjpkjgjklmaaGreatDoorW24
import Derived.Test.YthmjjpkjgjklmaaGreatDoorShelf
import Derived.Test.YthmjjpkjgjklmaaGreatDoorA00
set_option maxHeartbeats 16000000
set_option maxRecDepth 100000
set_option linter.unusedSimpArgs false
open Go.Proofs.Tryz
namespace Go.Proofs.YthmjjpkjgjklmaaGreatDoor
open Go.RowKit
variable {cT vT:TypeId}{cx vx:Value}{lo n f:Nat}{w':World}{env:Nat->Option PB}
def y1_ (w0 w:World):Prop:=∀ g,g<w0.heap.size->w.heap[g]?=w0.heap[g]?
theorem y1_.refl (w:World):y1_ w w:=λ _ _=>rfl
theorem y1_.fr {w0 w:World}{S:Nat->Prop}(h:y1_ w0 w) (hf:Fr w w' S) (hk:w0.heap.size<=w.heap.size) (hS:∀ g,S g->w0.heap.size<=g):y1_ w0 w':=λ g hg=>
 (hf.block g (by omega) (λ e=>by have:=hS g e;omega)).trans (h g hg)
theorem y1_.err {g:Nat}{w0 w:World}{et:TypeId}{ex:Value}(h:y1_ w0 w) (he:ErrV g w0 et ex):ErrV g w et ex:=
 (World.cell?_of_block (a:=⟨g,0,none⟩) (h g (World.block_lt_of_cell? w0 ⟨g,0,none⟩ he))).trans he
theorem y1_.var {w0 w:World}(h:y1_ w0 w){n:String}{cs:Array Value}(hv:w0.var? prog n=some cs):w.var? prog n=some cs:=by
 unfold World.var? at hv⊢
 cases hg:Tryz.prog.globalNamed n with
 | none=>rw[hg] at hv;simp at hv
 | some g=>
  rw[hg] at hv;simp only[Option.bind_some] at hv⊢
  by_cases hl:g<w0.heap.size
  ·rw[h g hl];exact hv
  ·rw[Array.getElem?_eq_none (by omega)] at hv;simp at hv
theorem Fr.grow (w:World) (k:Nat) (os:Array Obj):Fr w (Sort.grow (w.drewN k) os) (λ _=>False):=by
 refine⟨rfl,rfl,rfl,?_,λ g hg _=>?_⟩
 ·show w.heap.size<=(w.heap++os).size
  simp
 ·show(w.heap++os)[g]?=w.heap[g]?;rw[Array.getElem?_append_left hg]
def yi_ (w0:World):Prop:=∀ (W:World),y1_ w0 W->∀ n:Nat,n<=4000->Calls prog 238 #[.int .i64 (n:Int)] W λ e w'=>∃ tx,e=.returned (.string tx)/\tx.size<=100000/\Fr W w' (λ _=>False)
def yd_ (w0:World):Prop:=∀ (W:World),y1_ w0 W->∀ k:BA,k.size<=4000->Calls prog 239 #[.string k] W λ e w'=>∃ tx,e=.returned (.string tx)/\tx.size<=100000/\Fr W w' (λ _=>False)
theorem zp8:∀ (k n:Nat),n<10 ^ (k+1)->Lib.nDigits n<=k+1:=by
 intro k
 induction k with
 | zero=>intro n h;rw[Lib.nDigits,dif_pos (by simpa using h)];omega
 | succ k ih=>
  intro n h;rw[Lib.nDigits];split
  ·omega
  ·have:=ih (n / 10) (by rw[Nat.div_lt_iff_lt_mul (by decide)];rw[Nat.pow_succ] at h;exact h);omega
theorem zyf {w0:World}(h:Lib.TabIs prog w0 "internal/strconv.uint64pow10" .u64 Lib.pow10Tab):yi_ w0:=by
 intro W hW n hn
 have h1:Lib.TabIs prog W "internal/strconv.uint64pow10" .u64 Lib.pow10Tab:=hW.var h
 refine(Tryz.strconv_Itoa (n:Int) (by omega) (by omega) W h1).mono ?_;rintro e w' ⟨rfl,k,os,rfl⟩;refine⟨_,rfl,?_,Fr.grow W k os⟩;show(Lib.itoa (n:Int)).toArray.size<=100000;rw[List.size_toArray];unfold Lib.itoa;rw[if_neg (by omega),Lib.decDigits_length];have:=zp8 3 (Int.toNat (n:Int)) (by simp;omega);omega
def x6_ (w:World) (cv:Value) (e:Ending) (w':World):Prop:=
 ∃ g tx,e=.returned (.iface 374 (.pointer (some ⟨g,0,none⟩)))/\w.heap.size<=g/\Blk w' g [.string tx,cv] 376/\Fr w w' (λ _=>False)
theorem zdu {w0 w:World}(H:yi_ w0) (hG:y1_ w0 w) (hn:n<=4000) :
 Calls prog 186 #[.int .i64 (n:Int),.iface cT cx] w (x6_ w (.iface cT cx)):=by
 refine hq_ λ POST Q_=>?_;have hC:=q_ (H w hG n hn)
 go_in
 go_wp2_with (first|(go_at_call 238;refine hC.o.mono ?_;rintro e w1 ⟨tx,rfl,htx,hf1⟩;replace hf1:=q_ hf1)|(go_at_call 239;refine hC.o.mono ?_;rintro e w1 ⟨tx,rfl,htx,hf1⟩;replace hf1:=q_ hf1))
 try go_ret
 rw[Q_.o];exact⟨w1.heap.size,_,rfl,hf1.o.size,Blk.new w1 _ _,hf1.o.alloc _⟩
theorem zbg {w0 w:World}(H:yi_ w0) (hG:y1_ w0 w) (hn:n<=4000) :
 Calls prog 189 #[.int .i64 (n:Int),.iface cT cx] w (x6_ w (.iface cT cx)):=by
 refine hq_ λ POST Q_=>?_;have hC:=q_ (H w hG n hn)
 go_in
 go_wp2_with (first|(go_at_call 238;refine hC.o.mono ?_;rintro e w1 ⟨tx,rfl,htx,hf1⟩;replace hf1:=q_ hf1)|(go_at_call 239;refine hC.o.mono ?_;rintro e w1 ⟨tx,rfl,htx,hf1⟩;replace hf1:=q_ hf1))
 try go_ret
 rw[Q_.o];exact⟨w1.heap.size,_,rfl,hf1.o.size,Blk.new w1 _ _,hf1.o.alloc _⟩
theorem zbf {w0 w:World}{k:BA}(H:yd_ w0) (hG:y1_ w0 w) (hn:k.size<=4000) :
 Calls prog 187 #[.string k,.iface cT cx] w (x6_ w (.iface cT cx)):=by
 refine hq_ λ POST Q_=>?_;have hC:=q_ (H w hG k hn)
 go_in
 go_wp2_with (first|(go_at_call 238;refine hC.o.mono ?_;rintro e w1 ⟨tx,rfl,htx,hf1⟩;replace hf1:=q_ hf1)|(go_at_call 239;refine hC.o.mono ?_;rintro e w1 ⟨tx,rfl,htx,hf1⟩;replace hf1:=q_ hf1))
 try go_ret
 rw[Q_.o];exact⟨w1.heap.size,_,rfl,hf1.o.size,Blk.new w1 _ _,hf1.o.alloc _⟩
theorem zch {w:World}{l:Nat}(hl:zn_ l=true) :
 Calls prog 190 #[.int .u8 (l:Int),.iface cT cx] w (x6_ w (.iface cT cx)):=by
 refine hq_ λ POST Q_=>?_;obtain⟨k,hk,hk26⟩:=zb9 hl
 have hc:l=97\/l=98\/l=99\/l=100\/l=101\/l=102\/l=103\/l=104\/l=105\/l=106\/l=107\/l=108\/l=109\/l=110\/l=111\/l=112\/l=113\/l=114\/l=115\/l=116\/l=117\/l=118\/l=119\/l=120\/l=121\/l=122:=by omega
 clear hl hk hk26
 rcases hc with rfl|rfl|rfl|rfl|rfl|rfl|rfl|rfl|rfl|rfl|rfl|rfl|rfl|rfl|rfl|rfl|rfl|rfl|rfl|rfl|rfl|rfl|rfl|rfl|rfl|rfl
 all_goals
  go_in
  go_wp2_with fail
  try go_ret
  rw[Q_.o];exact⟨w.heap.size,_,rfl,l_,Blk.new w _ _,(Fr.refl w _).alloc _⟩
inductive ErrD (w:World) (lo:Nat) (nt:TypeId) (nx:Value):Value->Prop
 | base:ErrD w lo nt nx (.iface nt nx)
 | within (g:Nat) (hg:lo<=g) (tx:BA) {v:Value} (hb:Blk w g [.string tx,v] 376) (h:ErrD w lo nt nx v):ErrD w lo nt nx (.iface 374 (.pointer (some ⟨g,0,none⟩)))
theorem ErrD.fr {w:World}{nt:TypeId}{nx v:Value}{S:Nat->Prop}(h:ErrD w lo nt nx v) (hf:Fr w w' S) (hS:∀ g,lo<=g->¬ S g):ErrD w' lo nt nx v:=by
 induction h with
 | base=>exact .base
 | within g hg tx hb h ih=>exact .within g hg tx (hf.blk hb (hS g hg)) ih
theorem ErrD.less {w:World}{lo':Nat}{nt:TypeId}{nx v:Value}(h:ErrD w lo nt nx v) (hl:lo'<=lo):ErrD w lo' nt nx v:=by
 induction h with
 | base=>exact .base
 | within g hg tx hb h ih=>exact .within g (ah_ hl hg) tx hb ih
theorem ErrD.iface {w:World}{nt:TypeId}{nx v:Value}(h:ErrD w lo nt nx v):∃ T x,v=.iface T x:=by
 cases h<;>exact⟨_,_,rfl⟩
theorem ErrD.wrap {w:World}{nt:TypeId}{nx cv v:Value}(h:ErrD w lo nt nx cv){e:Ending}(hW:x6_ w cv e w') (hl:lo<=w.heap.size) (he:e=.returned v):ErrD w' lo nt nx v:=by
 obtain⟨g,tx,rfl,h1,h2,h3⟩:=hW;cases he;exact .within g (ah_ hl h1) tx h2 (h.fr h3 u_)
structure NC (w0:World) (P:Nat->Prop) (ss:BA) (ds:List PD) (sv rv:Value) (xs:List Value) (s:BA) (nt:TypeId) (nx:Value) (pl:Bool) (br i:Nat) (W:World):Prop where
 R:RdAt W br sv rv s i (!pl)
 D:DRow W P ss ds sv xs
 G:y1_ w0 W
 E:ErrV 3 w0 nt nx
 Pbr:∀ g,P g->g<br
 brG:w0.heap.size<=br
 hs:s.size<=4000
 il:i<=s.size
section
variable {w0 W W':World} {P:Nat->Prop} {ss:BA} {ds:List PD} {sv rv:Value} {xs:List Value} {s:BA} {nt:TypeId} {nx:Value} {pl:Bool} {br i i':Nat}
theorem NC.brP (M:NC w0 P ss ds sv rv xs s nt nx pl br i W):¬ P br:=λ h=>by_ _ (M.Pbr br h)
theorem NC.lt (M:NC w0 P ss ds sv rv xs s nt nx pl br i W):br<W.heap.size:=Blk.lt M.R
theorem NC.call (M:NC w0 P ss ds sv rv xs s nt nx pl br i W) (h:RdAt W' br sv rv s i' (!pl)) (hf:Fr W W' (· = br)) (hi:i'<=s.size):NC w0 P ss ds sv rv xs s nt nx pl br i' W':=by
 have h1:=M.lt;have h2:=M.brG;exact⟨h,M.D.fr hf (λ g hg e=>M.brP (e▸hg)),M.G.fr hf (by omega) (λ g e=>e▸M.brG),M.E,M.Pbr,M.brG,M.hs,hi⟩
theorem NC.new (M:NC w0 P ss ds sv rv xs s nt nx pl br i W) (hf:Fr W W' (λ _=>False)):NC w0 P ss ds sv rv xs s nt nx pl br i W':=M.call (hf.blk M.R id) (hf.mono v_) M.il
theorem NC.still (M:NC w0 P ss ds sv rv xs s nt nx pl br i W) (hf:ze_ W W'):NC w0 P ss ds sv rv xs s nt nx pl br i W':=M.new ((Fr.refl W _).still hf)
theorem NC.e (M:NC w0 P ss ds sv rv xs s nt nx pl br i W):W.cell? ⟨3,0,none⟩=some (.iface nt nx):=M.G.err M.E
end
def yr_ (env:Nat->Option PB) (t:PT) (w:World) (sv rv:Value) (s:BA) (nt:TypeId) (nx:Value) (pl:Bool) (br:Nat) (res:Option (DT×Nat)) (e:Ending) (w':World):Prop:=
 ∃ v ev,e=.returned (.tuple #[v,ev])/\Fr w w' (· = br)/\
 match res with
 | some (d,j)=>ev=.nilIface/\DaV env w' (λ g=>w.heap.size<=g) d t v/\RdAt w' br sv rv s j (!pl)/\j<=s.size
 | none=>v=.nilIface/\ErrD w' w.heap.size nt nx ev/\∃ j,RdAt w' br sv rv s j (!pl)/\j<=s.size
open Go.RowKit
section
variable {w0 w:World} {P:Nat->Prop} {ss:BA} {ds:List PD} {sv rv:Value} {xs:List Value} {s:BA} {nt:TypeId} {nx:Value} {pl:Bool} {br i:Nat}
theorem nerr {t:PT}{W:World}{j:Nat}(hf:Fr w W (· = br)) (h:RdAt W br sv rv s j (!pl)) (hj:j<=s.size):yr_ env t w sv rv s nt nx pl br none (.returned (.tuple #[.nilIface,.iface nt nx])) W:=⟨.nilIface,_,rfl,hf,rfl,.base,j,h,hj⟩
theorem nok {t:PT}{W:World}{j:Nat}{d:DT}{v:Value}(hD:DaV env W (λ g=>w.heap.size<=g) d t v) (hf:Fr w W (· = br)) (h:RdAt W br sv rv s j (!pl)) (hj:j<=s.size):yr_ env t w sv rv s nt nx pl br (some (d,j)) (.returned (.tuple #[v,.nilIface])) W:=⟨v,_,rfl,hf,rfl,hD,h,hj⟩
end
theorem zf9 {s:BA}{i:Nat}(h:i<=s.size):i<=zp_ s i/\zp_ s i<=s.size:=⟨(yj_ 97 122 s _ i l_).1,(yj_ 97 122 s _ i l_).2 h⟩
def tEnd (s:BA) (i:Nat):Option (DT×Nat):=if bt s i=84 then some (.mk 116 1 noB [] [],i+1) else if bt s i=70 then some (.mk 116 0 noB [] [],i+1) else none
theorem zp0 {w0 w:World}{P:Nat->Prop}{ss:BA}{ds:List PD}{sv rv:Value}{xs:List Value}{s:BA}{nt:TypeId}{nx:Value}{pl:Bool}{br i:Nat}{t:PT}(M:NC w0 P ss ds sv rv xs s nt nx pl br i w) :
 Calls prog 165 #[.pointer (some ⟨br,0,none⟩)] w (yr_ (za_ ds) t w sv rv s nt nx pl br (tEnd s i)):=by
 refine hq_ λ POST Q_=>?_
 have hs4:s.size<=4000:=by have:=M.hs;omega
 have F:=q_ (Fr.refl w (λ g=>g=br));have hil:=M.il;replace M:=q_ M
 by_cases h84:bt s i=84
 ·have hlt:i+1<=s.size:=zl_ (s:=s) (i:=i) (by omega);have hr:=q_ (show tEnd s i=some (.mk 116 1 noB [] [],i+1) by unfold tEnd;rw[if_pos h84]);have hb:=q_ h84
  go_in
  go_wp2_with (go_at_call 164;refine(z7_ 84 M.o.R hs4 hil (by decide) (by decide) hb.o).mono ?_;rintro e wM1 ⟨rfl,hf2,h2⟩;have M1:=q_ (M.o.call h2 hf2 hlt);have F1:=q_ (F.o.trans hf2 u_);clear hf2 h2)
  try go_ret
  rw[Q_.o,hr.o];exact nok (DaV.plain (.truth true) (by decide)) F1.o M1.o.R hlt
 ·by_cases h70:bt s i=70
  ·have hlt:i+1<=s.size:=zl_ (s:=s) (i:=i) (by omega);have hr:=q_ (show tEnd s i=some (.mk 116 0 noB [] [],i+1) by unfold tEnd;rw[if_neg h84,if_pos h70]);have hn:=q_ h84;have hb:=q_ h70
   go_in
   go_wp2_with (first
    |(go_at_call 164;refine(xc_ 84 M.o.R hs4 hil (by decide) (by decide) hn.o).mono ?_;rintro e wM1 ⟨rfl,hf2,h2⟩;have M1:=q_ (M.o.call h2 hf2 hil);have F1:=q_ (F.o.trans hf2 u_);clear hf2 h2)
    |(go_at_call 164;refine(z7_ 70 M1.o.R hs4 hil (by decide) (by decide) hb.o).mono ?_;rintro e wM2 ⟨rfl,hf2,h2⟩;have M2:=q_ (M1.o.call h2 hf2 hlt);have F2:=q_ (F1.o.trans hf2 u_);clear hf2 h2))
   try go_ret
   rw[Q_.o,hr.o];exact nok (DaV.plain (.truth false) (by decide)) F2.o M2.o.R hlt
  ·have hr:=q_ (show tEnd s i=none by unfold tEnd;rw[if_neg h84,if_neg h70]);have hn:=q_ h84;have hb:=q_ h70
   go_in
   go_wp2_with (first
    |(go_at_call 164;refine(xc_ 84 M.o.R hs4 hil (by decide) (by decide) hn.o).mono ?_;rintro e wM1 ⟨rfl,hf2,h2⟩;have M1:=q_ (M.o.call h2 hf2 hil);have F1:=q_ (F.o.trans hf2 u_);clear hf2 h2)
    |(go_at_call 164;refine(xc_ 70 M1.o.R hs4 hil (by decide) (by decide) hb.o).mono ?_;rintro e wM2 ⟨rfl,hf2,h2⟩;have M2:=q_ (M1.o.call h2 hf2 hil);have F2:=q_ (F1.o.trans hf2 u_);clear hf2 h2))
   have e0:=M2.o.e
   go_quiet (fail)
   go_wp2_with fail
   try go_ret
   rw[Q_.o,hr.o];exact nerr (F2.o.still (ze_.drewN _ _)) (M2.o.R.still (ze_.drewN _ _)) hil
open Go.RowKit
def zn2 (w:World) (sv rv:Value) (s:BA) (pl:Bool) (br i d:Nat) (e:Ending) (w':World):Prop:=
 ∃ tx b,e=.returned (.tuple #[.string tx,.bool b])/\Fr w w' (· = br)/\
  ((bt s i=d/\bt s (zp_ s (i+1))=d/\b=true/\tx=s.extract (i+1) (zp_ s (i+1))/\RdAt w' br sv rv s (zp_ s (i+1)+1) (!pl)/\zp_ s (i+1)+1<=s.size)\/
   (¬ (bt s i=d/\bt s (zp_ s (i+1))=d)/\b=false/\∃ j,RdAt w' br sv rv s j (!pl)/\j<=s.size))
theorem zd9 {w0 w:World}{P:Nat->Prop}{ss:BA}{ds:List PD}{sv rv:Value}{xs:List Value}{s:BA}{nt:TypeId}{nx:Value}{pl:Bool}{br i:Nat}{c:Int}(d:Nat) (M:NC w0 P ss ds sv rv xs s nt nx pl br i w) (hd:c=(d:Int)) (hd0:0<d) :
 Calls prog 212 #[.pointer (some ⟨br,0,none⟩),.int .u8 c] w (zn2 w sv rv s pl br i d):=by
 subst hd;refine hq_ λ POST Q_=>?_
 have hs4:s.size<=4000:=by have:=M.hs;omega
 have hil:=M.il;have F:=q_ (Fr.refl w (λ g=>g=br));replace M:=q_ M
 by_cases hb:bt s i=d
 ·have hlt:i+1<=s.size:=zl_ (s:=s) (i:=i) (by omega);have hle:=zf9 hlt;obtain⟨e1,he1⟩:∃ e1,zp_ s (i+1)=e1:=⟨_,rfl⟩;rw[he1] at hle
  by_cases hb2:bt s e1=d
  ·have hlt2:e1+1<=s.size:=zl_ (s:=s) (i:=e1) (by omega);have hbb:=q_ hb2;replace hb:=q_ hb;replace he1:=q_ he1
   go_in
   go_wp2_with (first
    |(go_at_call 164;refine(z7_ d M.o.R hs4 hil rfl hd0 hb.o).mono ?_;rintro e w2 ⟨rfl,hf2,h2⟩;have F1:=q_ (F.o.trans hf2 u_);clear F M;replace h2:=q_ h2;clear hf2)
    |(go_at_call 216;refine(zbb h2.o hs4 hlt).mono ?_;rintro e w3 ⟨rfl,hf3,h3⟩;rw[show zm_ 97 122 s (i+1)=e1 from he1.o] at h3⊢;have F2:=q_ (F1.o.trans hf3 u_);replace h3:=q_ h3;clear hf3)
    |(go_at_call 164;refine(z7_ d h3.o hs4 hle.2 rfl hd0 hbb.o).mono ?_;rintro e w4 ⟨rfl,hf4,h4⟩;have F3:=q_ (F2.o.trans hf4 u_);replace h4:=q_ h4;clear hf4))
   try go_ret
   rw[Q_.o];refine⟨_,true,rfl,F3.o,.inl ?_⟩;rw[he1.o];exact⟨hb.o,hbb.o,rfl,rfl,h4.o,hlt2⟩
  ·have hbb:=q_ hb2;replace hb:=q_ hb;replace he1:=q_ he1
   go_in
   go_wp2_with (first
    |(go_at_call 164;refine(z7_ d M.o.R hs4 hil rfl hd0 hb.o).mono ?_;rintro e w2 ⟨rfl,hf2,h2⟩;have F1:=q_ (F.o.trans hf2 u_);clear F M;replace h2:=q_ h2;clear hf2)
    |(go_at_call 216;refine(zbb h2.o hs4 hlt).mono ?_;rintro e w3 ⟨rfl,hf3,h3⟩;rw[show zm_ 97 122 s (i+1)=e1 from he1.o] at h3⊢;have F2:=q_ (F1.o.trans hf3 u_);replace h3:=q_ h3;clear hf3)
    |(go_at_call 164;refine(xc_ d h3.o hs4 hle.2 rfl hd0 hbb.o).mono ?_;rintro e w4 ⟨rfl,hf4,h4⟩;have F3:=q_ (F2.o.trans hf4 u_);replace h4:=q_ h4;clear hf4))
   try go_ret
   rw[Q_.o];refine⟨_,false,rfl,F3.o,.inr ⟨λ h=>?_,rfl,e1,h4.o,hle.2⟩⟩;rw[he1.o] at h;exact hbb.o h.2
 ·have hbn:=q_ hb;clear hb
  go_in
  go_wp2_with (go_at_call 164;refine(xc_ d M.o.R hs4 hil rfl hd0 hbn.o).mono ?_;rintro e w2 ⟨rfl,hf2,h2⟩;have F1:=q_ (F.o.trans hf2 u_);replace h2:=q_ h2;clear hf2)
  try go_ret
  rw[Q_.o];exact⟨_,false,rfl,F1.o,.inr ⟨λ h=>hbn.o h.1,rfl,i,h2.o,hil⟩⟩
open Go.RowKit
def sEnd (s:BA) (i:Nat):Option (DT×Nat):=if bt s i=34/\bt s (zp_ s (i+1))=34 then some (.mk 115 0 (s.extract (i+1) (zp_ s (i+1))) [] [],zp_ s (i+1)+1) else none
theorem zm4 {w0 w:World}{t:PT}{P:Nat->Prop}{ss:BA}{ds:List PD}{sv rv:Value}{xs:List Value}{s:BA}{nt:TypeId}{nx:Value}{pl:Bool}{br i:Nat}(M:NC w0 P ss ds sv rv xs s nt nx pl br i w) :
 Calls prog 167 #[.pointer (some ⟨br,0,none⟩)] w (yr_ (za_ ds) t w sv rv s nt nx pl br (sEnd s i)):=by
 refine hq_ λ POST Q_=>?_;have hC:=q_ (zd9 (c:=34) 34 M rfl (by decide));have hs4:=M.hs;replace M:=q_ M
 by_cases hb:bt s i=34/\bt s (zp_ s (i+1))=34
 ·have hr:=q_ (show sEnd s i=some (.mk 115 0 (s.extract (i+1) (zp_ s (i+1))) [] [],zp_ s (i+1)+1) by unfold sEnd;rw[if_pos hb]);replace hb:=q_ hb
  go_in
  go_wp2_with (go_at_call 212;refine hC.o.mono ?_;rintro e w2 ⟨tx,b,rfl,hf2,hm⟩;obtain⟨rfl,rfl,h2,hj⟩:b=true/\tx=s.extract (i+1) (zp_ s (i+1))/\RdAt w2 br sv rv s (zp_ s (i+1)+1) (!pl)/\zp_ s (i+1)+1<=s.size:=(by rcases hm with⟨_,_,q1,q4,q2,q3⟩|⟨q,_⟩;(exact⟨q1,q4,q2,q3⟩);exact absurd hb.o q);replace hf2:=q_ hf2;replace h2:=q_ h2;replace hj:=q_ hj;clear hm)
  try go_ret
  rw[Q_.o,hr.o];exact nok (DaV.plain (.text _ (by rw[as_];omega)) (by decide)) hf2.o h2.o hj.o
 ·have hr:=q_ (show sEnd s i=none by unfold sEnd;rw[if_neg hb]);replace hb:=q_ hb
  go_in
  go_wp2_with (go_at_call 212;refine hC.o.mono ?_;rintro e w2 ⟨tx,b,rfl,hf2,hm⟩;obtain⟨rfl,j,h2,hj⟩:b=false/\∃ j,RdAt w2 br sv rv s j (!pl)/\j<=s.size:=(by rcases hm with⟨q0,q1,_⟩|⟨_,q1,q2⟩;(exact absurd ⟨q0,q1⟩ hb.o);exact⟨q1,q2⟩);have M2:=M.o.call h2 hf2 hj;have e0:=M2.e;replace hf2:=q_ hf2;replace h2:=q_ h2;clear hm M2)
  go_quiet (fail)
  go_wp2_with fail
  try go_ret
  rw[Q_.o,hr.o];exact nerr (hf2.o.still (ze_.drewN _ _)) (h2.o.still (ze_.drewN _ _)) hj
open Go.RowKit
def fEnd (s:BA) (n i:Nat):Option (DT×Nat):=if bt s i=39/\zp_ s (i+1)-(i+1)=n/\bt s (zp_ s (i+1))=39 then some (.mk 102 0 (s.extract (i+1) (zp_ s (i+1))) [] [],zp_ s (i+1)+1) else none
theorem zp5 {w0 w:World}{t:PT}{P:Nat->Prop}{ss:BA}{ds:List PD}{sv rv:Value}{xs:List Value}{s:BA}{nt:TypeId}{nx:Value}{pl:Bool}{br i:Nat}{p:Int}(M:NC w0 P ss ds sv rv xs s nt nx pl br i w) :
 Calls prog 173 #[.pointer (some ⟨br,0,none⟩),.agg #[.int .i64 p,.int .i64 (n:Int)]] w (yr_ (za_ ds) t w sv rv s nt nx pl br (fEnd s n i)):=by
 refine hq_ λ POST Q_=>?_;have A0:Fr w (w.alloc (.cells #[.int .i64 p,.int .i64 (n:Int)] 271)) (λ _=>False):=(Fr.refl w _).alloc _;have M0:=M.new A0;have hbl:=M.lt;have hs4:=M.hs;have hC:=q_ (zd9 (c:=39) 39 M0 rfl (by decide));have hN:=Blk.new w #[.int .i64 p,.int .i64 (n:Int)] 271;have F0:=q_ (A0.mono (T:=λ g=>g=br) v_);replace M0:=q_ M0;replace hN:=q_ hN;clear A0
 by_cases hb:bt s i=39/\bt s (zp_ s (i+1))=39
 ·have hlt:i+1<=s.size:=zl_ (s:=s) (i:=i) (by omega);have hle:=zf9 hlt
  have hsz:(s.extract (i+1) (zp_ s (i+1))).size=zp_ s (i+1)-(i+1):=by rw[as_];omega
  clear M;replace hb:=q_ hb
  have hcall:H_ (∀ e w2,zn2 (w.alloc (.cells #[.int .i64 p,.int .i64 (n:Int)] 271)) sv rv s pl br i 39 e w2->∃ tx,e=.returned (.tuple #[.string tx,.bool true])/\tx=s.extract (i+1) (zp_ s (i+1))/\(tx.size:Int)=((zp_ s (i+1)-(i+1):Nat):Int)/\Fr (w.alloc (.cells #[.int .i64 p,.int .i64 (n:Int)] 271)) w2 (· = br)/\RdAt w2 br sv rv s (zp_ s (i+1)+1) (!pl)/\zp_ s (i+1)+1<=s.size):=q_ (by
   rintro e w2 ⟨tx,b,rfl,hf2,hm⟩
   rcases hm with⟨_,_,rfl,rfl,q2,q3⟩|⟨q,_⟩
   ·exact⟨_,rfl,rfl,by rw[hsz],hf2,q2,q3⟩
   ·exact absurd hb.o q)
  by_cases hn:zp_ s (i+1)-(i+1)=n
  ·have hr:=q_ (show fEnd s n i=some (.mk 102 0 (s.extract (i+1) (zp_ s (i+1))) [] [],zp_ s (i+1)+1) by unfold fEnd;rw[if_pos ⟨hb.o.1,hn,hb.o.2⟩]);rw[hn] at hcall;clear hsz hn hle
   go_in
   go_wp2_with (go_at_call 212;refine hC.o.mono ?_;intro e w2 hB;obtain⟨tx,rfl,htq,htx,hf2,h2,hj⟩:=hcall.o e w2 hB;replace htq:=q_ htq;have n1:=(hf2.blk hN.o (by omega)).c1;replace hf2:=q_ hf2;replace h2:=q_ h2;replace hj:=q_ hj;clear hB)
   try go_ret
   rw[Q_.o,hr.o];exact nok (by rw[<- htq.o];exact DaV.plain (.bytes _ (by rw[htq.o,as_];omega)) (by decide)) (F0.o.trans hf2.o u_) h2.o hj.o
  ·have hr:=q_ (show fEnd s n i=none by unfold fEnd;rw[if_neg (λ h=>hn h.2.1)])
   have hn':∀ z:Int,z=((zp_ s (i+1)-(i+1):Nat):Int)->(z != (n:Int))=true:=λ z hz=>by rw[hz];simp;omega
   replace hn':=q_ hn';clear hsz hn hle
   go_in
   go_wp2_with (go_at_call 212;refine hC.o.mono ?_;intro e w2 hB;obtain⟨tx,rfl,htq,htx,hf2,h2,hj⟩:=hcall.o e w2 hB;clear htq;have htx':=hn'.o _ htx;clear htx;have n1:=(hf2.blk hN.o (by omega)).c1;have e0:=(M0.o.call h2 hf2 hj).e;replace hf2:=q_ hf2;replace h2:=q_ h2;replace hj:=q_ hj;clear hB)
   go_quiet (fail)
   go_wp2_with fail
   try go_ret
   rw[Q_.o,hr.o];exact nerr ((F0.o.trans hf2.o u_).still (ze_.drewN _ _)) (h2.o.still (ze_.drewN _ _)) hj.o
 ·have hr:=q_ (show fEnd s n i=none by unfold fEnd;rw[if_neg (λ h=>hb ⟨h.1,h.2.2⟩)]);replace hb:=q_ hb;clear M
  go_in
  go_wp2_with (go_at_call 212;refine hC.o.mono ?_;rintro e w2 ⟨tx,b,rfl,hf2,hm⟩;obtain⟨rfl,j,h2,hj⟩:b=false/\∃ j,RdAt w2 br sv rv s j (!pl)/\j<=s.size:=(by rcases hm with⟨q0,q1,_⟩|⟨_,q1,q2⟩;(exact absurd ⟨q0,q1⟩ hb.o);exact⟨q1,q2⟩);have e0:=(M0.o.call h2 hf2 hj).e;replace hf2:=q_ hf2;replace h2:=q_ h2;clear hm)
  go_quiet (fail)
  go_wp2_with fail
  try go_ret
  rw[Q_.o,hr.o];exact nerr ((F0.o.trans hf2.o u_).still (ze_.drewN _ _)) (h2.o.still (ze_.drewN _ _)) hj
open Go.RowKit
theorem zi1:∀ (l:List Nat) (q b:Nat),l[q]?=some b->b∉l.take q->l.findIdx? (λ c=>c==b)=some q
 | [],q,b,h,_=>by simp at h
 | a::r,0,b,h,_=>by
  simp only[aa_,ad_] at h
  simp[List.findIdx?_cons,h]
 | a::r,q+1,b,h,hn=>by
  simp only[ac_] at h;simp only[b8_,an_,not_or] at hn;rw[List.findIdx?_cons,if_neg (by simp;omega),zi1 r q b h hn.2]
  rfl
theorem zc8 {l:List Nat}{b:Nat}(h:b∉l):l.findIdx? (λ c=>c==b)=none:=by
 rw[List.findIdx?_eq_none_iff];intro x hx;exact beq_eq_false_iff_ne.2 (λ e=>h (e▸hx))
def eEnd (s:BA) (l:List (Nat×Nat)) (i:Nat):Option (DT×Nat):=
 match (l.map Prod.fst).findIdx? (λ c=>c==bt s i) with|none=>none|some q=>some (.mk 101 q noB [] [],i+1)
theorem zm1 {w0 w:World}{t:PT}{P:Nat->Prop}{ss:BA}{ds:List PD}{sv rv:Value}{xs:List Value}{s:BA}{nt:TypeId}{nx:Value}{pl:Bool}{br i:Nat}{p:Int}{lv u:Value}{l:List (Nat×Nat)}(M:NC w0 P ss ds sv rv xs s nt nx pl br i w) (hsy:∀ n,symL (za_ ds) t n=(l.map Prod.fst).getD n 0) (ho:w.ownsRow 0 217 2 lv l.length (yg_ l)) (hoP:∀ g,lv.ownBlock=some g->P g) (hl:l.length<=300) (hsm:∀ q∈l,zn_ q.1=true) :
 Calls prog 172 #[.pointer (some ⟨br,0,none⟩),.agg #[.int .i64 p,lv,u]] w (yr_ (za_ ds) t w sv rv s nt nx pl br (eEnd s l i)):=by
 refine hq_ λ POST Q_=>?_;obtain⟨la,lc,rfl⟩:=zf_ ho
 have hs4:s.size<=4000:=by have:=M.hs;omega
 have hil:=M.il;have hbl:=M.lt;have hbP:=M.brP;have A0:Fr w (w.alloc (.cells #[.int .i64 p,.slice la l.length lc,u] 268)) (λ _=>False):=(Fr.refl w _).alloc _;have start:H_ (∃ q:Nat,Value.int .i64 0=.int .i64 (q:Int)/\q<=l.length/\l.length+1-q<=l.length+1/\Fr w (w.alloc (.cells #[.int .i64 p,.slice la l.length lc,u] 268)) (λ g=>g=br)/\RdAt (w.alloc (.cells #[.int .i64 p,.slice la l.length lc,u] 268)) br sv rv s i (!pl)/\bt s i∉(l.take q).map Prod.fst):=q_ ⟨0,rfl,aj_ _,by omega,A0.mono v_,A0.blk M.R id,by simp⟩;replace M:=q_ M;replace ho:=q_ ho;replace hoP:=q_ hoP;clear A0
 go_in
 go_wp2_with fail
 go_loopg [6,11] (l.length+1) (λ m v6 v W=>∃ q:Nat,v=.int .i64 (q:Int)/\q<=l.length/\l.length+1-q<=m/\Fr w W (λ g=>g=br)/\RdAt W br sv rv s i (!pl)/\bt s i∉(l.take q).map Prod.fst)
 case atStart=>exact start.o
 case round=>
  clear start;obtain⟨q,rfl,hq,hm,hf,hR,he⟩:=hrel;have hsz:=hf.size
  by_cases hlt:q<l.length
  ·have hlt':(q:Int)<(l.length:Int):=by omega
   have hd:l[q]?=some l[q]:=am_ hlt;have hmem:l[q]∈l:=bd_ hlt;generalize l[q]=f at hd hmem;obtain⟨c,plq⟩:=f;obtain⟨k,hk,hk26⟩:=zb9 (hsm _ hmem)
   have hc0:0<c:=by have:c=97+k:=hk;omega
   clear hk hk26;obtain⟨g,cap,hgc⟩:=zk_ ho.o (by omega);cases hgc;have hne:¬ g=br:=λ e=>hbP (e▸hoP.o g rfl);have hrow:=zb_ ho.o hf (λ g' e=>by simp only[Value.ownBlock,ad_] at e;subst e;exact hne);have c0:=zs_ hrow rfl (xp_ hd).1;have c1:=zs_ hrow rfl (xp_ hd).2;have htk:=zoc hd;have A1:=(Fr.refl wr (λ _=>False)).alloc (.cells #[.int .i64 (plq:Int),.int .u8 (c:Int)] 217);have hN:=Blk.new wr #[.int .i64 (plq:Int),.int .u8 (c:Int)] 217;have hR1:=A1.blk hR id;have hf1:=q_ (hf.trans A1 v_);clear hrow
   by_cases hb:bt s i=c
   ·have hC:=q_ (z7_ c (show RdAt _ br sv rv s i (!pl) from hR1) hs4 hil rfl hc0 hb);have hlt2:i+1<=s.size:=zl_ (s:=s) (i:=i) (by omega);have hr:=q_ (show eEnd s l i=some (.mk 101 (q:Int) noB [] [],i+1) by unfold eEnd;rw[zi1 _ q (bt s i) (by rw[a4_,hd,hb];rfl) (by rw[<- List.map_take];exact he)]);have hsL:=q_ (show symL (za_ ds) t q=c/\c<256 from⟨by rw[hsy,aq_,a4_,hd];rfl,by have:=zqx s i;omega⟩);replace hN:=q_ hN;clear hR1 hR hf A1 he htk hb
    go_wp2_with (go_at_call 164;refine hC.o.mono ?_;rintro e w2 ⟨rfl,hf2,h2⟩;have n1:=(hf2.blk hN.o (by omega)).c1;replace hf2:=q_ hf2;replace h2:=q_ h2)
    try go_ret
    rw[Q_.o,hr.o];exact nok (.flat (.sym q c (by omega)) (λ n l' e=>by cases e;exact hsL.o)) (hf1.o.trans hf2.o u_) h2.o hlt2
   ·have hC:=q_ (xc_ c (show RdAt _ br sv rv s i (!pl) from hR1) hs4 hil rfl hc0 hb);have he':=q_ (show bt s i∉(l.take (q+1)).map Prod.fst by rw[htk,bj_,a6_];rintro(h|h);exact he h;exact hb h);clear hR1 hR hf A1 he htk hb hN
    go_wp2_with (go_at_call 164;refine hC.o.mono ?_;rintro e w2 ⟨rfl,hf2,h2⟩;replace hf2:=q_ hf2;replace h2:=q_ h2)
    go_roundg (l.length+1-(q+1))
    case measure=>omega
    case rel=>exact⟨q+1,rfl,hlt,l_,hf1.o.trans hf2.o u_,h2.o,he'.o⟩
  ·have hlt':¬ ((q:Int)<(l.length:Int)):=by omega
   rw[a3_ (by omega)] at he;have hr:=q_ (show eEnd s l i=none by unfold eEnd;rw[zc8 he]);have e0:=(M.o.call hR hf hil).e;replace hf:=q_ hf;replace hR:=q_ hR;clear he
   go_wp2_with fail
   go_quiet (fail)
   go_wp2_with fail
   try go_ret
   rw[Q_.o,hr.o];exact nerr (hf.o.still (ze_.drewN _ _)) (hR.o.still (ze_.drewN _ _)) hil
open Go.RowKit
def jv_ {St:Type}(step:St->Nat->Option (St×Nat)) (s:BA) (fin:Nat):Nat->St->Nat->Option (St×Nat)
 | 0,_,_=>none
 | n+1,σ,j=>
  match step σ j with
  | none=>none
  | some (σ',j')=>if bt s j'=fin then some (σ',j'+1) else if bt s j'=44 then jv_ step s fin n σ' (j'+1) else none
def zao {St:Type}(step:St->Nat->Option (St×Nat)) (s:BA) (op fin:Nat) (σ:St) (i:Nat):Option (St×Nat):=
 if bt s i=op then (if bt s (i+1)=fin then some (σ,i+2) else jv_ step s fin (s.size+2) σ (i+1)) else none
structure zo9 {St:Type}(sv rv:Value) (s:BA) (nt:TypeId) (nx:Value) (pl:Bool) (br fid:Nat) (caps:Array Value) (step:St->Nat->Option (St×Nat)) (Inv:St->Nat->World->Prop) (Bad:Value->World->Prop):Prop where
 F:∀ W:World,(callFunc fid caps).run prog W=.ok (.enter fid caps) W
 R:∀ {σ j W},Inv σ j W->RdAt W br sv rv s j (!pl)/\j<=s.size/\W.cell? ⟨3,0,none⟩=some (.iface nt nx)
 K:∀ {σ j j' W W'},Inv σ j W->RdAt W' br sv rv s j' (!pl)->Fr W W' (· = br)->j'<=s.size->j<=j'->Inv σ j' W'
 B:∀ {σ j W},Inv σ j W->Bad (.iface nt nx) W
 C:∀ {σ j W},Inv σ j W->Calls prog fid caps W λ e W'=>∃ v,e=.returned v/\match step σ j with|some (σ',j')=>v=.nilIface/\j<j'/\Inv σ' j' W'|none=>(∃ T x,v=.iface T x)/\Bad v W'
def zl8 {St:Type}(Inv:St->Nat->World->Prop) (Bad:Value->World->Prop) (res:Option (St×Nat)) (e:Ending) (w':World):Prop:=
 ∃ v,e=.returned v/\match res with|some (σ,j)=>v=.nilIface/\Inv σ j w'|none=>(∃ T x,v=.iface T x)/\Bad v w'
theorem zdr {St:Type}{sv rv:Value}{s:BA}{nt:TypeId}{nx:Value}{pl:Bool}{br fid:Nat}{caps:Array Value}{step:St->Nat->Option (St×Nat)}{Inv:St->Nat->World->Prop}{Bad:Value->World->Prop}(I:zo9 sv rv s nt nx pl br fid caps step Inv Bad)
 {w:World} {σ:St} {i:Nat} {co cf:Int} (op fin:Nat) (hR:RdAt w br sv rv s i (!pl)) (hil:i<=s.size) (hS:∀ W',RdAt W' br sv rv s (i+1) (!pl)->Fr w W' (· = br)->i+1<=s.size->Inv σ (i+1) W') (hB0:∀ W',RdAt W' br sv rv s i (!pl)->Fr w W' (· = br)->Bad (.iface nt nx) W'/\W'.cell? ⟨3,0,none⟩=some (.iface nt nx)) (hs4:s.size<=4000) (hco:co=(op:Int)) (hcf:cf=(fin:Int)) (ho0:0<op) (hf0:0<fin) :
 Calls prog 213 #[.pointer (some ⟨br,0,none⟩),.int .u8 co,.int .u8 cf,.func (.func fid) #[] caps] w (zl8 Inv Bad (zao step s op fin σ i)):=by
 subst hco;subst hcf;refine hq_ λ POST Q_=>?_
 by_cases hop:bt s i=op
 case neg=>
  have hr:=q_ (show zao step s op fin σ i=none by unfold zao;rw[if_neg hop]);have hC:=q_ (xc_ op hR hs4 hil rfl ho0 hop);replace hB0:=q_ hB0;clear hR hop hS
  go_in
  go_wp2_with (go_at_call 164;refine hC.o.mono ?_;rintro e w2 ⟨rfl,hf2,h2⟩;obtain⟨B2,e2⟩:=hB0.o w2 h2 hf2;replace B2:=q_ B2;clear hf2 h2)
  try go_ret
  rw[Q_.o,hr.o];exact⟨_,rfl,⟨_,_,rfl⟩,B2.o⟩
 case pos=>
 have hlt:i+1<=s.size:=zl_ (s:=s) (i:=i) (by omega);have hC:=q_ (z7_ op hR hs4 hil rfl ho0 hop);replace hS:=q_ hS;replace I:=q_ I;clear hB0
 by_cases hfin:bt s (i+1)=fin
 case pos=>
  have hlt2:i+1+1<=s.size:=zl_ (s:=s) (i:=i+1) (by omega);have hr:=q_ (show zao step s op fin σ i=some (σ,i+2) by unfold zao;rw[if_pos hop,if_pos hfin]);have hC2:H_ (∀ w2,RdAt w2 br sv rv s (i+1) (!pl)->_):=q_ (λ w2 h2=>z7_ (w:=w2) fin h2 hs4 hlt rfl hf0 hfin);clear hR hop hfin
  go_in
  go_wp2_with (first
   |(go_at_call 164;refine hC.o.mono ?_;rintro e w2 ⟨rfl,hf2,h2⟩;have I2:=q_ (hS.o w2 h2 hf2 hlt);clear hf2 hC;replace h2:=q_ h2)
   |(go_at_call 164;refine(hC2.o w2 h2.o).mono ?_;rintro e w3 ⟨rfl,hf3,h3⟩;have I3:=q_ (I.o.K I2.o h3 hf3 hlt2 (by omega));clear hf3 h3))
  try go_ret
  rw[Q_.o,hr.o];exact⟨_,rfl,rfl,I3.o⟩
 case neg=>
  have hr:=q_ (show zao step s op fin σ i=jv_ step s fin (s.size+2) σ (i+1) by unfold zao;rw[if_pos hop,if_neg hfin]);have hC2:H_ (∀ w2,RdAt w2 br sv rv s (i+1) (!pl)->_):=q_ (λ w2 h2=>xc_ (w:=w2) fin h2 hs4 hlt rfl hf0 hfin);clear hR hop hfin
  go_in
  go_wp2_with (first
   |(go_at_call 164;refine hC.o.mono ?_;rintro e w2 ⟨rfl,hf2,h2⟩;have I2:=q_ (hS.o w2 h2 hf2 hlt);clear hf2 hC;replace h2:=q_ h2)
   |(go_at_call 164;refine(hC2.o w2 h2.o).mono ?_;rintro e w3 ⟨rfl,hf3,h3⟩;have I3:=I.o.K I2.o h3 hf3 hlt l_;have start:=q_ (⟨s.size+2,σ,i+1,I3,(by omega),(by omega),hr.o⟩:∃ n σ' j,Inv σ' j w3/\s.size+1-j<=s.size+1/\s.size+1-j<=n/\zao step s op fin σ i=jv_ step s fin n σ' j);clear I3 hf3 h3 I2 hr))
  go_loopg [] (s.size+1) (λ m W=>∃ n σ' j,Inv σ' j W/\s.size+1-j<=m/\s.size+1-j<=n/\zao step s op fin σ i=jv_ step s fin n σ' j)
  case atStart=>exact start.o
  case round=>
   clear start;have hcf:=I.o.F;obtain⟨n,σ1,j,hI,hm,hn,hr⟩:=hrel;obtain⟨hR,hjl,hE⟩:=I.o.R hI;have hCc:=I.o.C hI;obtain⟨n',rfl⟩:∃ n',n=n'+1:=⟨n-1,by omega⟩;rw[jv_] at hr
   cases hst:step σ1 j with
   | none=>
    rw[hst] at hr hCc;replace hr:=q_ hr;replace hCc:=q_ hCc;clear hR hE hI hst
    go_wp2_with (refine hCc.o.mono ?_;rintro e w5 ⟨v5,rfl,⟨vT,vx,rfl⟩,hB⟩;replace hB:=q_ hB;clear hCc)
    try go_ret
    rw[Q_.o,hr.o];exact⟨_,rfl,⟨_,_,rfl⟩,hB.o⟩
   | some q=>
    obtain⟨σ2,j2⟩:=q;rw[hst] at hr hCc;simp only at hr;replace hCc:=q_ hCc;clear hR hE hI hst
    by_cases hbf:bt s j2=fin
    ·rw[if_pos hbf] at hr;replace hr:=q_ hr;have hlt2:j2+1<=s.size:=zl_ (s:=s) (i:=j2) (by omega);replace hbf:=q_ hbf
     go_wp2_with (first
      |(refine hCc.o.mono ?_;rintro e w5 ⟨v5,rfl,rfl,hjj,hI5⟩;have hR5:=q_ ((I.o.R hI5).1);have hj5:=(I.o.R hI5).2.1;replace hI5:=q_ hI5;clear hCc)
      |(go_at_call 164;refine(z7_ fin hR5.o hs4 hj5 rfl hf0 hbf.o).mono ?_;rintro e w6 ⟨rfl,hf6,h6⟩;have I6:=q_ (I.o.K hI5.o h6 hf6 hlt2 (by omega));clear hf6 h6))
     try go_ret
     rw[Q_.o,hr.o];exact⟨_,rfl,rfl,I6.o⟩
    ·rw[if_neg hbf] at hr
     by_cases hb44:bt s j2=44
     ·rw[if_pos hb44] at hr;replace hr:=q_ hr;have hlt2:j2+1<=s.size:=zl_ (s:=s) (i:=j2) (by omega);replace hbf:=q_ hbf;replace hb44:=q_ hb44
      go_wp2_with (first
       |(refine hCc.o.mono ?_;rintro e w5 ⟨v5,rfl,rfl,hjj,hI5⟩;have hR5:=q_ ((I.o.R hI5).1);have hj5:=(I.o.R hI5).2.1;replace hI5:=q_ hI5;clear hCc)
       |(go_at_call 164;refine(xc_ fin hR5.o hs4 hj5 rfl hf0 hbf.o).mono ?_;rintro e w6 ⟨rfl,hf6,h6⟩;have I6:=I.o.K hI5.o h6 hf6 hj5 l_;have hR6:=q_ ((I.o.R I6).1);replace I6:=q_ I6;clear hf6 h6 hR5)
       |(go_at_call 164;refine(z7_ 44 hR6.o hs4 hj5 rfl (by decide) hb44.o).mono ?_;rintro e w7 ⟨rfl,hf7,h7⟩;have I7:=q_ (I.o.K I6.o h7 hf7 hlt2 (by omega));clear hf7 h7))
      go_roundg (s.size+1-(j2+1))
      case measure=>omega
      case rel=>exact⟨n',σ2,j2+1,I7.o,l_,by omega,hr.o⟩
     ·rw[if_neg hb44] at hr;replace hr:=q_ hr;replace hbf:=q_ hbf;replace hb44:=q_ hb44
      go_wp2_with (first
       |(refine hCc.o.mono ?_;rintro e w5 ⟨v5,rfl,rfl,hjj,hI5⟩;have hR5:=q_ ((I.o.R hI5).1);have hj5:=(I.o.R hI5).2.1;replace hI5:=q_ hI5;clear hCc)
       |(go_at_call 164;refine(xc_ fin hR5.o hs4 hj5 rfl hf0 hbf.o).mono ?_;rintro e w6 ⟨rfl,hf6,h6⟩;have I6:=I.o.K hI5.o h6 hf6 hj5 l_;have hR6:=q_ ((I.o.R I6).1);replace I6:=q_ I6;clear hf6 h6 hR5)
       |(go_at_call 164;refine(xc_ 44 hR6.o hs4 hj5 rfl (by decide) hb44.o).mono ?_;rintro e w7 ⟨rfl,hf7,h7⟩;have I7:=I.o.K I6.o h7 hf7 hj5 l_;have e7:=(I.o.R I7).2.2;replace I7:=q_ I7;clear hf7 h7))
      try go_ret
      rw[Q_.o,hr.o];exact⟨_,rfl,⟨_,_,rfl⟩,I.o.B I7.o⟩
open Go.RowKit
def DatN (w0:World) (P:Nat->Prop) (ss:BA) (ds:List PD) (sv rv:Value) (xs:List Value) (s:BA) (nt:TypeId) (nx:Value) (pl:Bool) (br f:Nat) (t:PT) (j:Nat):Prop:=
 ∀ (w:World) (v:Value),NC w0 P ss ds sv rv xs s nt nx pl br j w->TyV w P t v->
  Calls prog 110 #[.pointer (some ⟨br,0,none⟩),v] w (yr_ (za_ ds) t w sv rv s nt nx pl br (rdT s (za_ ds) pl f t j))
def zem (R:Nat->Option (DT×Nat)) (l:List DT) (j:Nat):Option (List DT×Nat):=(R j).map (λ q=>(l++[q.1],q.2))
theorem zqg (R:Nat->Option (DT×Nat)) (s:BA) (fin:Nat):∀ n l j last,jv_ (zem R) s fin n l j=(y3_ R s fin false n last j).map (λ q=>(l++q.1.map Prod.snd,q.2)):=by
 intro n
 induction n with
 | zero=>intro l j last;rfl
 | succ n ih=>
  intro l j last;rw[jv_,y3_];simp only[zeo,az_,if_false,zem]
  cases R j with
  | none=>rfl
  | some q=>
   obtain⟨d,j'⟩:=q;simp only[a2_];split
   ·rfl
   ·split
    ·rw[ih (l++[d]) (j'+1) (some noB)]
     cases y3_ R s fin false n (some noB) (j'+1) with
     | none=>rfl
     | some q=>simp
    ·rfl
theorem zte (R:Nat->Option (DT×Nat)) (s:BA) (i:Nat):vt_ R s 91 i=(zao (zem R) s 91 93 [] i).map (λ q=>(.mk 91 0 noB [] q.1,q.2)):=by
 unfold zao vt_ zcr
 by_cases h:bt s i=91
 ·rw[if_pos h,if_pos h,show x7_ 91=93 from rfl,show((91:Nat)==123)=false from rfl]
  by_cases h2:bt s (i+1)=93
  ·rw[if_pos h2,if_pos h2]
   rfl
  ·rw[if_neg h2,if_neg h2,zqg R s 93 _ [] (i+1) none]
   cases y3_ R s 93 false (s.size+2) none (i+1) with
   | none=>rfl
   | some q=>simp
 ·rw[if_neg h,if_neg h]
  rfl
structure LI (w0 w:World) (P:Nat->Prop) (ss:BA) (ds:List PD) (sv rv:Value) (xs:List Value) (s:BA) (nt:TypeId) (nx:Value) (pl:Bool) (br i:Nat) (t:PT) (p:Int) (v:Value) (l:List DT) (j:Nat) (W:World):Prop where
 M:NC w0 P ss ds sv rv xs s nt nx pl br j W
 fr:Fr w W (· = br)
 lt:br<w.heap.size
 hB:w.heap.size+3<=W.heap.size
 b2:Blk W w.heap.size [.pointer (some ⟨br,0,none⟩)] 225
 b3:Blk W (w.heap.size+1) [.int .i64 p,v] 252
 ty:TyV W P t v
 c:i+l.length<j
 row:∃ lv,Blk W (w.heap.size+2) [lv] 169/\RowT (za_ ds) W (w.heap.size+3) (λ g=>w.heap.size+3<=g/\lv.ownBlock≠some g) (.wrap 91 0 t) lv l
section
variable {w0 w:World} {P:Nat->Prop} {ss:BA} {ds:List PD} {sv rv:Value} {xs:List Value} {s:BA} {nt:TypeId} {nx:Value} {pl:Bool} {br i:Nat} {t:PT} {p:Int} {v:Value} {l:List DT} {j j':Nat} {W W':World}
theorem LI.call (L:LI w0 w P ss ds sv rv xs s nt nx pl br i t p v l j W) (h:RdAt W' br sv rv s j' (!pl)) (hf:Fr W W' (· = br)) (hj:j'<=s.size) (hc:i+l.length<j'):LI w0 w P ss ds sv rv xs s nt nx pl br i t p v l j' W':=by
 have h1:=L.lt;obtain⟨lv,r1,r2⟩:=L.row;obtain⟨ys,r3⟩:=r2.row;exact⟨L.M.call h hf hj,L.fr.trans hf u_,L.lt,ah_ L.hB hf.size,hf.blk L.b2 (by omega),hf.blk L.b3 (by omega),L.ty.fr hf (λ g hg e=>L.M.brP (e▸hg)),hc,lv,hf.blk r1 (by omega),r2.fr hf (λ g hg e=>by omega) (λ g hg e=>by have:=r3.lt g hg;omega)⟩
end
def BadL (w:World) (sv rv:Value) (s:BA) (nt:TypeId) (nx:Value) (pl:Bool) (br:Nat) (ev:Value) (W:World):Prop:=
 Fr w W (· = br)/\ErrD W w.heap.size nt nx ev/\∃ j,RdAt W br sv rv s j (!pl)/\j<=s.size
theorem zmc:Tryz.prog.underlying 169=some (.slice 94):=by kernel_rfl
theorem zbu:(Tryz.prog.info? 94).map (λ i=>(i.zero,i.size,i.bytes))=some (some .nilIface,1,16):=by kernel_rfl
theorem zp4 {w0 w:World}{P:Nat->Prop}{ss:BA}{ds:List PD}{sv rv:Value}{xs:List Value}{s:BA}{nt:TypeId}{nx:Value}{pl:Bool}{br i:Nat}{t:PT}{p:Int}{l:List DT}{j:Nat}{W:World}(L:LI w0 w P ss ds sv rv xs s nt nx pl br i t p (.iface vT vx) l j W) (hI:yi_ w0) (hR:DatN w0 P ss ds sv rv xs s nt nx pl br f t j) (hgo:∀ d j',rdT s (za_ ds) pl f t j=some (d,j')->j<j') :
 Calls prog 214 #[.pointer (some ⟨w.heap.size,0,none⟩),.pointer (some ⟨w.heap.size+1,0,none⟩),.pointer (some ⟨w.heap.size+2,0,none⟩)] W λ e W'=>∃ v,e=.returned v/\match zem (rdT s (za_ ds) pl f t) l j with|some (l',j')=>v=.nilIface/\j<j'/\LI w0 w P ss ds sv rv xs s nt nx pl br i t p (.iface vT vx) l' j' W'|none=>(∃ T x,v=.iface T x)/\BadL w sv rv s nt nx pl br v W':=by
 refine hq_ λ POST Q_=>?_;have hC:=q_ (hR W _ L.M L.ty);have c20:=L.b2.c0;have c31:=L.b3.c1;have hjs:=L.M.il;have hs3:=L.M.hs;have hcn:=L.c;have hlt:=L.lt;replace L:=q_ L
 cases hp:rdT s (za_ ds) pl f t j with
 | none=>
  have hst:=q_ (show zem (rdT s (za_ ds) pl f t) l j=none by unfold zem;rw[hp];rfl);replace hp:=q_ hp
  go_in
  go_wp2_with (first
   |(go_at_call 110;refine hC.o.mono ?_;rintro e w1 ⟨v1,ev1,rfl,hf1,hm⟩;rw[hp.o] at hm;obtain⟨rfl,hErr,j1,h1,hj1⟩:=hm;obtain⟨eT,ex,rfl⟩:=hErr.iface;have G1:=(L.o.M.call h1 hf1 hj1).G;obtain⟨lv,r1,r2⟩:=L.o.row;obtain⟨ys,r3⟩:=r2.row;obtain⟨la,lc,rfl⟩:=zf_ r3;have k0:=(hf1.blk r1 (by omega)).c0;replace hf1:=q_ hf1;replace hErr:=q_ hErr;replace h1:=q_ h1;replace G1:=q_ G1;clear r1 r2)
   |(go_at_call 186;refine(zdu (n:=l.length) hI G1.o (by omega)).mono ?_;intro e w2 hW;obtain⟨g2,tx2,rfl,hg2,hb2,hf2⟩:=hW;replace hf2:=q_ hf2;replace hb2:=q_ hb2))
  try go_ret
  rw[Q_.o];refine⟨_,rfl,?_⟩;rw[hst.o];have hs1:=(L.o.fr.trans hf1.o u_).size;have hsW:=L.o.fr.size;exact⟨⟨_,_,rfl⟩,(L.o.fr.trans hf1.o u_).trans hf2.o v_,.within g2 (by omega) tx2 hb2.o ((hErr.o.less hsW).fr hf2.o u_),j1,hf2.o.blk h1.o id,hj1⟩
 | some q=>
  obtain⟨d,j2⟩:=q;have hj2:=hgo d j2 hp;have hst:=q_ (show zem (rdT s (za_ ds) pl f t) l j=some (l++[d],j2) by unfold zem;rw[hp];rfl);replace hp:=q_ hp;obtain⟨ti,hi1,hi2,hi3,hi4⟩:=info_parts zbu
  go_in
  go_wp2_with (first
   |(go_at_call 110;refine hC.o.mono ?_;rintro e w1 ⟨v1,ev1,rfl,hf1,hm⟩;rw[hp.o] at hm;obtain⟨rfl,hDv,h1,hj1⟩:=hm;obtain⟨dT,dx,rfl⟩:=hDv.iface;have L1:=L.o.call h1 hf1 hj1 (by omega);obtain⟨lv,q1,Y,q2,qY⟩:=L.o.row;have r3:=q_ q2.lt;have r1:=hf1.blk q1 (by omega);have r2:=zb_ q2 hf1 (λ g hg e=>(by have:=q2.lt g hg;omega));have rY:=q_ (λ i d (e:l[i]?=some d)=>(qY i d e).fr hf1 (λ g hg e=>(by omega)));obtain⟨la,lc,rfl⟩:=zf_ r2;replace hDv:=q_ hDv;clear q1 q2 qY;have k0:=r1.c0;have kg:=r1.thaw 0;have hB1:=L1.hB;replace L1:=q_ L1;replace r1:=q_ r1;replace r2:=q_ r2;clear hf1 h1)
   |(at_builtin;go_must (refine wpList_append_own_at _ rfl _ _ 169 rfl (w.heap.size+3) 94 ti _ 1 16 zmc hi1 hi2 hi3 hi4 rfl (by decide) (.slice la l.length lc) l.length ((List.range l.length).flatMap λ i=>[Y i]) rfl ?hown _ 1 1 [.iface dT dx] rfl rfl (yh_ _ #[.iface dT dx] _ _ ?nn) ?one ?b1 ?b2 ?b3 ?_)
     case hown=>exact World.ownsRow.alloc r2.o _
     case nn=>simp
     case one=>simp[Value.oneCell']
     case b1=>unfold maxLen;omega
     case b2=>omega
     case b3=>simp;omega
     intro v5 w5 ho5 hg5 hn5 hl5
     have hF5:Fr w1 w5 (λ g=>(Value.slice la l.length lc).ownBlock=some g):=Fr.grown ((Fr.refl w1 _).alloc _) hg5 (λ k e _=>e)
     have e5:=(hF5.blk r1.o (λ e=>by have:=r2.o.lt _ e;omega)).cell 0
     have f5:=(hF5.blk r1.o (λ e=>by have:=r2.o.lt _ e;omega)).thaw 0
     have R5:=hF5.blk r1.o (λ e=>by have:=r2.o.lt _ e;omega)
     simp only[aa_] at e5
     have hn5':∀ g,v5.ownBlock=some g->w.heap.size+3<=g:=(λ g hg=>(ho5.lt g hg).1)
     obtain⟨g5,cap5,rfl⟩:=zk_ ho5 (by omega)
     replace hF5:=q_ hF5
     replace ho5:=q_ ho5
     replace R5:=q_ R5
     replace hn5':=q_ hn5'
     have hl6:H_ ((Value.slice (some ⟨g5,0,none⟩) (l.length+1) cap5).ownBlock=(Value.slice la l.length lc).ownBlock\/∃ h,(Value.slice (some ⟨g5,0,none⟩) (l.length+1) cap5).ownBlock=some h/\w1.heap.size<=h):=q_ (hl5.imp id (λ e=>⟨_,e,by simp⟩))
     clear hg5 hl5 hn5))
  try go_ret
  rw[Q_.o];refine⟨_,rfl,?_⟩;rw[hst.o];refine⟨rfl,hj2,?_⟩;have hG:Fr w5 (w5.setCell ⟨w.heap.size+2,0,none⟩ (.slice (some ⟨g5,0,none⟩) (l.length+1) cap5)) (λ g=>g=w.heap.size+2):=(Fr.refl w5 (λ g=>g=w.heap.size+2)).setCell ⟨w.heap.size+2,0,none⟩ _ (λ _=>rfl);have hH:Fr w1 (w5.setCell ⟨w.heap.size+2,0,none⟩ (.slice (some ⟨g5,0,none⟩) (l.length+1) cap5)) (λ g=>w.heap.size+2<=g):=(hF5.o.mono (λ g _ e=>by have:=r2.o.lt g e;omega)).trans hG (λ g _ e=>by omega);have hM1:=L1.o.M;have hbG:=hM1.brG;have hl1:=L1.o.lt
  have hPl:∀ g,P g->¬ (w.heap.size+2<=g):=λ g hg=>by have:=hM1.Pbr g hg;omega
  exact⟨⟨hH.blk hM1.R (by omega),hM1.D.fr hH hPl,hM1.G.fr hH (by have:=hM1.lt;omega) (λ g e=>by omega),hM1.E,hM1.Pbr,hM1.brG,hM1.hs,hM1.il⟩,L1.o.fr.trans hH (λ g hg e=>by omega),L1.o.lt,ah_ L1.o.hB hH.size,hH.blk L1.o.b2 (by omega),hH.blk L1.o.b3 (by omega),L1.o.ty.fr hH hPl,by rw[al_,ai_];omega,_,R5.o.set 0 _,RowT.grow (t:=.wrap 91 0 t) (c:=w.heap.size+2) rY.o (hDv.o.mono (λ g _ hg=>⟨by have:=L.o.hB;omega,λ e=>by have:=r3.o g e;omega⟩)) ((hF5.o.mono (λ _ _ e=>.inl e)).trans hG (λ _ _ e=>.inr e)) (by omega) hl6.o (zb_ ho5.o hG (λ g hg e=>by have:=hn5'.o g hg;omega))⟩
open Go.RowKit
theorem zwd {w0 w:World}{P:Nat->Prop}{ss:BA}{ds:List PD}{sv rv:Value}{xs:List Value}{s:BA}{nt:TypeId}{nx:Value}{pl:Bool}{br i:Nat}{t:PT}{p:Int}(M:NC w0 P ss ds sv rv xs s nt nx pl br i w) (hT:TyV w P t (.iface vT vx)){W':World}(h:RdAt W' br sv rv s (i+1) (!pl)) (hf:Fr (((w.alloc (.cells #[.pointer (some ⟨br,0,none⟩)] 225)).alloc (.cells #[.int .i64 p,.iface vT vx] 252)).alloc (.cells #[.slice none 0 0] 169)) W' (· = br)) (hi:i+1<=s.size) :
 LI w0 w P ss ds sv rv xs s nt nx pl br i t p (.iface vT vx) [] (i+1) W':=by
 have hbl:=M.lt;have A:Fr w (((w.alloc (.cells #[.pointer (some ⟨br,0,none⟩)] 225)).alloc (.cells #[.int .i64 p,.iface vT vx] 252)).alloc (.cells #[.slice none 0 0] 169)) (λ _=>False):=(((Fr.refl w _).alloc _).alloc _).alloc _
 have hz:(((w.alloc (.cells #[.pointer (some ⟨br,0,none⟩)] 225)).alloc (.cells #[.int .i64 p,.iface vT vx] 252)).alloc (.cells #[.slice none 0 0] 169)).heap.size=w.heap.size+3:=by simp
 have z1:(w.alloc (.cells #[.pointer (some ⟨br,0,none⟩)] 225)).heap.size=w.heap.size+1:=by simp
 have z2:((w.alloc (.cells #[.pointer (some ⟨br,0,none⟩)] 225)).alloc (.cells #[.int .i64 p,.iface vT vx] 252)).heap.size=w.heap.size+2:=by simp
 have B2:=((Blk.new w #[.pointer (some ⟨br,0,none⟩)] 225).alloc (.cells #[.int .i64 p,.iface vT vx] 252)).alloc (.cells #[.slice none 0 0] 169);have B3:=(Blk.new (w.alloc (.cells #[.pointer (some ⟨br,0,none⟩)] 225)) #[.int .i64 p,.iface vT vx] 252).alloc (.cells #[.slice none 0 0] 169);have B6:=Blk.new ((w.alloc (.cells #[.pointer (some ⟨br,0,none⟩)] 225)).alloc (.cells #[.int .i64 p,.iface vT vx] 252)) #[.slice none 0 0] 169;rw[z1] at B3;rw[z2] at B6;have hsz:=hf.size;exact⟨(M.new A).call h hf hi,(A.mono v_).trans hf u_,hbl,by omega,hf.blk B2 (by omega),hf.blk B3 (by omega),(hT.fr A u_).fr hf (λ g hg e=>M.brP (e▸hg)),by simp,_,hf.blk B6 (by omega),RowT.nil _ _ _ _ _⟩
theorem zss {q0:Nat}{w0 w:World}{P:Nat->Prop}{ss:BA}{ds:List PD}{sv rv:Value}{xs:List Value}{s:BA}{nt:TypeId}{nx:Value}{pl:Bool}{br i:Nat}{t:PT}{p:Int}(M:NC w0 P ss ds sv rv xs s nt nx pl br i w) (hT:TyV w P t (.iface vT vx)) (hI:yi_ w0) (hR:∀ j,i<j->j<=s.size->DatN w0 P ss ds sv rv xs s nt nx pl br f t j) :
 Calls prog 168 #[.pointer (some ⟨br,0,none⟩),.agg #[.int .i64 p,.iface vT vx]] w (yr_ (za_ ds) (.wrap 91 q0 t) w sv rv s nt nx pl br (vt_ (rdT s (za_ ds) pl f t) s 91 i)):=by
 refine hq_ λ POST Q_=>?_
 have hs4:s.size<=4000:=by have:=M.hs;omega
 have A:Fr w (((w.alloc (.cells #[.pointer (some ⟨br,0,none⟩)] 225)).alloc (.cells #[.int .i64 p,.iface vT vx] 252)).alloc (.cells #[.slice none 0 0] 169)) (λ _=>False):=(((Fr.refl w _).alloc _).alloc _).alloc _;have hgo:=j2_ s (za_ ds) pl f t
 have IT:zo9 sv rv s nt nx pl br 214 #[.pointer (some ⟨w.heap.size,0,none⟩),.pointer (some ⟨w.heap.size+1,0,none⟩),.pointer (some ⟨w.heap.size+2,0,none⟩)] (zem (rdT s (za_ ds) pl f t)) (λ l j W=>LI w0 w P ss ds sv rv xs s nt nx pl br i t p (.iface vT vx) l j W) (BadL w sv rv s nt nx pl br):=
  { F:=λ W=>by kernel_rfl
    R:=λ h=>⟨h.M.R,h.M.il,h.M.e⟩
    K:=λ h h1 h2 h3 h4=>h.call h1 h2 h3 (by have:=h.c;omega)
    B:=λ h=>⟨h.fr,.base,_,h.M.R,h.M.il⟩
    C:=λ {l j W} h=>(zp4 h hI (hR j (by have:=h.c;omega) h.M.il) (λ d j' e=>(hgo j d j' e).1)).mono (by
     rintro e W' ⟨v,he,hm⟩
     refine⟨v,he,?_⟩
     cases hq:zem (rdT s (za_ ds) pl f t) l j with
     | none=>rw[hq] at hm;exact hm
     | some q=>obtain⟨a,b⟩:=q;rw[hq] at hm;exact hm) }
 have hC:=q_ (zdr IT (w:=(((w.alloc (.cells #[.pointer (some ⟨br,0,none⟩)] 225)).alloc (.cells #[.int .i64 p,.iface vT vx] 252)).alloc (.cells #[.slice none 0 0] 169))) (σ:=([]:List DT)) (i:=i) (co:=91) (cf:=93) 91 93 (A.blk M.R id) M.il (λ W' h hf hi=>zwd M hT h hf hi) (λ W' h hf=>⟨⟨(A.mono v_).trans hf u_,.base,i,h,M.il⟩,((M.new A).call h hf M.il).e⟩) hs4 rfl rfl (by decide) (by decide));have hres:=q_ (zte (rdT s (za_ ds) pl f t) s i);clear IT A hgo hT hR hI M
 cases hp:zao (zem (rdT s (za_ ds) pl f t)) s 91 93 [] i with
 | none=>
  rw[hp] at hres;replace hp:=q_ hp
  go_in
  go_wp2_with (go_at_call 213;refine hC.o.mono ?_;rintro e w2 ⟨v2,rfl,hm⟩;rw[hp.o] at hm;obtain⟨⟨eT,ex,rfl⟩,hB⟩:=hm;replace hB:=q_ hB)
  try go_ret
  rw[Q_.o,hres.o];obtain⟨h1,h2,h3⟩:=hB.o;exact⟨.nilIface,_,rfl,h1,rfl,h2,h3⟩
 | some q=>
  obtain⟨n2,j2⟩:=q;rw[hp] at hres;replace hp:=q_ hp
  go_in
  go_wp2_with (go_at_call 213;refine hC.o.mono ?_;rintro e w2 ⟨v2,rfl,hm⟩;rw[hp.o] at hm;obtain⟨rfl,hL⟩:=hm;obtain⟨lv,r1,r2⟩:=hL.row;obtain⟨ys,r3⟩:=r2.row;obtain⟨la,lc,rfl⟩:=zf_ r3;have k0:=r1.c0;have hDv:=q_ ((show RowT (za_ ds) _ _ _ (.wrap 91 q0 t) _ _ from r2).dat (Q:=λ g=>w.heap.size<=g) (λ g _ hg=>(by omega)) (λ g hg=>(by have:=r3.lt g hg;omega)) (.inl ⟨rfl,rfl⟩));replace hL:=q_ hL;clear r1 r2 r3)
  try go_ret
  rw[Q_.o,hres.o];exact nok hDv.o hL.o.fr hL.o.M.R hL.o.M.il
open Go.RowKit
def za7 (R:PT->Nat->Option (DT×Nat)) (fs:List PF) (l:List DT) (j:Nat):Option (List DT×Nat):=
 match fs[l.length]? with|none=>none|some g=>(R g.ty j).map (λ q=>(l++[q.1],q.2))
def zb4 (len:Nat):Option (List DT×Nat)->Option (DT×Nat)
 | none=>none
 | some (l,j)=>if l.length<len then none else some (.mk 114 0 noB [] l,j)
def zhs (s:BA) (l:List DT):Option (List DT×Nat)->Option (DT×Nat)
 | none=>none
 | some (r,e)=>if bt s e=41 then some (.mk 114 0 noB [] (l++r),e+1) else none
theorem zk5 (R:PT->Nat->Option (DT×Nat)) (s:BA) (fs:List PF) (hgo:∀ t,Goes s (R t)):∀ N l j,l.length<fs.length->j<=s.size->s.size+1-j<=N->
 zb4 fs.length (jv_ (za7 R fs) s 41 N l j)=zhs s l (zv_ R s true ((fs.drop l.length).map PF.ty) j):=by
 intro N
 induction N with
 | zero=>intro l j _ hj hN;omega
 | succ N ih=>
  intro l j hk hj hN;rw[jv_,bh_ hk,ap_,zv_,if_pos rfl];simp only[za7,am_ hk]
  cases hR:R (fs[l.length]).ty j with
  | none=>rfl
  | some q=>
   obtain⟨d,j'⟩:=q;have hj':=hgo _ j d j' hR
   have hll:(l++[d]).length=l.length+1:=by simp
   simp only[a2_]
   by_cases h41:bt s j'=41
   ·rw[if_pos h41]
    by_cases hk1:l.length+1<fs.length
    ·rw[bh_ hk1,ap_,zv_];simp only[az_,if_false];rw[if_neg (by omega)];simp only[zb4,zhs];rw[if_pos (by omega)]
    ·rw[bu_ (by omega),a1_,zv_];simp only[zb4,zhs];rw[if_neg (by omega),if_pos h41]
   ·rw[if_neg h41]
    by_cases h44:bt s j'=44
    ·rw[if_pos h44];have hlt:=zl_ (s:=s) (i:=j') (by omega)
     by_cases hk1:l.length+1<fs.length
     ·have:=ih (l++[d]) (j'+1) (by omega) hlt (by omega);rw[this,hll];rw[bh_ hk1,ap_,zv_,zv_,if_pos rfl];simp only[az_,if_false];rw[if_pos h44]
      cases R (fs[l.length+1]).ty (j'+1) with
      | none=>rfl
      | some q=>
       obtain⟨d2,j2⟩:=q;simp only
       cases zv_ R s false ((fs.drop (l.length+1+1)).map PF.ty) j2 with
       | none=>rfl
       | some q=>
        simp only[zhs,List.append_assoc,bn_,bp_]
     ·rw[bu_ (by omega),a1_,zv_]
      have hn:jv_ (za7 R fs) s 41 N (l++[d]) (j'+1)=none:=by
       cases N with
       | zero=>rfl
       | succ N=>rw[jv_];simp only[za7];rw[bm_ (by omega)]
      rw[hn];simp only[zb4,zhs];rw[if_neg h41]
    ·rw[if_neg h44]
     by_cases hk1:l.length+1<fs.length
     ·rw[bh_ hk1,ap_,zv_];simp only[az_,if_false];rw[if_neg h44]
      rfl
     ·rw[bu_ (by omega),a1_,zv_];simp only[zb4,zhs];rw[if_neg h41]
def zry (env:Nat->Option PB):Prop:=∀ c l o,env c=some (.enum l o)->∀ q∈l,zn_ q.1=true
theorem zzm {s:BA}{pl:Bool}(hsm:zry env){i:Nat}(h:bt s i=41):∀ (f:Nat) (t:PT),okT env t->rdT s env pl f t i=none:=by
 intro f
 induction f with
 | zero=>intro t _;rfl
 | succ f ih=>
  intro t ht
  cases t with
  | leaf c p=>
   rw[rdT];unfold va_;split
   ·rw[if_neg (by omega)]
   ·split
    ·rw[if_neg (by omega),if_neg (by omega)]
    ·split
     ·have hno:vr_ s c i=none:=by
       unfold vr_;rw[if_neg];intro hq
       have hz:(z4_ s i).size=0:=by
        unfold z4_ z6_
        have hsg:sgn s i=i:=by unfold sgn;rw[if_neg (by omega)]
        rw[hsg,vf_ (by omega),as_];omega
       exact absurd hq.1 (by omega)
      rw[hno]
     ·split
      ·rw[if_neg (by omega)]
      ·cases he:env c with
       | none=>rfl
       | some pb=>
        simp only;unfold y6_
        cases pb with
        | recd fs=>simp only;rw[if_neg (by omega)]
        | enum l o=>
         simp only;split
         ·have:(l.map Prod.fst).findIdx? (λ c=>c==bt s i)=none:=by
           rw[List.findIdx?_eq_none_iff];intro x hx;obtain⟨q,hq,rfl⟩:=bk_.1 hx;have:=hsm c l o he q hq;obtain⟨k,hk,_⟩:=zb9 this;rw[h,beq_eq_false_iff_ne];omega
          rw[this]
         ·rfl
        | bytes n=>simp only;rw[if_neg (by omega)]
  | wrap c p t=>
   unfold okT at ht;rw[rdT];unfold vt_;rw[if_neg (by omega)]
  | alts p ts=>
   rw[rdT];unfold y9_
   cases pl with
   | false=>rw[if_neg (by decide),if_neg (λ h'=>by omega)]
   | true=>
   rw[if_pos rfl]
   cases ts with
   | nil=>rfl
   | cons t r=>
    simp only
    have ht':okT env t:=by
     unfold okT at ht;have h2:=ht.2;unfold okTs at h2;exact h2.2.1
    rw[ih t ht']
open Go.RowKit
structure RI (tt:PT) (w0 w:World) (P:Nat->Prop) (ss:BA) (ds:List PD) (sv rv:Value) (xs:List Value) (s:BA) (nt:TypeId) (nx:Value) (pl:Bool) (br i:Nat) (fs:List PF) (p:Int) (fv:Value) (zs:List Value) (l:List DT) (j:Nat) (W:World):Prop where
 sub:∀ k g,fs[k]?=some g->yb_ (za_ ds) tt 0 k=g.ty
 M:NC w0 P ss ds sv rv xs s nt nx pl br j W
 fr:Fr w W (· = br)
 lt:br<w.heap.size
 hB:w.heap.size+3<=W.heap.size
 b2:Blk W w.heap.size [.pointer (some ⟨br,0,none⟩)] 225
 b3:Blk W (w.heap.size+1) [.int .i64 p,fv] 263
 F:vj_ W P ss fs fv zs
 c:i+l.length<j
 nl:l.length<=fs.length
 row:∃ lv,Blk W (w.heap.size+2) [lv] 176/\RowT (za_ ds) W (w.heap.size+3) (λ g=>w.heap.size+3<=g/\lv.ownBlock≠some g) tt lv l
section
variable {tt:PT} {w0 w:World} {P:Nat->Prop} {ss:BA} {ds:List PD} {sv rv:Value} {xs:List Value} {s:BA} {nt:TypeId} {nx:Value} {pl:Bool} {br i:Nat} {fs:List PF} {p:Int} {fv:Value} {zs:List Value} {l:List DT} {j j':Nat} {W W':World}
theorem RI.call (L:RI tt w0 w P ss ds sv rv xs s nt nx pl br i fs p fv zs l j W) (h:RdAt W' br sv rv s j' (!pl)) (hf:Fr W W' (· = br)) (hj:j'<=s.size) (hc:i+l.length<j'):RI tt w0 w P ss ds sv rv xs s nt nx pl br i fs p fv zs l j' W':=by
 have h1:=L.lt;obtain⟨lv,r1,r2⟩:=L.row;obtain⟨ys,r3⟩:=r2.row;exact⟨L.sub,L.M.call h hf hj,L.fr.trans hf u_,L.lt,ah_ L.hB hf.size,hf.blk L.b2 (by omega),hf.blk L.b3 (by omega),L.F.fr hf (λ g hg e=>L.M.brP (e▸hg)),hc,L.nl,lv,hf.blk r1 (by omega),r2.fr hf (λ g hg e=>by omega) (λ g hg e=>by have:=r3.lt g hg;omega)⟩
theorem RI.new (L:RI tt w0 w P ss ds sv rv xs s nt nx pl br i fs p fv zs l j W) (hf:Fr W W' (λ _=>False)):RI tt w0 w P ss ds sv rv xs s nt nx pl br i fs p fv zs l j W':=L.call (hf.blk L.M.R id) (hf.mono v_) L.M.il L.c
end
theorem zro:Tryz.prog.underlying 176=some (.slice 94):=by kernel_rfl
theorem zso {tt:PT}{w0 w:World}{P:Nat->Prop}{ss:BA}{ds:List PD}{sv rv:Value}{xs:List Value}{s:BA}{nt:TypeId}{nx:Value}{pl:Bool}{br i:Nat}{fs:List PF}{p:Int}{fa:Option Addr}{fc:Nat}{zs:List Value}{ld:List DT}{j:Nat}{W:World}(L:RI tt w0 w P ss ds sv rv xs s nt nx pl br i fs p (.slice fa fs.length fc) zs ld j W) (hsm:∀ g∈fs,zn_ g.letter=true) (hlen:fs.length<=300) (hR:∀ g∈fs,DatN w0 P ss ds sv rv xs s nt nx pl br f g.ty j) (hgo:∀ t d j',rdT s (za_ ds) pl f t j=some (d,j')->j<j') :
 Calls prog 219 #[.pointer (some ⟨w.heap.size+2,0,none⟩),.pointer (some ⟨w.heap.size+1,0,none⟩),.pointer (some ⟨w.heap.size,0,none⟩)] W λ e W'=>∃ v,e=.returned v/\match za7 (rdT s (za_ ds) pl f) fs ld j with|some (l',j')=>v=.nilIface/\j<j'/\RI tt w0 w P ss ds sv rv xs s nt nx pl br i fs p (.slice fa fs.length fc) zs l' j' W'|none=>(∃ T x,v=.iface T x)/\BadL w sv rv s nt nx pl br v W':=by
 refine hq_ λ POST Q_=>?_;have c20:=L.b2.c0;have c31:=L.b3.c1;have hjs:=L.M.il;have hs3:=L.M.hs;have hcn:=L.c;have hlt:=L.lt;have hnl:=L.nl;have hBW:=L.hB
 have l2:w.heap.size<W.heap.size:=by omega
 obtain⟨lv,r1,Y,r2,rY⟩:=L.row;obtain⟨la,lc,rfl⟩:=zf_ r2;obtain⟨n,hnn⟩:∃ n,ld.length=n:=⟨_,rfl⟩;rw[hnn] at r1 r2 rY hnl hcn;have k0:=r1.c0
 by_cases hn:n=fs.length
 ·have hst:=q_ (show za7 (rdT s (za_ ds) pl f) fs ld j=none by unfold za7;rw[bm_ (by omega)]);have e0:=L.M.e;replace L:=q_ L;subst hn;clear r1 r2 rY hR hgo hnn
  go_in
  go_wp2_with fail
  try go_ret
  rw[Q_.o];refine⟨_,rfl,?_⟩;rw[hst.o];exact⟨⟨_,_,rfl⟩,L.o.fr,.base,j,L.o.M.R,L.o.M.il⟩
 ·have hlt':n<fs.length:=by omega
  have hneq:((n:Int)==(fs.length:Int))=false:=by simp;omega
  have hd:fs[n]?=some fs[n]:=am_ hlt';have hmem:fs[n]∈fs:=bd_ hlt';generalize fs[n]=g0 at hd hmem
  have hni:(n:Int)<(fs.length:Int):=by omega
  obtain⟨g,cap,hgc⟩:=zk_ L.F.row (by omega);cases hgc;obtain⟨T,x,d0,c0,c1,c2,c3,hT,hDf⟩:=L.F.cells hd;obtain⟨l,hl0⟩:∃ l,g0.letter=l:=⟨_,rfl⟩;obtain⟨plq,hplq⟩:∃ q,g0.place=q:=⟨_,rfl⟩
  have hls:zn_ l=true:=by rw[<- hl0];exact hsm _ hmem
  have hsb:=q_ (show yb_ (za_ ds) tt 0 ld.length=g0.ty by rw[hnn];exact L.sub n g0 hd);rw[hl0] at c1;rw[hplq] at c0;have A1:=(Fr.refl W (λ _=>False)).alloc (.cells #[.int .i64 (plq:Int),.int .u8 (l:Int),.iface T x,.pointer d0] 220);have N1:=Blk.new W #[.int .i64 (plq:Int),.int .u8 (l:Int),.iface T x,.pointer d0] 220;have L1:=L.new A1;have hC:=q_ (hR _ hmem _ _ L1.M (hT.fr A1 u_));have hz1:=q_ (by simp:(W.alloc (.cells #[.int .i64 (plq:Int),.int .u8 (l:Int),.iface T x,.pointer d0] 220)).heap.size=W.heap.size+1);replace L1:=q_ L1;replace N1:=q_ N1;replace r2:=q_ r2;replace rY:=q_ rY;replace L:=q_ L;replace hnn:=q_ hnn;replace r1:=q_ r1;have hA1:=q_ A1;clear hl0 hplq hT hDf hR A1
  cases hp:rdT s (za_ ds) pl f g0.ty j with
  | none=>
   have hst:=q_ (show za7 (rdT s (za_ ds) pl f) fs ld j=none by unfold za7;rw[hnn.o,hd];simp only;rw[hp];rfl);replace hp:=q_ hp
   go_in
   go_wp2_with (first
    |(go_at_call 110;refine hC.o.mono ?_;rintro e w1 ⟨v1,ev1,rfl,hf1,hm⟩;rw[hp.o] at hm;obtain⟨rfl,hErr,j1,h1,hj1⟩:=hm;obtain⟨eT,ex,rfl⟩:=hErr.iface;have n1:=(hf1.blk N1.o (by omega)).c1;replace hf1:=q_ hf1;replace hErr:=q_ hErr;replace h1:=q_ h1)
    |(go_at_call 190;refine(zch hls).mono ?_;intro e w2 hW;obtain⟨g2,tx2,rfl,hg2,hb2,hf2⟩:=hW;replace hf2:=q_ hf2;replace hb2:=q_ hb2))
   try go_ret
   rw[Q_.o];refine⟨_,rfl,?_⟩;rw[hst.o];have hF1:=L1.o.fr.trans hf1.o u_;have hs1:=hF1.size;have hsW:=L1.o.fr.size;exact⟨⟨_,_,rfl⟩,hF1.trans hf2.o v_,.within g2 (by omega) tx2 hb2.o ((hErr.o.less hsW).fr hf2.o u_),j1,hf2.o.blk h1.o id,hj1⟩
  | some q=>
   obtain⟨d,j2⟩:=q;have hj2:=hgo _ d j2 hp;have hst:=q_ (show za7 (rdT s (za_ ds) pl f) fs ld j=some (ld++[d],j2) by unfold za7;rw[hnn.o,hd];simp only;rw[hp];rfl);replace hp:=q_ hp;obtain⟨ti,hi1,hi2,hi3,hi4⟩:=info_parts zbu;clear hgo
   go_in
   go_wp2_with (first
    |(go_at_call 110;refine hC.o.mono ?_;rintro e w1 ⟨v1,ev1,rfl,hf1,hm⟩;rw[hp.o] at hm;obtain⟨rfl,hDv,h1,hj1⟩:=hm;obtain⟨dT,dx,rfl⟩:=hDv.iface;have L2:=L1.o.call h1 hf1 hj1 (by rw[hnn.o];omega);clear k0 c20 c31;have r4:=(hf1.blk (hA1.o.blk r1.o id) (by omega));have r3:=zb_ (zb_ r2.o hA1.o u_) hf1 (λ g hg e=>(by have:=r2.o.lt g hg;omega));have rY1:=q_ (λ i d (e:ld[i]?=some d)=>((rY.o i d e).fr hA1.o u_).fr hf1 (λ g hg e=>(by omega)));replace hDv:=q_ hDv;have k0:=r4.c0;have kg:=r4.thaw 0;have hB1:=L2.hB;replace L2:=q_ L2;replace r4:=q_ r4;replace r3:=q_ r3;clear hf1 h1)
    |(at_builtin;go_must (refine wpList_append_own_at _ rfl _ _ 176 rfl (w.heap.size+3) 94 ti _ 1 16 zro hi1 hi2 hi3 hi4 rfl (by decide) (.slice la n lc) n ((List.range n).flatMap λ i=>[Y i]) rfl ?hown _ 1 1 [.iface dT dx] rfl rfl (yh_ _ #[.iface dT dx] _ _ ?nn) ?one ?b1 ?b2 ?b3 ?_)
      case hown=>exact World.ownsRow.alloc r3.o _
      case nn=>simp
      case one=>simp[Value.oneCell']
      case b1=>unfold maxLen;omega
      case b2=>omega
      case b3=>simp;omega
      intro v5 w5 ho5 hg5 hn5 hl5
      have hF5:Fr w1 w5 (λ g=>(Value.slice la n lc).ownBlock=some g):=Fr.grown ((Fr.refl w1 _).alloc _) hg5 (λ k e _=>e)
      have R5:=hF5.blk r4.o (λ e=>by have:=r3.o.lt _ e;omega)
      have e5:=R5.c0
      have f5:=R5.thaw 0
      have hn5':∀ g,v5.ownBlock=some g->w.heap.size+3<=g:=(λ g hg=>(ho5.lt g hg).1)
      obtain⟨g5,cap5,rfl⟩:=zk_ ho5 (by omega)
      replace hF5:=q_ hF5
      replace ho5:=q_ ho5
      replace R5:=q_ R5
      replace hn5':=q_ hn5'
      have hl6:H_ ((Value.slice (some ⟨g5,0,none⟩) (n+1) cap5).ownBlock=(Value.slice la n lc).ownBlock\/∃ h,(Value.slice (some ⟨g5,0,none⟩) (n+1) cap5).ownBlock=some h/\w1.heap.size<=h):=q_ (hl5.imp id (λ e=>⟨_,e,by simp⟩))
      clear hg5 hl5 hn5))
   try go_ret
   rw[Q_.o];refine⟨_,rfl,?_⟩;rw[hst.o];refine⟨rfl,hj2,?_⟩;have hG:Fr w5 (w5.setCell ⟨w.heap.size+2,0,none⟩ (.slice (some ⟨g5,0,none⟩) (n+1) cap5)) (λ g=>g=w.heap.size+2):=(Fr.refl w5 (λ g=>g=w.heap.size+2)).setCell ⟨w.heap.size+2,0,none⟩ _ (λ _=>rfl);have hH:Fr w1 (w5.setCell ⟨w.heap.size+2,0,none⟩ (.slice (some ⟨g5,0,none⟩) (n+1) cap5)) (λ g=>w.heap.size+2<=g):=(hF5.o.mono (λ g _ e=>by have:=r3.o.lt g e;omega)).trans hG (λ g _ e=>by omega);have hM1:=L2.o.M;have hbG:=hM1.brG;have hl1:=L2.o.lt
   have hPl:∀ g,P g->¬ (w.heap.size+2<=g):=λ g hg=>by have:=hM1.Pbr g hg;omega
   exact⟨L2.o.sub,⟨hH.blk hM1.R (by omega),hM1.D.fr hH hPl,hM1.G.fr hH (by have:=hM1.lt;omega) (λ g e=>by omega),hM1.E,hM1.Pbr,hM1.brG,hM1.hs,hM1.il⟩,L2.o.fr.trans hH (λ g hg e=>by omega),L2.o.lt,ah_ L2.o.hB hH.size,hH.blk L2.o.b2 (by omega),hH.blk L2.o.b3 (by omega),L2.o.F.fr hH hPl,by rw[al_,hnn.o,ai_];omega,by rw[al_,hnn.o,ai_];omega,_,R5.o.set 0 _,RowT.grow (t:=tt) (c:=w.heap.size+2) rY1.o (by rw[hsb.o];exact(hDv.o.mono (λ g _ hg=>⟨by have:=L.o.hB;rw[hz1.o] at hg;omega,λ e=>by have:=r2.o.lt g e;rw[hz1.o] at hg;omega⟩))) ((hF5.o.mono (λ _ _ e=>.inl e)).trans hG (λ _ _ e=>.inr e)) (by omega) hl6.o (by rw[hnn.o];exact zb_ ho5.o hG (λ g hg e=>by have:=hn5'.o g hg;omega))⟩
end Go.Proofs.YthmjjpkjgjklmaaGreatDoor
