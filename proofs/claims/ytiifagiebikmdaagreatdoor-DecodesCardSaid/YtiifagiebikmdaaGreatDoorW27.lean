import Derived.Test.YtiifagiebikmdaaGreatDoorW25
import Derived.Test.YtiifagiebikmdaaGreatDoorShelf
import Derived.Test.YtiifagiebikmdaaGreatDoorA00
set_option maxHeartbeats 16000000
set_option maxRecDepth 100000
set_option linter.unusedSimpArgs false
open Go.Proofs.Tryz
namespace Go.Proofs.YtiifagiebikmdaaGreatDoor
open Go.RowKit
variable {cT vT:TypeId}{cx vx:Value}{lo n f:Nat}{w':World}
def xd_ (w0 w:World):Prop:=∀ g,g<w0.heap.size->w.heap[g]?=w0.heap[g]?
theorem xd_.refl (w:World):xd_ w w:=λ _ _=>rfl
theorem xd_.fr {w0 w:World}{S:Nat->Prop}(h:xd_ w0 w) (b:Fr w w' S) (hk:w0.heap.size<=w.heap.size) (a:∀ g,S g->w0.heap.size<=g):xd_ w0 w':=λ g hg=>
 (b.block g (by omega) (λ e=>by have:=a g e;omega)).trans (h g hg)
theorem xd_.err {g:Nat}{w0 w:World}{b:TypeId}{c:Value}(h:xd_ w0 w) (he:ErrV g w0 b c):ErrV g w b c:=
 (World.cell?_of_block (a:=⟨g,0,none⟩) (h g (World.block_lt_of_cell? w0 ⟨g,0,none⟩ he))).trans he
theorem xd_.var {w0 w:World}(h:xd_ w0 w){n:String}{cs:Array Value}(a:w0.var? prog n=some cs):w.var? prog n=some cs:=by
 unfold World.var? at a⊢
 cases hg:Tryz.prog.globalNamed n with
 | none=>rw[hg] at a;simp at a
 | some g=>
  rw[hg] at a;simp only[Option.bind_some] at a⊢
  by_cases hl:g<w0.heap.size
  ·rw[h g hl];exact a
  ·rw[Array.getElem?_eq_none (by omega)] at a;simp at a
theorem Fr.grow (w:World) (k:Nat) (os:Array Obj):Fr w (Sort.grow (w.drewN k) os) (λ _=>False):=by
 refine⟨rfl,rfl,rfl,?_,λ g hg _=>?_⟩
 ·show w.heap.size<=(w.heap++os).size
  simp
 ·show(w.heap++os)[g]?=w.heap[g]?;rw[Array.getElem?_append_left hg]
def xr_ (w0:World):Prop:=∀ (W:World),xd_ w0 W->∀ n:Nat,n<=4000->Calls prog 165 #[.int .i64 (n:Int)] W λ e w'=>∃ tx,e=.returned (.string tx)/\tx.size<=100000/\Fr W w' (λ _=>False)
def xs_ (w0:World):Prop:=∀ (W:World),xd_ w0 W->∀ k:BA,k.size<=4000->Calls prog 166 #[.string k] W λ e w'=>∃ tx,e=.returned (.string tx)/\tx.size<=100000/\Fr W w' (λ _=>False)
theorem zo3:∀ (k n:Nat),n<10 ^ (k+1)->Lib.nDigits n<=k+1:=by
 intro k
 induction k with
 | zero=>intro n h;rw[Lib.nDigits,dif_pos (by simpa using h)];omega
 | succ k ih=>
  intro n h;rw[Lib.nDigits];split
  ·omega
  ·have:=ih (n / 10) (by rw[Nat.div_lt_iff_lt_mul (by decide)];rw[Nat.pow_succ] at h;exact h);omega
theorem zwy {w0:World}(h:Lib.TabIs prog w0 "internal/strconv.uint64pow10" .u64 Lib.pow10Tab):xr_ w0:=by
 intro W a n hn
 have h1:Lib.TabIs prog W "internal/strconv.uint64pow10" .u64 Lib.pow10Tab:=a.var h
 refine(Tryz.strconv_Itoa (n:Int) (by omega) (by omega) W h1).mono ?_;rintro e w' ⟨rfl,k,os,rfl⟩;refine⟨_,rfl,?_,Fr.grow W k os⟩;show(Lib.itoa (n:Int)).toArray.size<=100000;rw[List.size_toArray];unfold Lib.itoa;rw[if_neg (by omega),Lib.decDigits_length];have:=zo3 3 (Int.toNat (n:Int)) (by simp;omega);omega
def x5_ (w:World) (cv:Value) (e:Ending) (w':World):Prop:=
 ∃ g tx,e=.returned (.iface 269 (.pointer (some ⟨g,0,none⟩)))/\w.heap.size<=g/\Blk w' g [.string tx,cv] 271/\Fr w w' (λ _=>False)
theorem zg7 {w0 w:World}(c:xr_ w0) (g:xd_ w0 w) (hn:n<=4000) :
 Calls prog 145 #[.int .i64 (n:Int),.iface cT cx] w (x5_ w (.iface cT cx)):=by
 refine hq_ λ k d=>?_;have b:=q_ (c w g n hn)
 go_in
 go_wp2_with (first|(go_at_call 165;refine b.o.mono ?_;rintro e w1 ⟨tx,rfl,h,a⟩;replace a:=q_ a)|(go_at_call 166;refine b.o.mono ?_;rintro e w1 ⟨tx,rfl,h,a⟩;replace a:=q_ a))
 try go_ret
 rw[d.o];exact⟨w1.heap.size,_,rfl,a.o.size,Blk.new w1 _ _,a.o.alloc _⟩
theorem zed {w0 w:World}(c:xr_ w0) (g:xd_ w0 w) (hn:n<=4000) :
 Calls prog 158 #[.int .i64 (n:Int),.iface cT cx] w (x5_ w (.iface cT cx)):=by
 refine hq_ λ k d=>?_;have b:=q_ (c w g n hn)
 go_in
 go_wp2_with (first|(go_at_call 165;refine b.o.mono ?_;rintro e w1 ⟨tx,rfl,h,a⟩;replace a:=q_ a)|(go_at_call 166;refine b.o.mono ?_;rintro e w1 ⟨tx,rfl,h,a⟩;replace a:=q_ a))
 try go_ret
 rw[d.o];exact⟨w1.heap.size,_,rfl,a.o.size,Blk.new w1 _ _,a.o.alloc _⟩
theorem zc2 {w0 w:World}{k:BA}(c:xs_ w0) (g:xd_ w0 w) (hn:k.size<=4000) :
 Calls prog 149 #[.string k,.iface cT cx] w (x5_ w (.iface cT cx)):=by
 refine hq_ λ m d=>?_;have b:=q_ (c w g k hn)
 go_in
 go_wp2_with (first|(go_at_call 165;refine b.o.mono ?_;rintro e w1 ⟨tx,rfl,h,a⟩;replace a:=q_ a)|(go_at_call 166;refine b.o.mono ?_;rintro e w1 ⟨tx,rfl,h,a⟩;replace a:=q_ a))
 try go_ret
 rw[d.o];exact⟨w1.heap.size,_,rfl,a.o.size,Blk.new w1 _ _,a.o.alloc _⟩
theorem zfy {w:World}{l:Nat}(hl:zi_ l=true) :
 Calls prog 152 #[.int .u8 (l:Int),.iface cT cx] w (x5_ w (.iface cT cx)):=by
 refine hq_ λ c a=>?_;obtain⟨k,hk,b⟩:=zb5 hl
 have hc:l=97\/l=98\/l=99\/l=100\/l=101\/l=102\/l=103\/l=104\/l=105\/l=106\/l=107\/l=108\/l=109\/l=110\/l=111\/l=112\/l=113\/l=114\/l=115\/l=116\/l=117\/l=118\/l=119\/l=120\/l=121\/l=122:=by omega
 clear hl hk b
 rcases hc with rfl|rfl|rfl|rfl|rfl|rfl|rfl|rfl|rfl|rfl|rfl|rfl|rfl|rfl|rfl|rfl|rfl|rfl|rfl|rfl|rfl|rfl|rfl|rfl|rfl|rfl
 all_goals
  go_in
  go_wp2_with fail
  try go_ret
  rw[a.o];exact⟨w.heap.size,_,rfl,l_,Blk.new w _ _,(Fr.refl w _).alloc _⟩
inductive ErrD (w:World) (lo:Nat) (nt:TypeId) (nx:Value):Value->Prop
 | base:ErrD w lo nt nx (.iface nt nx)
 | within (g:Nat) (hg:lo<=g) (tx:BA) {v:Value} (hb:Blk w g [.string tx,v] 271) (h:ErrD w lo nt nx v):ErrD w lo nt nx (.iface 269 (.pointer (some ⟨g,0,none⟩)))
theorem ErrD.fr {w:World}{nt:TypeId}{nx v:Value}{S:Nat->Prop}(h:ErrD w lo nt nx v) (b:Fr w w' S) (a:∀ g,lo<=g->¬ S g):ErrD w' lo nt nx v:=by
 induction h with
 | base=>exact .base
 | within g hg tx hb h ih=>exact .within g hg tx (b.blk hb (a g hg)) ih
theorem ErrD.less {w:World}{a:Nat}{nt:TypeId}{nx v:Value}(h:ErrD w lo nt nx v) (hl:a<=lo):ErrD w a nt nx v:=by
 induction h with
 | base=>exact .base
 | within g hg tx hb h ih=>exact .within g (ai_ hl hg) tx hb ih
theorem ErrD.iface {w:World}{nt:TypeId}{nx v:Value}(h:ErrD w lo nt nx v):∃ T x,v=.iface T x:=by
 cases h<;>exact⟨_,_,rfl⟩
theorem ErrD.wrap {w:World}{nt:TypeId}{nx a v:Value}(h:ErrD w lo nt nx a){e:Ending}(d:x5_ w a e w') (hl:lo<=w.heap.size) (he:e=.returned v):ErrD w' lo nt nx v:=by
 obtain⟨g,tx,rfl,h1,b,c⟩:=d;cases he;exact .within g (ai_ hl h1) tx b (h.fr c u_)
structure NC (w0:World) (P:Nat->Prop) (ss:BA) (ds:List PD) (sv rv:Value) (xs:List Value) (s:BA) (nt:TypeId) (nx:Value) (pl:Bool) (br i:Nat) (W:World):Prop where
 R:RdAt W br sv rv s i (!pl)
 D:DRow W P ss ds sv xs
 G:xd_ w0 W
 E:ErrV 3 w0 nt nx
 Pbr:∀ g,P g->g<br
 brG:w0.heap.size<=br
 hs:s.size<=4000
 il:i<=s.size
section
variable {w0 W W':World} {P:Nat->Prop} {ss:BA} {ds:List PD} {sv rv:Value} {xs:List Value} {s:BA} {nt:TypeId} {nx:Value} {pl:Bool} {br i i':Nat}
theorem NC.brP (M:NC w0 P ss ds sv rv xs s nt nx pl br i W):¬ P br:=λ h=>Nat.lt_irrefl _ (M.Pbr br h)
theorem NC.lt (M:NC w0 P ss ds sv rv xs s nt nx pl br i W):br<W.heap.size:=Blk.lt M.R
theorem NC.call (M:NC w0 P ss ds sv rv xs s nt nx pl br i W) (h:RdAt W' br sv rv s i' (!pl)) (a:Fr W W' (· = br)) (b:i'<=s.size):NC w0 P ss ds sv rv xs s nt nx pl br i' W':=by
 have h1:=M.lt;have c:=M.brG;exact⟨h,M.D.fr a (λ g hg e=>M.brP (e▸hg)),M.G.fr a (by omega) (λ g e=>e▸M.brG),M.E,M.Pbr,M.brG,M.hs,b⟩
theorem NC.new (M:NC w0 P ss ds sv rv xs s nt nx pl br i W) (a:Fr W W' (λ _=>False)):NC w0 P ss ds sv rv xs s nt nx pl br i W':=M.call (a.blk M.R id) (a.mono v_) M.il
theorem NC.still (M:NC w0 P ss ds sv rv xs s nt nx pl br i W) (a:zd_ W W'):NC w0 P ss ds sv rv xs s nt nx pl br i W':=M.new ((Fr.refl W _).still a)
theorem NC.e (M:NC w0 P ss ds sv rv xs s nt nx pl br i W):W.cell? ⟨3,0,none⟩=some (.iface nt nx):=M.G.err M.E
end
def yy_ (w:World) (sv rv:Value) (s:BA) (nt:TypeId) (nx:Value) (pl:Bool) (br:Nat) (res:Option (DT×Nat)) (e:Ending) (w':World):Prop:=
 ∃ v ev,e=.returned (.tuple #[v,ev])/\Fr w w' (· = br)/\
 match res with
 | some (d,j)=>ev=.nilIface/\DatV w' (λ g=>w.heap.size<=g) d v/\RdAt w' br sv rv s j (!pl)/\j<=s.size
 | none=>v=.nilIface/\ErrD w' w.heap.size nt nx ev/\∃ j,RdAt w' br sv rv s j (!pl)/\j<=s.size
open Go.RowKit
section
variable {w0 w:World} {P:Nat->Prop} {ss:BA} {ds:List PD} {sv rv:Value} {xs:List Value} {s:BA} {nt:TypeId} {nx:Value} {pl:Bool} {br i:Nat}
theorem nerr {W:World}{j:Nat}(a:Fr w W (· = br)) (h:RdAt W br sv rv s j (!pl)) (b:j<=s.size):yy_ w sv rv s nt nx pl br none (.returned (.tuple #[.nilIface,.iface nt nx])) W:=⟨.nilIface,_,rfl,a,rfl,.base,j,h,b⟩
theorem nok {W:World}{j:Nat}{d:DT}{v:Value}(a:DatV W (λ g=>w.heap.size<=g) d v) (b:Fr w W (· = br)) (h:RdAt W br sv rv s j (!pl)) (c:j<=s.size):yy_ w sv rv s nt nx pl br (some (d,j)) (.returned (.tuple #[v,.nilIface])) W:=⟨v,_,rfl,b,rfl,a,h,c⟩
end
theorem zfw {s:BA}{i:Nat}(h:i<=s.size):i<=zw_ s i/\zw_ s i<=s.size:=⟨(vh_ 97 122 s _ i l_).1,(vh_ 97 122 s _ i l_).2 h⟩
def tEnd (s:BA) (i:Nat):Option (DT×Nat):=if bt s i=84 then some (.mk 116 1 noB [] [],i+1) else if bt s i=70 then some (.mk 116 0 noB [] [],i+1) else none
theorem zox {w0 w:World}{P:Nat->Prop}{ss:BA}{ds:List PD}{sv rv:Value}{xs:List Value}{s:BA}{nt:TypeId}{nx:Value}{pl:Bool}{br i:Nat}(M:NC w0 P ss ds sv rv xs s nt nx pl br i w) :
 Calls prog 115 #[.pointer (some ⟨br,0,none⟩)] w (yy_ w sv rv s nt nx pl br (tEnd s i)):=by
 refine hq_ λ C z=>?_
 have r:s.size<=4000:=by have:=M.hs;omega
 have F:=q_ (Fr.refl w (λ g=>g=br));have c:=M.il;replace M:=q_ M
 by_cases h:bt s i=84
 ·have m:i+1<=s.size:=zj_ (s:=s) (i:=i) (by omega);have q:=q_ (show tEnd s i=some (.mk 116 1 noB [] [],i+1) by unfold tEnd;rw[if_pos h]);have hb:=q_ h
  go_in
  go_wp2_with (go_at_call 114;refine(y8_ 84 M.o.R r c (by decide) (by decide) hb.o).mono ?_;rintro e A ⟨rfl,a,b⟩;have d:=q_ (M.o.call b a m);have k:=q_ (F.o.trans a u_);clear a b)
  try go_ret
  rw[z.o,q.o];exact nok (.flat (.truth true)) k.o d.o.R m
 ·by_cases x:bt s i=70
  ·have m:i+1<=s.size:=zj_ (s:=s) (i:=i) (by omega);have q:=q_ (show tEnd s i=some (.mk 116 0 noB [] [],i+1) by unfold tEnd;rw[if_neg h,if_pos x]);have hn:=q_ h;have hb:=q_ x
   go_in
   go_wp2_with (first
    |(go_at_call 114;refine(xt_ 84 M.o.R r c (by decide) (by decide) hn.o).mono ?_;rintro e A ⟨rfl,a,b⟩;have d:=q_ (M.o.call b a c);have k:=q_ (F.o.trans a u_);clear a b)
    |(go_at_call 114;refine(y8_ 70 d.o.R r c (by decide) (by decide) hb.o).mono ?_;rintro e B ⟨rfl,a,b⟩;have u:=q_ (d.o.call b a m);have y:=q_ (k.o.trans a u_);clear a b))
   try go_ret
   rw[z.o,q.o];exact nok (.flat (.truth false)) y.o u.o.R m
  ·have q:=q_ (show tEnd s i=none by unfold tEnd;rw[if_neg h,if_neg x]);have hn:=q_ h;have hb:=q_ x
   go_in
   go_wp2_with (first
    |(go_at_call 114;refine(xt_ 84 M.o.R r c (by decide) (by decide) hn.o).mono ?_;rintro e A ⟨rfl,a,b⟩;have d:=q_ (M.o.call b a c);have k:=q_ (F.o.trans a u_);clear a b)
    |(go_at_call 114;refine(xt_ 70 d.o.R r c (by decide) (by decide) hb.o).mono ?_;rintro e B ⟨rfl,a,b⟩;have u:=q_ (d.o.call b a c);have y:=q_ (k.o.trans a u_);clear a b))
   have D:=u.o.e
   go_quiet (fail)
   go_wp2_with fail
   try go_ret
   rw[z.o,q.o];exact nerr (y.o.still (zd_.drewN _ _)) (u.o.R.still (zd_.drewN _ _)) c
open Go.RowKit
def zmy (w:World) (sv rv:Value) (s:BA) (pl:Bool) (br i d:Nat) (e:Ending) (w':World):Prop:=
 ∃ tx b,e=.returned (.tuple #[.string tx,.bool b])/\Fr w w' (· = br)/\
  ((bt s i=d/\bt s (zw_ s (i+1))=d/\b=true/\tx=s.extract (i+1) (zw_ s (i+1))/\RdAt w' br sv rv s (zw_ s (i+1)+1) (!pl)/\zw_ s (i+1)+1<=s.size)\/
   (¬ (bt s i=d/\bt s (zw_ s (i+1))=d)/\b=false/\∃ j,RdAt w' br sv rv s j (!pl)/\j<=s.size))
theorem zeb {w0 w:World}{P:Nat->Prop}{ss:BA}{ds:List PD}{sv rv:Value}{xs:List Value}{s:BA}{nt:TypeId}{nx:Value}{pl:Bool}{br i:Nat}{c:Int}(d:Nat) (M:NC w0 P ss ds sv rv xs s nt nx pl br i w) (hd:c=(d:Int)) (z:0<d) :
 Calls prog 142 #[.pointer (some ⟨br,0,none⟩),.int .u8 c] w (zmy w sv rv s pl br i d):=by
 subst hd;refine hq_ λ S H=>?_
 have u:s.size<=4000:=by have:=M.hs;omega
 have C:=M.il;have F:=q_ (Fr.refl w (λ g=>g=br));replace M:=q_ M
 by_cases hb:bt s i=d
 ·have I:i+1<=s.size:=zj_ (s:=s) (i:=i) (by omega);have D:=zfw I;obtain⟨m,k⟩:∃ m,zw_ s (i+1)=m:=⟨_,rfl⟩;rw[k] at D
  by_cases J:bt s m=d
  ·have N:m+1<=s.size:=zj_ (s:=s) (i:=m) (by omega);have y:=q_ J;replace hb:=q_ hb;replace k:=q_ k
   go_in
   go_wp2_with (first
    |(go_at_call 114;refine(y8_ d M.o.R u C rfl z hb.o).mono ?_;rintro e L ⟨rfl,q,a⟩;have x:=q_ (F.o.trans q u_);clear F M;replace a:=q_ a;clear q)
    |(go_at_call 147;refine(zbd a.o u I).mono ?_;rintro e O ⟨rfl,A,b⟩;rw[show z0_ 97 122 s (i+1)=m from k.o] at b⊢;have E:=q_ (x.o.trans A u_);replace b:=q_ b;clear A)
    |(go_at_call 114;refine(y8_ d b.o u D.2 rfl z y.o).mono ?_;rintro e Q ⟨rfl,B,r⟩;have G:=q_ (E.o.trans B u_);replace r:=q_ r;clear B))
   try go_ret
   rw[H.o];refine⟨_,true,rfl,G.o,.inl ?_⟩;rw[k.o];exact⟨hb.o,y.o,rfl,rfl,r.o,N⟩
  ·have y:=q_ J;replace hb:=q_ hb;replace k:=q_ k
   go_in
   go_wp2_with (first
    |(go_at_call 114;refine(y8_ d M.o.R u C rfl z hb.o).mono ?_;rintro e L ⟨rfl,q,a⟩;have x:=q_ (F.o.trans q u_);clear F M;replace a:=q_ a;clear q)
    |(go_at_call 147;refine(zbd a.o u I).mono ?_;rintro e O ⟨rfl,A,b⟩;rw[show z0_ 97 122 s (i+1)=m from k.o] at b⊢;have E:=q_ (x.o.trans A u_);replace b:=q_ b;clear A)
    |(go_at_call 114;refine(xt_ d b.o u D.2 rfl z y.o).mono ?_;rintro e Q ⟨rfl,B,r⟩;have G:=q_ (E.o.trans B u_);replace r:=q_ r;clear B))
   try go_ret
   rw[H.o];refine⟨_,false,rfl,G.o,.inr ⟨λ h=>?_,rfl,m,r.o,D.2⟩⟩;rw[k.o] at h;exact y.o h.2
 ·have K:=q_ hb;clear hb
  go_in
  go_wp2_with (go_at_call 114;refine(xt_ d M.o.R u C rfl z K.o).mono ?_;rintro e L ⟨rfl,q,a⟩;have x:=q_ (F.o.trans q u_);replace a:=q_ a;clear q)
  try go_ret
  rw[H.o];exact⟨_,false,rfl,x.o,.inr ⟨λ h=>K.o h.1,rfl,i,a.o,C⟩⟩
open Go.RowKit
def sEnd (s:BA) (i:Nat):Option (DT×Nat):=if bt s i=34/\bt s (zw_ s (i+1))=34 then some (.mk 115 0 (s.extract (i+1) (zw_ s (i+1))) [] [],zw_ s (i+1)+1) else none
theorem zma {w0 w:World}{P:Nat->Prop}{ss:BA}{ds:List PD}{sv rv:Value}{xs:List Value}{s:BA}{nt:TypeId}{nx:Value}{pl:Bool}{br i:Nat}(M:NC w0 P ss ds sv rv xs s nt nx pl br i w) :
 Calls prog 117 #[.pointer (some ⟨br,0,none⟩)] w (yy_ w sv rv s nt nx pl br (sEnd s i)):=by
 refine hq_ λ C y=>?_;have z:=q_ (zeb (c:=34) 34 M rfl (by decide));have E:=M.hs;replace M:=q_ M
 by_cases hb:bt s i=34/\bt s (zw_ s (i+1))=34
 ·have m:=q_ (show sEnd s i=some (.mk 115 0 (s.extract (i+1) (zw_ s (i+1))) [] [],zw_ s (i+1)+1) by unfold sEnd;rw[if_pos hb]);replace hb:=q_ hb
  go_in
  go_wp2_with (go_at_call 142;refine z.o.mono ?_;rintro e u ⟨tx,b,rfl,d,h⟩;obtain⟨rfl,rfl,a,g⟩:b=true/\tx=s.extract (i+1) (zw_ s (i+1))/\RdAt u br sv rv s (zw_ s (i+1)+1) (!pl)/\zw_ s (i+1)+1<=s.size:=(by rcases h with⟨_,_,k,B,r,q3⟩|⟨q,_⟩;(exact⟨k,B,r,q3⟩);exact absurd hb.o q);replace d:=q_ d;replace a:=q_ a;replace g:=q_ g;clear h)
  try go_ret
  rw[y.o,m.o];exact nok (.flat (.text _ (by rw[bb_];omega))) d.o a.o g.o
 ·have m:=q_ (show sEnd s i=none by unfold sEnd;rw[if_neg hb]);replace hb:=q_ hb
  go_in
  go_wp2_with (go_at_call 142;refine z.o.mono ?_;rintro e u ⟨tx,b,rfl,d,h⟩;obtain⟨rfl,j,a,g⟩:b=false/\∃ j,RdAt u br sv rv s j (!pl)/\j<=s.size:=(by rcases h with⟨A,k,_⟩|⟨_,k,r⟩;(exact absurd ⟨A,k⟩ hb.o);exact⟨k,r⟩);have x:=M.o.call a d g;have D:=x.e;replace d:=q_ d;replace a:=q_ a;clear h x)
  go_quiet (fail)
  go_wp2_with fail
  try go_ret
  rw[y.o,m.o];exact nerr (d.o.still (zd_.drewN _ _)) (a.o.still (zd_.drewN _ _)) g
open Go.RowKit
def fEnd (s:BA) (n i:Nat):Option (DT×Nat):=if bt s i=39/\zw_ s (i+1)-(i+1)=n/\bt s (zw_ s (i+1))=39 then some (.mk 102 0 (s.extract (i+1) (zw_ s (i+1))) [] [],zw_ s (i+1)+1) else none
theorem zo1 {w0 w:World}{P:Nat->Prop}{ss:BA}{ds:List PD}{sv rv:Value}{xs:List Value}{s:BA}{nt:TypeId}{nx:Value}{pl:Bool}{br i:Nat}{p:Int}(M:NC w0 P ss ds sv rv xs s nt nx pl br i w) :
 Calls prog 123 #[.pointer (some ⟨br,0,none⟩),.agg #[.int .i64 p,.int .i64 (n:Int)]] w (yy_ w sv rv s nt nx pl br (fEnd s n i)):=by
 refine hq_ λ U D=>?_;have B:Fr w (w.alloc (.cells #[.int .i64 p,.int .i64 (n:Int)] 233)) (λ _=>False):=(Fr.refl w _).alloc _;have u:=M.new B;have V:=M.lt;have X:=M.hs;have E:=q_ (zeb (c:=39) 39 u rfl (by decide));have y:=Blk.new w #[.int .i64 p,.int .i64 (n:Int)] 233;have C:=q_ (B.mono (T:=λ g=>g=br) v_);replace u:=q_ u;replace y:=q_ y;clear B
 by_cases hb:bt s i=39/\bt s (zw_ s (i+1))=39
 ·have O:i+1<=s.size:=zj_ (s:=s) (i:=i) (by omega);have L:=zfw O
  have H:(s.extract (i+1) (zw_ s (i+1))).size=zw_ s (i+1)-(i+1):=by rw[bb_];omega
  clear M;replace hb:=q_ hb
  have F:H_ (∀ e m,zmy (w.alloc (.cells #[.int .i64 p,.int .i64 (n:Int)] 233)) sv rv s pl br i 39 e m->∃ tx,e=.returned (.tuple #[.string tx,.bool true])/\tx=s.extract (i+1) (zw_ s (i+1))/\(tx.size:Int)=((zw_ s (i+1)-(i+1):Nat):Int)/\Fr (w.alloc (.cells #[.int .i64 p,.int .i64 (n:Int)] 233)) m (· = br)/\RdAt m br sv rv s (zw_ s (i+1)+1) (!pl)/\zw_ s (i+1)+1<=s.size):=q_ (by
   rintro e m ⟨tx,b,rfl,a,A⟩
   rcases A with⟨_,_,rfl,rfl,K,q3⟩|⟨q,_⟩
   ·exact⟨_,rfl,rfl,by rw[H],a,K,q3⟩
   ·exact absurd hb.o q)
  by_cases hn:zw_ s (i+1)-(i+1)=n
  ·have x:=q_ (show fEnd s n i=some (.mk 102 0 (s.extract (i+1) (zw_ s (i+1))) [] [],zw_ s (i+1)+1) by unfold fEnd;rw[if_pos ⟨hb.o.1,hn,hb.o.2⟩]);rw[hn] at F;clear H hn L
   go_in
   go_wp2_with (go_at_call 142;refine E.o.mono ?_;intro e m hB;obtain⟨tx,rfl,r,I,a,d,k⟩:=F.o e m hB;replace r:=q_ r;have R:=(a.blk y.o (by omega)).c1;replace a:=q_ a;replace d:=q_ d;replace k:=q_ k;clear hB)
   try go_ret
   rw[D.o,x.o];exact nok (by rw[<- r.o];exact .flat (.bytes _ (by rw[r.o,bb_];omega))) (C.o.trans a.o u_) d.o k.o
  ·have x:=q_ (show fEnd s n i=none by unfold fEnd;rw[if_neg (λ h=>hn h.2.1)])
   have G:∀ z:Int,z=((zw_ s (i+1)-(i+1):Nat):Int)->(z != (n:Int))=true:=λ z Q=>by rw[Q];simp;omega
   replace G:=q_ G;clear H hn L
   go_in
   go_wp2_with (go_at_call 142;refine E.o.mono ?_;intro e m hB;obtain⟨tx,rfl,r,I,a,d,k⟩:=F.o e m hB;clear r;have Y:=G.o _ I;clear I;have R:=(a.blk y.o (by omega)).c1;have N:=(u.o.call d a k).e;replace a:=q_ a;replace d:=q_ d;replace k:=q_ k;clear hB)
   go_quiet (fail)
   go_wp2_with fail
   try go_ret
   rw[D.o,x.o];exact nerr ((C.o.trans a.o u_).still (zd_.drewN _ _)) (d.o.still (zd_.drewN _ _)) k.o
 ·have x:=q_ (show fEnd s n i=none by unfold fEnd;rw[if_neg (λ h=>hb ⟨h.1,h.2.2⟩)]);replace hb:=q_ hb;clear M
  go_in
  go_wp2_with (go_at_call 142;refine E.o.mono ?_;rintro e m ⟨tx,b,rfl,a,A⟩;obtain⟨rfl,j,d,k⟩:b=false/\∃ j,RdAt m br sv rv s j (!pl)/\j<=s.size:=(by rcases A with⟨S,J,_⟩|⟨_,J,K⟩;(exact absurd ⟨S,J⟩ hb.o);exact⟨J,K⟩);have N:=(u.o.call d a k).e;replace a:=q_ a;replace d:=q_ d;clear A)
  go_quiet (fail)
  go_wp2_with fail
  try go_ret
  rw[D.o,x.o];exact nerr ((C.o.trans a.o u_).still (zd_.drewN _ _)) (d.o.still (zd_.drewN _ _)) k
open Go.RowKit
theorem zr0:∀ (l:List Nat) (q b:Nat),l[q]?=some b->b∉l.take q->l.findIdx? (λ c=>c==b)=some q
 | [],q,b,h,_=>by simp at h
 | a::r,0,b,h,_=>by
  simp only[aa_,ag_] at h
  simp[List.findIdx?_cons,h]
 | a::r,q+1,b,h,hn=>by
  simp only[ab_] at h;simp only[List.take_succ_cons,ap_,not_or] at hn;rw[List.findIdx?_cons,if_neg (by simp;omega),zr0 r q b h hn.2]
  rfl
theorem zkn {l:List Nat}{b:Nat}(h:b∉l):l.findIdx? (λ c=>c==b)=none:=by
 rw[List.findIdx?_eq_none_iff];intro x a;exact beq_eq_false_iff_ne.2 (λ e=>h (e▸a))
def eEnd (s:BA) (l:List (Nat×Nat)) (i:Nat):Option (DT×Nat):=
 match (l.map Prod.fst).findIdx? (λ c=>c==bt s i) with|none=>none|some q=>some (.mk 101 q noB [] [],i+1)
theorem zl7 {w0 w:World}{P:Nat->Prop}{ss:BA}{ds:List PD}{sv rv:Value}{xs:List Value}{s:BA}{nt:TypeId}{nx:Value}{pl:Bool}{br i:Nat}{p:Int}{lv u:Value}{l:List (Nat×Nat)}(M:NC w0 P ss ds sv rv xs s nt nx pl br i w) (ho:w.ownsRow 0 146 2 lv l.length (yp_ l)) (E:∀ g,lv.ownBlock=some g->P g) (hl:l.length<=300) (a2:∀ q∈l,zi_ q.1=true) :
 Calls prog 122 #[.pointer (some ⟨br,0,none⟩),.agg #[.int .i64 p,lv,u]] w (yy_ w sv rv s nt nx pl br (eEnd s l i)):=by
 refine hq_ λ a3 K=>?_;obtain⟨I,J,rfl⟩:=zo_ ho
 have Q:s.size<=4000:=by have:=M.hs;omega
 have A:=M.il;have a5:=M.lt;have U:=M.brP;have B:Fr w (w.alloc (.cells #[.int .i64 p,.slice I l.length J,u] 216)) (λ _=>False):=(Fr.refl w _).alloc _;have T:H_ (∃ q:Nat,Value.int .i64 0=.int .i64 (q:Int)/\q<=l.length/\l.length+1-q<=l.length+1/\Fr w (w.alloc (.cells #[.int .i64 p,.slice I l.length J,u] 216)) (λ g=>g=br)/\RdAt (w.alloc (.cells #[.int .i64 p,.slice I l.length J,u] 216)) br sv rv s i (!pl)/\bt s i∉(l.take q).map Prod.fst):=q_ ⟨0,rfl,ak_ _,by omega,B.mono v_,B.blk M.R id,by simp⟩;replace M:=q_ M;replace ho:=q_ ho;replace E:=q_ E;clear B
 go_in
 go_wp2_with fail
 go_loopg [6,11] (l.length+1) (λ m v6 v W=>∃ q:Nat,v=.int .i64 (q:Int)/\q<=l.length/\l.length+1-q<=m/\Fr w W (λ g=>g=br)/\RdAt W br sv rv s i (!pl)/\bt s i∉(l.take q).map Prod.fst)
 case atStart=>exact T.o
 case round=>
  clear T;obtain⟨q,rfl,hq,hm,a,r,he⟩:=hrel;have a6:=a.size
  by_cases D:q<l.length
  ·have Z:(q:Int)<(l.length:Int):=by omega
   have hd:l[q]?=some l[q]:=an_ D;have O:l[q]∈l:=a0_ D;generalize l[q]=f at hd O;obtain⟨c,S⟩:=f;obtain⟨k,hk,Y⟩:=zb5 (a2 _ O)
   have L:0<c:=by have:c=97+k:=hk;omega
   clear hk Y;obtain⟨g,a4,X⟩:=zh_ ho.o (by omega);cases X;have a1:¬ g=br:=λ e=>U (e▸E.o g rfl);have G:=za_ ho.o a (λ g' e=>by simp only[Value.ownBlock,ag_] at e;subst e;exact a1);have c0:=zp_ G rfl (vw_ hd).1;have c1:=zp_ G rfl (vw_ hd).2;have H:=zm4 hd;have x:=(Fr.refl wr (λ _=>False)).alloc (.cells #[.int .i64 (S:Int),.int .u8 (c:Int)] 146);have y:=Blk.new wr #[.int .i64 (S:Int),.int .u8 (c:Int)] 146;have z:=x.blk r id;have N:=q_ (a.trans x v_);clear G
   by_cases hb:bt s i=c
   ·have C:=q_ (y8_ c (show RdAt _ br sv rv s i (!pl) from z) Q A rfl L hb);have a0:i+1<=s.size:=zj_ (s:=s) (i:=i) (by omega);have F:=q_ (show eEnd s l i=some (.mk 101 (q:Int) noB [] [],i+1) by unfold eEnd;rw[zr0 _ q (bt s i) (by rw[bk_,hd,hb];rfl) (by rw[<- List.map_take];exact he)]);replace y:=q_ y;clear z r a x he H hb
    go_wp2_with (go_at_call 114;refine C.o.mono ?_;rintro e w2 ⟨rfl,b,d⟩;have n1:=(b.blk y.o (by omega)).c1;replace b:=q_ b;replace d:=q_ d)
    try go_ret
    rw[K.o,F.o];exact nok (.flat (.sym q c (by omega))) (N.o.trans b.o u_) d.o a0
   ·have C:=q_ (xt_ c (show RdAt _ br sv rv s i (!pl) from z) Q A rfl L hb);have V:=q_ (show bt s i∉(l.take (q+1)).map Prod.fst by rw[H,bg_,bj_];rintro(h|h);exact he h;exact hb h);clear z r a x he H hb y
    go_wp2_with (go_at_call 114;refine C.o.mono ?_;rintro e w2 ⟨rfl,b,d⟩;replace b:=q_ b;replace d:=q_ d)
    go_roundg (l.length+1-(q+1))
    case measure=>omega
    case rel=>exact⟨q+1,rfl,D,l_,N.o.trans b.o u_,d.o,V.o⟩
  ·have Z:¬ ((q:Int)<(l.length:Int)):=by omega
   rw[bu_ (by omega)] at he;have F:=q_ (show eEnd s l i=none by unfold eEnd;rw[zkn he]);have e0:=(M.o.call r a A).e;replace a:=q_ a;replace r:=q_ r;clear he
   go_wp2_with fail
   go_quiet (fail)
   go_wp2_with fail
   try go_ret
   rw[K.o,F.o];exact nerr (a.o.still (zd_.drewN _ _)) (r.o.still (zd_.drewN _ _)) A
open Go.RowKit
def jo_ {St:Type}(step:St->Nat->Option (St×Nat)) (s:BA) (fin:Nat):Nat->St->Nat->Option (St×Nat)
 | 0,_,_=>none
 | n+1,σ,j=>
  match step σ j with
  | none=>none
  | some (σ',j')=>if bt s j'=fin then some (σ',j'+1) else if bt s j'=44 then jo_ step s fin n σ' (j'+1) else none
def zaq {St:Type}(step:St->Nat->Option (St×Nat)) (s:BA) (op fin:Nat) (σ:St) (i:Nat):Option (St×Nat):=
 if bt s i=op then (if bt s (i+1)=fin then some (σ,i+2) else jo_ step s fin (s.size+2) σ (i+1)) else none
structure zn4 {St:Type}(sv rv:Value) (s:BA) (nt:TypeId) (nx:Value) (pl:Bool) (br fid:Nat) (caps:Array Value) (step:St->Nat->Option (St×Nat)) (Inv:St->Nat->World->Prop) (Bad:Value->World->Prop):Prop where
 F:∀ W:World,(callFunc fid caps).run prog W=.ok (.enter fid caps) W
 R:∀ {σ j W},Inv σ j W->RdAt W br sv rv s j (!pl)/\j<=s.size/\W.cell? ⟨3,0,none⟩=some (.iface nt nx)
 K:∀ {σ j j' W W'},Inv σ j W->RdAt W' br sv rv s j' (!pl)->Fr W W' (· = br)->j'<=s.size->j<=j'->Inv σ j' W'
 B:∀ {σ j W},Inv σ j W->Bad (.iface nt nx) W
 C:∀ {σ j W},Inv σ j W->Calls prog fid caps W λ e W'=>∃ v,e=.returned v/\match step σ j with|some (σ',j')=>v=.nilIface/\j<j'/\Inv σ' j' W'|none=>(∃ T x,v=.iface T x)/\Bad v W'
def zlg {St:Type}(Inv:St->Nat->World->Prop) (Bad:Value->World->Prop) (res:Option (St×Nat)) (e:Ending) (w':World):Prop:=
 ∃ v,e=.returned v/\match res with|some (σ,j)=>v=.nilIface/\Inv σ j w'|none=>(∃ T x,v=.iface T x)/\Bad v w'
theorem zdl {St:Type}{sv rv:Value}{s:BA}{nt:TypeId}{nx:Value}{pl:Bool}{br fid:Nat}{caps:Array Value}{step:St->Nat->Option (St×Nat)}{Inv:St->Nat->World->Prop}{Bad:Value->World->Prop}(b:zn4 sv rv s nt nx pl br fid caps step Inv Bad)
 {w:World} {σ:St} {i:Nat} {co cf:Int} (x c:Nat) (D:RdAt w br sv rv s i (!pl)) (a6:i<=s.size) (U:∀ W',RdAt W' br sv rv s (i+1) (!pl)->Fr w W' (· = br)->i+1<=s.size->Inv σ (i+1) W') (a1:∀ W',RdAt W' br sv rv s i (!pl)->Fr w W' (· = br)->Bad (.iface nt nx) W'/\W'.cell? ⟨3,0,none⟩=some (.iface nt nx)) (z:s.size<=4000) (b4:co=(x:Int)) (a5:cf=(c:Int)) (a8:0<x) (V:0<c) :
 Calls prog 143 #[.pointer (some ⟨br,0,none⟩),.int .u8 co,.int .u8 cf,.func (.func fid) #[] caps] w (zlg Inv Bad (zaq step s x c σ i)):=by
 subst b4;subst a5;refine hq_ λ b5 Q=>?_
 by_cases I:bt s i=x
 case neg=>
  have a:=q_ (show zaq step s x c σ i=none by unfold zaq;rw[if_neg I]);have N:=q_ (xt_ x D z a6 rfl a8 I);replace a1:=q_ a1;clear D I U
  go_in
  go_wp2_with (go_at_call 114;refine N.o.mono ?_;rintro e h ⟨rfl,G,g⟩;obtain⟨B2,e2⟩:=a1.o h g G;replace B2:=q_ B2;clear G g)
  try go_ret
  rw[Q.o,a.o];exact⟨_,rfl,⟨_,_,rfl⟩,B2.o⟩
 case pos=>
 have Z:i+1<=s.size:=zj_ (s:=s) (i:=i) (by omega);have N:=q_ (y8_ x D z a6 rfl a8 I);replace U:=q_ U;replace b:=q_ b;clear a1
 by_cases O:bt s (i+1)=c
 case pos=>
  have a0:i+1+1<=s.size:=zj_ (s:=s) (i:=i+1) (by omega);have a:=q_ (show zaq step s x c σ i=some (σ,i+2) by unfold zaq;rw[if_pos I,if_pos O]);have a3:H_ (∀ h,RdAt h br sv rv s (i+1) (!pl)->_):=q_ (λ h g=>y8_ (w:=h) c g z Z rfl V O);clear D I O
  go_in
  go_wp2_with (first
   |(go_at_call 114;refine N.o.mono ?_;rintro e h ⟨rfl,G,g⟩;have I2:=q_ (U.o h g G Z);clear G N;replace g:=q_ g)
   |(go_at_call 114;refine(a3.o h g.o).mono ?_;rintro e w3 ⟨rfl,X,S⟩;have I3:=q_ (b.o.K I2.o S X a0 (by omega));clear X S))
  try go_ret
  rw[Q.o,a.o];exact⟨_,rfl,rfl,I3.o⟩
 case neg=>
  have a:=q_ (show zaq step s x c σ i=jo_ step s c (s.size+2) σ (i+1) by unfold zaq;rw[if_pos I,if_neg O]);have a3:H_ (∀ h,RdAt h br sv rv s (i+1) (!pl)->_):=q_ (λ h g=>xt_ (w:=h) c g z Z rfl V O);clear D I O
  go_in
  go_wp2_with (first
   |(go_at_call 114;refine N.o.mono ?_;rintro e h ⟨rfl,G,g⟩;have I2:=q_ (U.o h g G Z);clear G N;replace g:=q_ g)
   |(go_at_call 114;refine(a3.o h g.o).mono ?_;rintro e w3 ⟨rfl,X,S⟩;have I3:=b.o.K I2.o S X Z l_;have a9:=q_ (⟨s.size+2,σ,i+1,I3,(by omega),(by omega),a.o⟩:∃ n σ' j,Inv σ' j w3/\s.size+1-j<=s.size+1/\s.size+1-j<=n/\zaq step s x c σ i=jo_ step s c n σ' j);clear I3 X S I2 a))
  go_loopg [] (s.size+1) (λ m W=>∃ n σ' j,Inv σ' j W/\s.size+1-j<=m/\s.size+1-j<=n/\zaq step s x c σ i=jo_ step s c n σ' j)
  case atStart=>exact a9.o
  case round=>
   clear a9;have a5:=b.o.F;obtain⟨n,σ1,j,hI,hm,hn,a⟩:=hrel;obtain⟨D,b6,hE⟩:=b.o.R hI;have k:=b.o.C hI;obtain⟨n',rfl⟩:∃ n',n=n'+1:=⟨n-1,by omega⟩;rw[jo_] at a
   cases a2:step σ1 j with
   | none=>
    rw[a2] at a k;replace a:=q_ a;replace k:=q_ k;clear D hE hI a2
    go_wp2_with (refine k.o.mono ?_;rintro e w5 ⟨v5,rfl,⟨vT,vx,rfl⟩,hB⟩;replace hB:=q_ hB;clear k)
    try go_ret
    rw[Q.o,a.o];exact⟨_,rfl,⟨_,_,rfl⟩,hB.o⟩
   | some q=>
    obtain⟨σ2,J⟩:=q;rw[a2] at a k;simp only at a;replace k:=q_ k;clear D hE hI a2
    by_cases u:bt s J=c
    ·rw[if_pos u] at a;replace a:=q_ a;have a0:J+1<=s.size:=zj_ (s:=s) (i:=J) (by omega);replace u:=q_ u
     go_wp2_with (first
      |(refine k.o.mono ?_;rintro e w5 ⟨v5,rfl,rfl,a7,d⟩;have L:=q_ ((b.o.R d).1);have y:=(b.o.R d).2.1;replace d:=q_ d;clear k)
      |(go_at_call 114;refine(y8_ c L.o z y rfl V u.o).mono ?_;rintro e w6 ⟨rfl,H,A⟩;have r:=q_ (b.o.K d.o A H a0 (by omega));clear H A))
     try go_ret
     rw[Q.o,a.o];exact⟨_,rfl,rfl,r.o⟩
    ·rw[if_neg u] at a
     by_cases E:bt s J=44
     ·rw[if_pos E] at a;replace a:=q_ a;have a0:J+1<=s.size:=zj_ (s:=s) (i:=J) (by omega);replace u:=q_ u;replace E:=q_ E
      go_wp2_with (first
       |(refine k.o.mono ?_;rintro e w5 ⟨v5,rfl,rfl,a7,d⟩;have L:=q_ ((b.o.R d).1);have y:=(b.o.R d).2.1;replace d:=q_ d;clear k)
       |(go_at_call 114;refine(xt_ c L.o z y rfl V u.o).mono ?_;rintro e w6 ⟨rfl,H,A⟩;have r:=b.o.K d.o A H y l_;have a4:=q_ ((b.o.R r).1);replace r:=q_ r;clear H A L)
       |(go_at_call 114;refine(y8_ 44 a4.o z y rfl (by decide) E.o).mono ?_;rintro e w7 ⟨rfl,Y,T⟩;have M:=q_ (b.o.K r.o T Y a0 (by omega));clear Y T))
      go_roundg (s.size+1-(J+1))
      case measure=>omega
      case rel=>exact⟨n',σ2,J+1,M.o,l_,by omega,a.o⟩
     ·rw[if_neg E] at a;replace a:=q_ a;replace u:=q_ u;replace E:=q_ E
      go_wp2_with (first
       |(refine k.o.mono ?_;rintro e w5 ⟨v5,rfl,rfl,a7,d⟩;have L:=q_ ((b.o.R d).1);have y:=(b.o.R d).2.1;replace d:=q_ d;clear k)
       |(go_at_call 114;refine(xt_ c L.o z y rfl V u.o).mono ?_;rintro e w6 ⟨rfl,H,A⟩;have r:=b.o.K d.o A H y l_;have a4:=q_ ((b.o.R r).1);replace r:=q_ r;clear H A L)
       |(go_at_call 114;refine(xt_ 44 a4.o z y rfl (by decide) E.o).mono ?_;rintro e w7 ⟨rfl,Y,T⟩;have M:=b.o.K r.o T Y y l_;have e7:=(b.o.R M).2.2;replace M:=q_ M;clear Y T))
      try go_ret
      rw[Q.o,a.o];exact⟨_,rfl,⟨_,_,rfl⟩,b.o.B M.o⟩
open Go.RowKit
def DatN (w0:World) (P:Nat->Prop) (ss:BA) (ds:List PD) (sv rv:Value) (xs:List Value) (s:BA) (nt:TypeId) (nx:Value) (pl:Bool) (br f:Nat) (t:PT) (j:Nat):Prop:=
 ∀ (w:World) (v:Value),NC w0 P ss ds sv rv xs s nt nx pl br j w->TyV w P t v->
  Calls prog 83 #[.pointer (some ⟨br,0,none⟩),v] w (yy_ w sv rv s nt nx pl br (rdT s (zc_ ds) pl f t j))
def zek (R:Nat->Option (DT×Nat)) (l:List DT) (j:Nat):Option (List DT×Nat):=(R j).map (λ q=>(l++[q.1],q.2))
theorem zo9 (R:Nat->Option (DT×Nat)) (s:BA) (a:Nat):∀ n l j last,jo_ (zek R) s a n l j=(xi_ R s a false n last j).map (λ q=>(l++q.1.map Prod.snd,q.2)):=by
 intro n
 induction n with
 | zero=>intro l j last;rfl
 | succ n ih=>
  intro l j last;rw[jo_,xi_];simp only[zfh,a3_,if_false,zek]
  cases R j with
  | none=>rfl
  | some q=>
   obtain⟨d,j'⟩:=q;simp only[bw_];split
   ·rfl
   ·split
    ·rw[ih (l++[d]) (j'+1) (some noB)]
     cases xi_ R s a false n (some noB) (j'+1) with
     | none=>rfl
     | some q=>simp
    ·rfl
theorem zrp (R:Nat->Option (DT×Nat)) (s:BA) (i:Nat):vy_ R s 91 i=(zaq (zek R) s 91 93 [] i).map (λ q=>(.mk 91 0 noB [] q.1,q.2)):=by
 unfold zaq vy_ zb0
 by_cases h:bt s i=91
 ·rw[if_pos h,if_pos h,show xq_ 91=93 from rfl,show((91:Nat)==123)=false from rfl]
  by_cases a:bt s (i+1)=93
  ·rw[if_pos a,if_pos a]
   rfl
  ·rw[if_neg a,if_neg a,zo9 R s 93 _ [] (i+1) none]
   cases xi_ R s 93 false (s.size+2) none (i+1) with
   | none=>rfl
   | some q=>simp
 ·rw[if_neg h,if_neg h]
  rfl
structure LI (w0 w:World) (P:Nat->Prop) (ss:BA) (ds:List PD) (sv rv:Value) (xs:List Value) (s:BA) (nt:TypeId) (nx:Value) (pl:Bool) (br i:Nat) (t:PT) (p:Int) (v:Value) (l:List DT) (j:Nat) (W:World):Prop where
 M:NC w0 P ss ds sv rv xs s nt nx pl br j W
 fr:Fr w W (· = br)
 lt:br<w.heap.size
 hB:w.heap.size+3<=W.heap.size
 b2:Blk W w.heap.size [.pointer (some ⟨br,0,none⟩)] 154
 b3:Blk W (w.heap.size+1) [.int .i64 p,v] 205
 ty:TyV W P t v
 c:i+l.length<j
 row:∃ lv,Blk W (w.heap.size+2) [lv] 156/\RowD W (w.heap.size+3) (λ g=>w.heap.size+3<=g/\lv.ownBlock≠some g) lv l
section
variable {w0 w:World} {P:Nat->Prop} {ss:BA} {ds:List PD} {sv rv:Value} {xs:List Value} {s:BA} {nt:TypeId} {nx:Value} {pl:Bool} {br i:Nat} {t:PT} {p:Int} {v:Value} {l:List DT} {j j':Nat} {W W':World}
theorem LI.call (L:LI w0 w P ss ds sv rv xs s nt nx pl br i t p v l j W) (h:RdAt W' br sv rv s j' (!pl)) (a:Fr W W' (· = br)) (c:j'<=s.size) (hc:i+l.length<j'):LI w0 w P ss ds sv rv xs s nt nx pl br i t p v l j' W':=by
 have h1:=L.lt;obtain⟨lv,r1,b⟩:=L.row;obtain⟨ys,d⟩:=b.row;exact⟨L.M.call h a c,L.fr.trans a u_,L.lt,ai_ L.hB a.size,a.blk L.b2 (by omega),a.blk L.b3 (by omega),L.ty.fr a (λ g hg e=>L.M.brP (e▸hg)),hc,lv,a.blk r1 (by omega),b.fr a (λ g hg e=>by omega) (λ g hg e=>by have:=d.lt g hg;omega)⟩
end
def BadL (w:World) (sv rv:Value) (s:BA) (nt:TypeId) (nx:Value) (pl:Bool) (br:Nat) (ev:Value) (W:World):Prop:=
 Fr w W (· = br)/\ErrD W w.heap.size nt nx ev/\∃ j,RdAt W br sv rv s j (!pl)/\j<=s.size
theorem zqd:Tryz.prog.underlying 156=some (.slice 89):=by kernel_rfl
theorem zez:(Tryz.prog.info? 89).map (λ i=>(i.zero,i.size,i.bytes))=some (some .nilIface,1,16):=by kernel_rfl
theorem zo0 {w0 w:World}{P:Nat->Prop}{ss:BA}{ds:List PD}{sv rv:Value}{xs:List Value}{s:BA}{nt:TypeId}{nx:Value}{pl:Bool}{br i:Nat}{t:PT}{p:Int}{l:List DT}{j:Nat}{W:World}(L:LI w0 w P ss ds sv rv xs s nt nx pl br i t p (.iface vT vx) l j W) (hI:xr_ w0) (hR:DatN w0 P ss ds sv rv xs s nt nx pl br f t j) (a6:∀ d j',rdT s (zc_ ds) pl f t j=some (d,j')->j<j') :
 Calls prog 144 #[.pointer (some ⟨w.heap.size,0,none⟩),.pointer (some ⟨w.heap.size+1,0,none⟩),.pointer (some ⟨w.heap.size+2,0,none⟩)] W λ e W'=>∃ v,e=.returned v/\match zek (rdT s (zc_ ds) pl f t) l j with|some (l',j')=>v=.nilIface/\j<j'/\LI w0 w P ss ds sv rv xs s nt nx pl br i t p (.iface vT vx) l' j' W'|none=>(∃ T x,v=.iface T x)/\BadL w sv rv s nt nx pl br v W':=by
 refine hq_ λ d0 Q_=>?_;have hC:=q_ (hR W _ L.M L.ty);have d1:=L.b2.c0;have d2:=L.b3.c1;have e0:=L.M.il;have e4:=L.M.hs;have d8:=L.c;have e2:=L.lt;replace L:=q_ L
 cases u:rdT s (zc_ ds) pl f t j with
 | none=>
  have a1:=q_ (show zek (rdT s (zc_ ds) pl f t) l j=none by unfold zek;rw[u];rfl);replace u:=q_ u
  go_in
  go_wp2_with (first
   |(go_at_call 83;refine hC.o.mono ?_;rintro e w1 ⟨v1,a5,rfl,a,B⟩;rw[u.o] at B;obtain⟨rfl,K,j1,h1,N⟩:=B;obtain⟨eT,ex,rfl⟩:=K.iface;have U:=(L.o.M.call h1 a N).G;obtain⟨lv,r1,r⟩:=L.o.row;obtain⟨ys,r3⟩:=r.row;obtain⟨O,Q,rfl⟩:=zo_ r3;have k0:=(a.blk r1 (by omega)).c0;replace a:=q_ a;replace K:=q_ K;replace h1:=q_ h1;replace U:=q_ U;clear r1 r)
   |(go_at_call 145;refine(zg7 (n:=l.length) hI U.o (by omega)).mono ?_;intro e w2 hW;obtain⟨g2,b9,rfl,d9,Z,A⟩:=hW;replace A:=q_ A;replace Z:=q_ Z))
  try go_ret
  rw[Q_.o];refine⟨_,rfl,?_⟩;rw[a1.o];have e3:=(L.o.fr.trans a.o u_).size;have b8:=L.o.fr.size;exact⟨⟨_,_,rfl⟩,(L.o.fr.trans a.o u_).trans A.o v_,.within g2 (by omega) b9 Z.o ((K.o.less b8).fr A.o u_),j1,A.o.blk h1.o id,N⟩
 | some q=>
  obtain⟨d,j2⟩:=q;have b5:=a6 d j2 u;have a1:=q_ (show zek (rdT s (zc_ ds) pl f t) l j=some (l++[d],j2) by unfold zek;rw[u];rfl);replace u:=q_ u;obtain⟨ti,a7,a8,a9,b4⟩:=info_parts zez
  go_in
  go_wp2_with (first
   |(go_at_call 83;refine hC.o.mono ?_;rintro e w1 ⟨v1,a5,rfl,a,B⟩;rw[u.o] at B;obtain⟨rfl,J,h1,N⟩:=B;obtain⟨dT,dx,rfl⟩:=J.iface;have b:=L.o.call h1 a N (by omega);obtain⟨lv,q1,Y,S,qY⟩:=L.o.row;have r3:=q_ S.lt;have r1:=a.blk q1 (by omega);have r:=za_ S a (λ g hg e=>(by have:=S.lt g hg;omega));have rY:=q_ (λ i d (e:l[i]?=some d)=>(qY i d e).fr a (λ g hg e=>(by omega)));obtain⟨O,Q,rfl⟩:=zo_ r;replace J:=q_ J;clear q1 S qY;have k0:=r1.c0;have kg:=r1.thaw 0;have d6:=b.hB;replace b:=q_ b;replace r1:=q_ r1;replace r:=q_ r;clear a h1)
   |(at_builtin;go_must (refine wpList_append_own_at _ rfl _ _ 156 rfl (w.heap.size+3) 89 ti _ 1 16 zqd a7 a8 a9 b4 rfl (by decide) (.slice O l.length Q) l.length ((List.range l.length).flatMap λ i=>[Y i]) rfl ?hown _ 1 1 [.iface dT dx] rfl rfl (z7_ _ #[.iface dT dx] _ _ ?nn) ?one ?b1 ?b2 ?b3 ?_)
     case hown=>exact World.ownsRow.alloc r.o _
     case nn=>simp
     case one=>simp[Value.oneCell']
     case b1=>unfold maxLen;omega
     case b2=>omega
     case b3=>simp;omega
     intro v5 F C a3 b7 a4
     have z:Fr w1 F (λ g=>(Value.slice O l.length Q).ownBlock=some g):=Fr.grown ((Fr.refl w1 _).alloc _) a3 (λ k e _=>e)
     have e5:=(z.blk r1.o (λ e=>by have:=r.o.lt _ e;omega)).cell 0
     have f5:=(z.blk r1.o (λ e=>by have:=r.o.lt _ e;omega)).thaw 0
     have V:=z.blk r1.o (λ e=>by have:=r.o.lt _ e;omega)
     simp only[aa_] at e5
     have a0:∀ g,v5.ownBlock=some g->w.heap.size+3<=g:=(λ g hg=>(C.lt g hg).1)
     obtain⟨I,H,rfl⟩:=zh_ C (by omega)
     replace z:=q_ z
     replace C:=q_ C
     replace V:=q_ V
     replace a0:=q_ a0
     have b6:H_ ((Value.slice (some ⟨I,0,none⟩) (l.length+1) H).ownBlock=(Value.slice O l.length Q).ownBlock\/∃ h,(Value.slice (some ⟨I,0,none⟩) (l.length+1) H).ownBlock=some h/\w1.heap.size<=h):=q_ (a4.imp id (λ e=>⟨_,e,by simp⟩))
     clear a3 a4 b7))
  try go_ret
  rw[Q_.o];refine⟨_,rfl,?_⟩;rw[a1.o];refine⟨rfl,b5,?_⟩;have X:Fr F (F.setCell ⟨w.heap.size+2,0,none⟩ (.slice (some ⟨I,0,none⟩) (l.length+1) H)) (λ g=>g=w.heap.size+2):=(Fr.refl F (λ g=>g=w.heap.size+2)).setCell ⟨w.heap.size+2,0,none⟩ _ (λ _=>rfl);have y:Fr w1 (F.setCell ⟨w.heap.size+2,0,none⟩ (.slice (some ⟨I,0,none⟩) (l.length+1) H)) (λ g=>w.heap.size+2<=g):=(z.o.mono (λ g _ e=>by have:=r.o.lt g e;omega)).trans X (λ g _ e=>by omega);have m:=b.o.M;have d7:=m.brG;have e1:=b.o.lt
  have a2:∀ g,P g->¬ (w.heap.size+2<=g):=λ g hg=>by have:=m.Pbr g hg;omega
  exact⟨⟨y.blk m.R (by omega),m.D.fr y a2,m.G.fr y (by have:=m.lt;omega) (λ g e=>by omega),m.E,m.Pbr,m.brG,m.hs,m.il⟩,b.o.fr.trans y (λ g hg e=>by omega),b.o.lt,ai_ b.o.hB y.size,y.blk b.o.b2 (by omega),y.blk b.o.b3 (by omega),b.o.ty.fr y a2,by rw[ah_,am_];omega,_,V.o.set 0 _,RowD.grow (c:=w.heap.size+2) rY.o (J.o.mono (λ g _ hg=>⟨by have:=L.o.hB;omega,λ e=>by have:=r3.o g e;omega⟩)) ((z.o.mono (λ _ _ e=>.inl e)).trans X (λ _ _ e=>.inr e)) (by omega) b6.o (za_ C.o X (λ g hg e=>by have:=a0.o g hg;omega))⟩
open Go.RowKit
theorem zug {w0 w:World}{P:Nat->Prop}{ss:BA}{ds:List PD}{sv rv:Value}{xs:List Value}{s:BA}{nt:TypeId}{nx:Value}{pl:Bool}{br i:Nat}{t:PT}{p:Int}(M:NC w0 P ss ds sv rv xs s nt nx pl br i w) (k:TyV w P t (.iface vT vx)){W':World}(h:RdAt W' br sv rv s (i+1) (!pl)) (a:Fr (((w.alloc (.cells #[.pointer (some ⟨br,0,none⟩)] 154)).alloc (.cells #[.int .i64 p,.iface vT vx] 205)).alloc (.cells #[.slice none 0 0] 156)) W' (· = br)) (o:i+1<=s.size) :
 LI w0 w P ss ds sv rv xs s nt nx pl br i t p (.iface vT vx) [] (i+1) W':=by
 have m:=M.lt;have A:Fr w (((w.alloc (.cells #[.pointer (some ⟨br,0,none⟩)] 154)).alloc (.cells #[.int .i64 p,.iface vT vx] 205)).alloc (.cells #[.slice none 0 0] 156)) (λ _=>False):=(((Fr.refl w _).alloc _).alloc _).alloc _
 have x:(((w.alloc (.cells #[.pointer (some ⟨br,0,none⟩)] 154)).alloc (.cells #[.int .i64 p,.iface vT vx] 205)).alloc (.cells #[.slice none 0 0] 156)).heap.size=w.heap.size+3:=by simp
 have q:(w.alloc (.cells #[.pointer (some ⟨br,0,none⟩)] 154)).heap.size=w.heap.size+1:=by simp
 have r:((w.alloc (.cells #[.pointer (some ⟨br,0,none⟩)] 154)).alloc (.cells #[.int .i64 p,.iface vT vx] 205)).heap.size=w.heap.size+2:=by simp
 have d:=((Blk.new w #[.pointer (some ⟨br,0,none⟩)] 154).alloc (.cells #[.int .i64 p,.iface vT vx] 205)).alloc (.cells #[.slice none 0 0] 156);have b:=(Blk.new (w.alloc (.cells #[.pointer (some ⟨br,0,none⟩)] 154)) #[.int .i64 p,.iface vT vx] 205).alloc (.cells #[.slice none 0 0] 156);have c:=Blk.new ((w.alloc (.cells #[.pointer (some ⟨br,0,none⟩)] 154)).alloc (.cells #[.int .i64 p,.iface vT vx] 205)) #[.slice none 0 0] 156;rw[q] at b;rw[r] at c;have u:=a.size;exact⟨(M.new A).call h a o,(A.mono v_).trans a u_,m,by omega,a.blk d (by omega),a.blk b (by omega),(k.fr A u_).fr a (λ g hg e=>M.brP (e▸hg)),by simp,_,a.blk c (by omega),RowD.nil _ _ _⟩
theorem zrh {w0 w:World}{P:Nat->Prop}{ss:BA}{ds:List PD}{sv rv:Value}{xs:List Value}{s:BA}{nt:TypeId}{nx:Value}{pl:Bool}{br i:Nat}{t:PT}{p:Int}(M:NC w0 P ss ds sv rv xs s nt nx pl br i w) (N:TyV w P t (.iface vT vx)) (J:xr_ w0) (L:∀ j,i<j->j<=s.size->DatN w0 P ss ds sv rv xs s nt nx pl br f t j) :
 Calls prog 118 #[.pointer (some ⟨br,0,none⟩),.agg #[.int .i64 p,.iface vT vx]] w (yy_ w sv rv s nt nx pl br (vy_ (rdT s (zc_ ds) pl f t) s 91 i)):=by
 refine hq_ λ Z H=>?_
 have V:s.size<=4000:=by have:=M.hs;omega
 have A:Fr w (((w.alloc (.cells #[.pointer (some ⟨br,0,none⟩)] 154)).alloc (.cells #[.int .i64 p,.iface vT vx] 205)).alloc (.cells #[.slice none 0 0] 156)) (λ _=>False):=(((Fr.refl w _).alloc _).alloc _).alloc _;have O:=zam s (zc_ ds) pl f t
 have G:zn4 sv rv s nt nx pl br 144 #[.pointer (some ⟨w.heap.size,0,none⟩),.pointer (some ⟨w.heap.size+1,0,none⟩),.pointer (some ⟨w.heap.size+2,0,none⟩)] (zek (rdT s (zc_ ds) pl f t)) (λ l j W=>LI w0 w P ss ds sv rv xs s nt nx pl br i t p (.iface vT vx) l j W) (BadL w sv rv s nt nx pl br):=
  { F:=λ W=>by kernel_rfl
    R:=λ h=>⟨h.M.R,h.M.il,h.M.e⟩
    K:=λ h h1 y z h4=>h.call h1 y z (by have:=h.c;omega)
    B:=λ h=>⟨h.fr,.base,_,h.M.R,h.M.il⟩
    C:=λ {l j W} h=>(zo0 h J (L j (by have:=h.c;omega) h.M.il) (λ d j' e=>(O j d j' e).1)).mono (by
     rintro e W' ⟨v,he,k⟩
     refine⟨v,he,?_⟩
     cases S:zek (rdT s (zc_ ds) pl f t) l j with
     | none=>rw[S] at k;exact k
     | some q=>obtain⟨a,b⟩:=q;rw[S] at k;exact k) }
 have I:=q_ (zdl G (w:=(((w.alloc (.cells #[.pointer (some ⟨br,0,none⟩)] 154)).alloc (.cells #[.int .i64 p,.iface vT vx] 205)).alloc (.cells #[.slice none 0 0] 156))) (σ:=([]:List DT)) (i:=i) (co:=91) (cf:=93) 91 93 (A.blk M.R id) M.il (λ W' h u U=>zug M N h u U) (λ W' h u=>⟨⟨(A.mono v_).trans u u_,.base,i,h,M.il⟩,((M.new A).call h u M.il).e⟩) V rfl rfl (by decide) (by decide));have x:=q_ (zrp (rdT s (zc_ ds) pl f t) s i);clear G A O N L J M
 cases m:zaq (zek (rdT s (zc_ ds) pl f t)) s 91 93 [] i with
 | none=>
  rw[m] at x;replace m:=q_ m
  go_in
  go_wp2_with (go_at_call 143;refine I.o.mono ?_;rintro e Y ⟨X,rfl,k⟩;rw[m.o] at k;obtain⟨⟨eT,ex,rfl⟩,hB⟩:=k;replace hB:=q_ hB)
  try go_ret
  rw[H.o,x.o];obtain⟨h1,y,z⟩:=hB.o;exact⟨.nilIface,_,rfl,h1,rfl,y,z⟩
 | some q=>
  obtain⟨n2,j2⟩:=q;rw[m] at x;replace m:=q_ m
  go_in
  go_wp2_with (go_at_call 143;refine I.o.mono ?_;rintro e Y ⟨X,rfl,k⟩;rw[m.o] at k;obtain⟨rfl,r⟩:=k;obtain⟨lv,r1,D⟩:=r.row;obtain⟨ys,E⟩:=D.row;obtain⟨la,lc,rfl⟩:=zo_ E;have k0:=r1.c0;have T:=q_ (D.dat (Q:=λ g=>w.heap.size<=g) (λ g _ hg=>(by omega)) (λ g hg=>(by have:=E.lt g hg;omega)) (.inl ⟨rfl,rfl⟩));replace r:=q_ r;clear r1 D E)
  try go_ret
  rw[H.o,x.o];exact nok T.o r.o.fr r.o.M.R r.o.M.il
open Go.RowKit
def za7 (R:PT->Nat->Option (DT×Nat)) (fs:List PF) (l:List DT) (j:Nat):Option (List DT×Nat):=
 match fs[l.length]? with|none=>none|some g=>(R g.ty j).map (λ q=>(l++[q.1],q.2))
def zb1 (len:Nat):Option (List DT×Nat)->Option (DT×Nat)
 | none=>none
 | some (l,j)=>if l.length<len then none else some (.mk 114 0 noB [] l,j)
def zhb (s:BA) (l:List DT):Option (List DT×Nat)->Option (DT×Nat)
 | none=>none
 | some (r,e)=>if bt s e=41 then some (.mk 114 0 noB [] (l++r),e+1) else none
theorem zkf (R:PT->Nat->Option (DT×Nat)) (s:BA) (fs:List PF) (k:∀ t,Goes s (R t)):∀ a l j,l.length<fs.length->j<=s.size->s.size+1-j<=a->
 zb1 fs.length (jo_ (za7 R fs) s 41 a l j)=zhb s l (ya_ R s true ((fs.drop l.length).map PF.ty) j):=by
 intro a
 induction a with
 | zero=>intro l j _ m g;omega
 | succ a ih=>
  intro l j hk m g;rw[jo_,a7_ hk,ay_,ya_,if_pos rfl];simp only[za7,an_ hk]
  cases h:R (fs[l.length]).ty j with
  | none=>rfl
  | some q=>
   obtain⟨d,j'⟩:=q;have y:=k _ j d j' h
   have o:(l++[d]).length=l.length+1:=by simp
   simp only[bw_]
   by_cases b:bt s j'=41
   ·rw[if_pos b]
    by_cases c:l.length+1<fs.length
    ·rw[a7_ c,ay_,ya_];simp only[a3_,if_false];rw[if_neg (by omega)];simp only[zb1,zhb];rw[if_pos (by omega)]
    ·rw[bq_ (by omega),a6_,ya_];simp only[zb1,zhb];rw[if_neg (by omega),if_pos b]
   ·rw[if_neg b]
    by_cases e:bt s j'=44
    ·rw[if_pos e];have r:=zj_ (s:=s) (i:=j') (by omega)
     by_cases c:l.length+1<fs.length
     ·have:=ih (l++[d]) (j'+1) (by omega) r (by omega);rw[this,o];rw[a7_ c,ay_,ya_,ya_,if_pos rfl];simp only[a3_,if_false];rw[if_pos e]
      cases R (fs[l.length+1]).ty (j'+1) with
      | none=>rfl
      | some q=>
       obtain⟨x,u⟩:=q;simp only
       cases ya_ R s false ((fs.drop (l.length+1+1)).map PF.ty) u with
       | none=>rfl
       | some q=>
        simp only[zhb,bo_,a4_,ba_]
     ·rw[bq_ (by omega),a6_,ya_]
      have hn:jo_ (za7 R fs) s 41 a (l++[d]) (j'+1)=none:=by
       cases a with
       | zero=>rfl
       | succ a=>rw[jo_];simp only[za7];rw[bn_ (by omega)]
      rw[hn];simp only[zb1,zhb];rw[if_neg b]
    ·rw[if_neg e]
     by_cases c:l.length+1<fs.length
     ·rw[a7_ c,ay_,ya_];simp only[a3_,if_false];rw[if_neg e]
      rfl
     ·rw[bq_ (by omega),a6_,ya_];simp only[zb1,zhb];rw[if_neg b]
def zqj (env:Nat->Option PB):Prop:=∀ c l o,env c=some (.enum l o)->∀ q∈l,zi_ q.1=true
theorem zyh {s:BA}{env:Nat->Option PB}{pl:Bool}(m:zqj env){i:Nat}(h:bt s i=41):∀ (f:Nat) (t:PT),okT env t->rdT s env pl f t i=none:=by
 intro f
 induction f with
 | zero=>intro t _;rfl
 | succ f ih=>
  intro t b
  cases t with
  | leaf c p=>
   rw[rdT];unfold xx_;split
   ·rw[if_neg (by omega)]
   ·split
    ·rw[if_neg (by omega),if_neg (by omega)]
    ·split
     ·have e:jj_ s c i=none:=by
       unfold jj_;rw[if_neg];intro a
       have A:(y6_ s i).size=0:=by
        unfold y6_ xe_
        have g:sgn s i=i:=by unfold sgn;rw[if_neg (by omega)]
        rw[g,ve_ (by omega),bb_];omega
       exact absurd a.1 (by omega)
      rw[e]
     ·split
      ·rw[if_neg (by omega)]
      ·cases he:env c with
       | none=>rfl
       | some pb=>
        simp only;unfold yo_
        cases pb with
        | recd fs=>simp only;rw[if_neg (by omega)]
        | enum l o=>
         simp only;split
         ·have:(l.map Prod.fst).findIdx? (λ c=>c==bt s i)=none:=by
           rw[List.findIdx?_eq_none_iff];intro x y;obtain⟨q,a,rfl⟩:=bs_.1 y;have:=m c l o he q a;obtain⟨k,hk,_⟩:=zb5 this;rw[h,beq_eq_false_iff_ne];omega
          rw[this]
         ·rfl
        | bytes n=>simp only;rw[if_neg (by omega)]
  | wrap c p t=>
   unfold okT at b;rw[rdT];unfold vy_;rw[if_neg (by omega)]
  | alts p ts=>
   rw[rdT];unfold zan
   cases pl with
   | false=>rw[if_neg (by decide),if_neg (λ z=>by omega)]
   | true=>
   rw[if_pos rfl]
   cases ts with
   | nil=>rfl
   | cons t r=>
    simp only
    have u:okT env t:=by
     unfold okT at b;have d:=b.2;unfold okTs at d;exact d.2.1
    rw[ih t u]
open Go.RowKit
structure RI (w0 w:World) (P:Nat->Prop) (ss:BA) (ds:List PD) (sv rv:Value) (xs:List Value) (s:BA) (nt:TypeId) (nx:Value) (pl:Bool) (br i:Nat) (fs:List PF) (p:Int) (fv:Value) (zs:List Value) (l:List DT) (j:Nat) (W:World):Prop where
 M:NC w0 P ss ds sv rv xs s nt nx pl br j W
 fr:Fr w W (· = br)
 lt:br<w.heap.size
 hB:w.heap.size+3<=W.heap.size
 b2:Blk W w.heap.size [.pointer (some ⟨br,0,none⟩)] 154
 b3:Blk W (w.heap.size+1) [.int .i64 p,fv] 211
 F:j8_ W P ss fs fv zs
 c:i+l.length<j
 nl:l.length<=fs.length
 row:∃ lv,Blk W (w.heap.size+2) [lv] 163/\RowD W (w.heap.size+3) (λ g=>w.heap.size+3<=g/\lv.ownBlock≠some g) lv l
section
variable {w0 w:World} {P:Nat->Prop} {ss:BA} {ds:List PD} {sv rv:Value} {xs:List Value} {s:BA} {nt:TypeId} {nx:Value} {pl:Bool} {br i:Nat} {fs:List PF} {p:Int} {fv:Value} {zs:List Value} {l:List DT} {j j':Nat} {W W':World}
theorem RI.call (L:RI w0 w P ss ds sv rv xs s nt nx pl br i fs p fv zs l j W) (h:RdAt W' br sv rv s j' (!pl)) (a:Fr W W' (· = br)) (c:j'<=s.size) (hc:i+l.length<j'):RI w0 w P ss ds sv rv xs s nt nx pl br i fs p fv zs l j' W':=by
 have h1:=L.lt;obtain⟨lv,r1,b⟩:=L.row;obtain⟨ys,d⟩:=b.row;exact⟨L.M.call h a c,L.fr.trans a u_,L.lt,ai_ L.hB a.size,a.blk L.b2 (by omega),a.blk L.b3 (by omega),L.F.fr a (λ g hg e=>L.M.brP (e▸hg)),hc,L.nl,lv,a.blk r1 (by omega),b.fr a (λ g hg e=>by omega) (λ g hg e=>by have:=d.lt g hg;omega)⟩
theorem RI.new (L:RI w0 w P ss ds sv rv xs s nt nx pl br i fs p fv zs l j W) (a:Fr W W' (λ _=>False)):RI w0 w P ss ds sv rv xs s nt nx pl br i fs p fv zs l j W':=L.call (a.blk L.M.R id) (a.mono v_) L.M.il L.c
end
theorem zu9:Tryz.prog.underlying 163=some (.slice 89):=by kernel_rfl
theorem zrb {w0 w:World}{P:Nat->Prop}{ss:BA}{ds:List PD}{sv rv:Value}{xs:List Value}{s:BA}{nt:TypeId}{nx:Value}{pl:Bool}{br i:Nat}{fs:List PF}{p:Int}{fa:Option Addr}{fc:Nat}{zs:List Value}{z:List DT}{j:Nat}{W:World}(L:RI w0 w P ss ds sv rv xs s nt nx pl br i fs p (.slice fa fs.length fc) zs z j W) (f3:∀ g∈fs,zi_ g.letter=true) (g7:fs.length<=300) (hR:∀ g∈fs,DatN w0 P ss ds sv rv xs s nt nx pl br f g.ty j) (a4:∀ t d j',rdT s (zc_ ds) pl f t j=some (d,j')->j<j') :
 Calls prog 151 #[.pointer (some ⟨w.heap.size+2,0,none⟩),.pointer (some ⟨w.heap.size+1,0,none⟩),.pointer (some ⟨w.heap.size,0,none⟩)] W λ e W'=>∃ v,e=.returned v/\match za7 (rdT s (zc_ ds) pl f) fs z j with|some (l',j')=>v=.nilIface/\j<j'/\RI w0 w P ss ds sv rv xs s nt nx pl br i fs p (.slice fa fs.length fc) zs l' j' W'|none=>(∃ T x,v=.iface T x)/\BadL w sv rv s nt nx pl br v W':=by
 refine hq_ λ f7 Q_=>?_;have d2:=L.b2.c0;have d6:=L.b3.c1;have g5:=L.M.il;have h4:=L.M.hs;have d9:=L.c;have g8:=L.lt;have f1:=L.nl;have g1:=L.hB
 have l2:w.heap.size<W.heap.size:=by omega
 obtain⟨lv,r1,Y,A,S⟩:=L.row;obtain⟨la,lc,rfl⟩:=zo_ A;obtain⟨n,r⟩:∃ n,z.length=n:=⟨_,rfl⟩;rw[r] at r1 A S f1 d9;have k0:=r1.c0
 by_cases hn:n=fs.length
 ·have N:=q_ (show za7 (rdT s (zc_ ds) pl f) fs z j=none by unfold za7;rw[bn_ (by omega)]);have e0:=L.M.e;replace L:=q_ L;subst hn;clear r1 A S hR a4 r
  go_in
  go_wp2_with fail
  try go_ret
  rw[Q_.o];refine⟨_,rfl,?_⟩;rw[N.o];exact⟨⟨_,_,rfl⟩,L.o.fr,.base,j,L.o.M.R,L.o.M.il⟩
 ·have b8:n<fs.length:=by omega
  have g9:((n:Int)==(fs.length:Int))=false:=by simp;omega
  have hd:fs[n]?=some fs[n]:=an_ b8;have a7:fs[n]∈fs:=a0_ b8;generalize fs[n]=g0 at hd a7
  have h2:(n:Int)<(fs.length:Int):=by omega
  obtain⟨g,f8,e1⟩:=zh_ L.F.row (by omega);cases e1;obtain⟨T,x,d0,c0,c1,c2,c3,hT,d8⟩:=L.F.cells hd;obtain⟨l,a6⟩:∃ l,g0.letter=l:=⟨_,rfl⟩;obtain⟨a9,b9⟩:∃ q,g0.place=q:=⟨_,rfl⟩
  have e9:zi_ l=true:=by rw[<- a6];exact f3 _ a7
  rw[a6] at c1;rw[b9] at c0;have V:=(Fr.refl W (λ _=>False)).alloc (.cells #[.int .i64 (a9:Int),.int .u8 (l:Int),.iface T x,.pointer d0] 149);have N1:=Blk.new W #[.int .i64 (a9:Int),.int .u8 (l:Int),.iface T x,.pointer d0] 149;have B:=L.new V;have hC:=q_ (hR _ a7 _ _ B.M (hT.fr V u_));have d1:=q_ (by simp:(W.alloc (.cells #[.int .i64 (a9:Int),.int .u8 (l:Int),.iface T x,.pointer d0] 149)).heap.size=W.heap.size+1);replace B:=q_ B;replace N1:=q_ N1;replace A:=q_ A;replace S:=q_ S;replace L:=q_ L;replace r:=q_ r;replace r1:=q_ r1;have a2:=q_ V;clear a6 b9 hT d8 hR V
  cases u:rdT s (zc_ ds) pl f g0.ty j with
  | none=>
   have N:=q_ (show za7 (rdT s (zc_ ds) pl f) fs z j=none by unfold za7;rw[r.o,hd];simp only;rw[u];rfl);replace u:=q_ u
   go_in
   go_wp2_with (first
    |(go_at_call 83;refine hC.o.mono ?_;rintro e w1 ⟨v1,d7,rfl,m,J⟩;rw[u.o] at J;obtain⟨rfl,a1,j1,h1,a5⟩:=J;obtain⟨eT,ex,rfl⟩:=a1.iface;have n1:=(m.blk N1.o (by omega)).c1;replace m:=q_ m;replace a1:=q_ a1;replace h1:=q_ h1)
    |(go_at_call 152;refine(zfy e9).mono ?_;intro e w2 hW;obtain⟨g2,f6,rfl,g4,a3,I⟩:=hW;replace I:=q_ I;replace a3:=q_ a3))
   try go_ret
   rw[Q_.o];refine⟨_,rfl,?_⟩;rw[N.o];have b4:=B.o.fr.trans m.o u_;have h3:=b4.size;have f2:=B.o.fr.size;exact⟨⟨_,_,rfl⟩,b4.trans I.o v_,.within g2 (by omega) f6 a3.o ((a1.o.less f2).fr I.o u_),j1,I.o.blk h1.o id,a5⟩
  | some q=>
   obtain⟨d,j2⟩:=q;have e7:=a4 _ d j2 u;have N:=q_ (show za7 (rdT s (zc_ ds) pl f) fs z j=some (z++[d],j2) by unfold za7;rw[r.o,hd];simp only;rw[u];rfl);replace u:=q_ u;obtain⟨ti,e2,e3,e4,e6⟩:=info_parts zez;clear a4
   go_in
   go_wp2_with (first
    |(go_at_call 83;refine hC.o.mono ?_;rintro e w1 ⟨v1,d7,rfl,m,J⟩;rw[u.o] at J;obtain⟨rfl,a0,h1,a5⟩:=J;obtain⟨dT,dx,rfl⟩:=a0.iface;have a:=B.o.call h1 m a5 (by rw[r.o];omega);clear k0 d2 d6;have Q:=(m.blk (a2.o.blk r1.o id) (by omega));have O:=za_ (za_ A.o a2.o u_) m (λ g hg e=>(by have:=A.o.lt g hg;omega));have f4:=q_ (λ i d (e:z[i]?=some d)=>((S.o i d e).fr a2.o u_).fr m (λ g hg e=>(by omega)));replace a0:=q_ a0;have k0:=Q.c0;have kg:=Q.thaw 0;have f9:=a.hB;replace a:=q_ a;replace Q:=q_ Q;replace O:=q_ O;clear m h1)
    |(at_builtin;go_must (refine wpList_append_own_at _ rfl _ _ 163 rfl (w.heap.size+3) 89 ti _ 1 16 zu9 e2 e3 e4 e6 rfl (by decide) (.slice la n lc) n ((List.range n).flatMap λ i=>[Y i]) rfl ?hown _ 1 1 [.iface dT dx] rfl rfl (z7_ _ #[.iface dT dx] _ _ ?nn) ?one ?b1 ?b2 ?b3 ?_)
      case hown=>exact World.ownsRow.alloc O.o _
      case nn=>simp
      case one=>simp[Value.oneCell']
      case b1=>unfold maxLen;omega
      case b2=>omega
      case b3=>simp;omega
      intro v5 U K b6 f0 b7
      have H:Fr w1 U (λ g=>(Value.slice la n lc).ownBlock=some g):=Fr.grown ((Fr.refl w1 _).alloc _) b6 (λ k e _=>e)
      have C:=H.blk Q.o (λ e=>by have:=O.o.lt _ e;omega)
      have e5:=C.c0
      have f5:=C.thaw 0
      have a8:∀ g,v5.ownBlock=some g->w.heap.size+3<=g:=(λ g hg=>(K.lt g hg).1)
      obtain⟨Z,X,rfl⟩:=zh_ K (by omega)
      replace H:=q_ H
      replace K:=q_ K
      replace C:=q_ C
      replace a8:=q_ a8
      have e8:H_ ((Value.slice (some ⟨Z,0,none⟩) (n+1) X).ownBlock=(Value.slice la n lc).ownBlock\/∃ h,(Value.slice (some ⟨Z,0,none⟩) (n+1) X).ownBlock=some h/\w1.heap.size<=h):=q_ (b7.imp id (λ e=>⟨_,e,by simp⟩))
      clear b6 b7 f0))
   try go_ret
   rw[Q_.o];refine⟨_,rfl,?_⟩;rw[N.o];refine⟨rfl,e7,?_⟩;have hG:Fr U (U.setCell ⟨w.heap.size+2,0,none⟩ (.slice (some ⟨Z,0,none⟩) (n+1) X)) (λ g=>g=w.heap.size+2):=(Fr.refl U (λ g=>g=w.heap.size+2)).setCell ⟨w.heap.size+2,0,none⟩ _ (λ _=>rfl);have y:Fr w1 (U.setCell ⟨w.heap.size+2,0,none⟩ (.slice (some ⟨Z,0,none⟩) (n+1) X)) (λ g=>w.heap.size+2<=g):=(H.o.mono (λ g _ e=>by have:=O.o.lt g e;omega)).trans hG (λ g _ e=>by omega);have b:=a.o.M;have g3:=b.brG;have g6:=a.o.lt
   have b5:∀ g,P g->¬ (w.heap.size+2<=g):=λ g hg=>by have:=b.Pbr g hg;omega
   exact⟨⟨y.blk b.R (by omega),b.D.fr y b5,b.G.fr y (by have:=b.lt;omega) (λ g e=>by omega),b.E,b.Pbr,b.brG,b.hs,b.il⟩,a.o.fr.trans y (λ g hg e=>by omega),a.o.lt,ai_ a.o.hB y.size,y.blk a.o.b2 (by omega),y.blk a.o.b3 (by omega),a.o.F.fr y b5,by rw[ah_,r.o,am_];omega,by rw[ah_,r.o,am_];omega,_,C.o.set 0 _,RowD.grow (c:=w.heap.size+2) f4.o (a0.o.mono (λ g _ hg=>⟨by have:=L.o.hB;rw[d1.o] at hg;omega,λ e=>by have:=A.o.lt g e;rw[d1.o] at hg;omega⟩)) ((H.o.mono (λ _ _ e=>.inl e)).trans hG (λ _ _ e=>.inr e)) (by omega) e8.o (by rw[r.o];exact za_ K.o hG (λ g hg e=>by have:=a8.o g hg;omega))⟩
end Go.Proofs.YtiifagiebikmdaaGreatDoor
