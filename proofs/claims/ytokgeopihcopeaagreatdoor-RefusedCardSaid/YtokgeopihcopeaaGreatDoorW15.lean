import Derived.Test.YtokgeopihcopeaaGreatDoorW14
import Derived.Test.YtokgeopihcopeaaGreatDoorShelf
set_option linter.unusedVariables false
set_option maxHeartbeats 16000000
set_option maxRecDepth 100000
set_option linter.defProp false
set_option linter.unusedSimpArgs false
open Go.Proofs.Tryz
namespace Go.Proofs.YtokgeopihcopeaaGreatDoor
open Go.RowKit
variable {cT vT:Av}{cx vx:Ax}{lo n f:Nat}{w':Aw}{env:Au}
def yu(w0 w:Aw):Prop:=∀g,g<w0.heap.size->w.heap[g]?=w0.heap[g]?
def yu.refl(w:Aw):yu w w:=λ_ _=>rfl
def yu.fr{w0 w:Aw}{S:Az}(h:yu w0 w)(hf:Fr w w' S)(hk:w0.heap.size<=w.heap.size)(a:∀g,S g->w0.heap.size<=g):yu w0 w':=λg hg=>
 (hf.block g M_ (λe=>o1_ (a g e))).trans (h g hg)
def yu.err{g:Nat}{w0 w:Aw}{b:Av}{c:Ax}(h:yu w0 w)(he:vN g w0 b c):vN g w b c:=
 (World.cell?_of_block (a:=⟨g,0,none⟩) (h g (World.block_lt_of_cell? w0 ⟨g,0,none⟩ he))).trans he
def yu.var{w0 w:Aw}(h:yu w0 w){n:String}{cs:Dy}(hv:w0.var? prog n=some cs):w.var? prog n=some cs:=by
 unfold World.var? at hv⊢;cases hg:Tryz.prog.globalNamed n with
 |none=>rw[hg]at hv;simp at hv
 |some g=>
  rw[hg]at hv;simp only[Option.bind_some]at hv⊢;by_cases hl:g<w0.heap.size
  .rw[h g hl];exact hv
  .rw[Array.getElem?_eq_none M_]at hv;simp at hv
def Fr.grow(w:Aw)(k:Nat)(os:Array Obj):Fr w (Sort.grow (w.drewN k) os) N_:=by
 refine⟨rfl,rfl,rfl,?_,λg hg _=>?_⟩
 .show w.heap.size<=(w.heap++os).size;simp
 .show(w.heap++os)[g]?=w.heap[g]?;rw[Array.getElem?_append_left hg]
def yM(w0:Aw):Prop:=∀(W:World),yu w0 W->∀n:Nat,n<=4000->Calls prog 222 #[I_ n] W λe w'=>∃tx,e=.returned (.string tx)/\tx.size<=100000/\Fr W w' N_
def yH(w0:Aw):Prop:=∀(W:World),yu w0 W->∀k:BA,k.size<=4000->Calls prog 223 #[.string k] W λe w'=>∃tx,e=.returned (.string tx)/\tx.size<=100000/\Fr W w' N_
def Yp:∀(k n:Nat),n<10 ^ (k+1)->Lib.nDigits n<=k+1:=by
 intro k;induction k with
 |zero=>intro n h;rw[Lib.nDigits,dif_pos za_];omega
 |succ k ih=>
  intro n h;rw[Lib.nDigits];split
  .omega
  .have:=ih (n / 10) (by rw[Nat.div_lt_iff_lt_mul D_];rw[Nat.pow_succ]at h;exact h);omega
def FL{w0:Aw}(h:Lib.TabIs prog w0 "internal/strconv.uint64pow10" .u64 Lib.pow10Tab):yM w0:=by
 intro W a n hn
 have h1:Lib.TabIs prog W "internal/strconv.uint64pow10" .u64 Lib.pow10Tab:=a.var h
 apply(Tryz.strconv_Itoa (n:Int) M_ M_ W h1).mono;rintro e w' ⟨rfl,k,os,rfl⟩;refine⟨_,rfl,?_,Fr.grow W k os⟩;show(Lib.itoa (n:Int)).toArray.size<=100000;rw[List.size_toArray];unfold Lib.itoa;rw[n_ M_,Lib.decDigits_length];have:=Yp 3 (Int.toNat (n:Int)) x1_;omega
def vw(w:Aw)(cv:Ax)(e:Ak)(w':Aw):Prop:=
 ∃g tx,e=.returned (.iface 366 (P_ g))/\w.heap.size<=g/\Blk w' g [.string tx,cv] 368/\Fr w w' N_
def cq15_{p:Prop}(h:p:=by
 refine hq_ λg c=>?_;(first|(have:=cc2;have b:=zy (H w hG k hn))|(have b:=zy (H w hG n hn)));go_in;go_wp2_with (first|(go_at_call 222;apply b.o.mono;rintro e w1 ⟨tx,rfl,d,a⟩;replace a:=zy a)|(go_at_call 223;apply b.o.mono;rintro e w1 ⟨tx,rfl,d,a⟩;replace a:=zy a));try go_ret
 rw[c.o];exact⟨w1.heap.size,_,rfl,a.o.size,B_ w1 _ _,a.o.alloc _⟩):p:=h
def YB{w0 w:Aw}(H:yM w0)(hG:yu w0 w)(hn:n<=4000):Calls prog 174 #[I_ n,.iface cT cx] w (vw w (.iface cT cx)):=by
 exact cq15_
def iU{w0 w:Aw}(H:yM w0)(hG:yu w0 w)(hn:n<=4000):Calls prog 187 #[I_ n,.iface cT cx] w (vw w (.iface cT cx)):=by
 have cc1:=Nat
 exact cq15_
def ni{w0 w:Aw}{k:BA}(H:yH w0)(hG:yu w0 w)(hn:k.size<=4000):Calls prog 178 #[.string k,.iface cT cx] w (vw w (.iface cT cx)):=by
 have cc2:=Nat
 exact cq15_
def oJ{w:Aw}{l:Nat}(hl:zl l=true):Calls prog 181 #[U_ l,.iface cT cx] w (vw w (.iface cT cx)):=by
 refine hq_ λb a=>?_;obtain⟨k,hk,b⟩:=kS hl;have hc:l=97\/l=98\/l=99\/l=100\/l=101\/l=102\/l=103\/l=104\/l=105\/l=106\/l=107\/l=108\/l=109\/l=110\/l=111\/l=112\/l=113\/l=114\/l=115\/l=116\/l=117\/l=118\/l=119\/l=120\/l=121\/l=122:=M_;clear hl hk b;rcases hc with rfl|rfl|rfl|rfl|rfl|rfl|rfl|rfl|rfl|rfl|rfl|rfl|rfl|rfl|rfl|rfl|rfl|rfl|rfl|rfl|rfl|rfl|rfl|rfl|rfl|rfl;all_goals
  go_in;go_wp2;try go_ret
  rw[a.o];exact⟨w.heap.size,_,rfl,l_,B_ w _ _,(A_ w _).alloc _⟩
inductive qC (w:Aw) (lo:Nat) (nt:Av) (nx:Ax):Value->Prop
 |base:qC w lo nt nx (.iface nt nx)
 |within (g:Nat) (hg:lo<=g) (tx:BA) {v:Value} (hb:Blk w g [.string tx,v] 368) (h:qC w lo nt nx v):qC w lo nt nx (.iface 366 (P_ g))
def qC.fr{w:Aw}{nt:Av}{nx v:Ax}{S:Az}(h:qC w lo nt nx v)(hf:Fr w w' S)(a:∀g,lo<=g->¬S g):qC w' lo nt nx v:=by
 induction h with
 |base=>exact .base
 |within g hg tx hb h ih=>exact .within g hg tx (hf.bl hb (a g hg)) ih
def qC.ls{w:Aw}{a:Nat}{nt:Av}{nx v:Ax}(h:qC w lo nt nx v)(hl:a<=lo):qC w a nt nx v:=by
 induction h with
 |base=>exact .base
 |within g hg tx hb h ih=>exact .within g (al_ hl hg) tx hb ih
def qC.iface{w:Aw}{nt:Av}{nx v:Ax}(h:qC w lo nt nx v):∃T x,v=.iface T x:=by
 cases h<;>exact⟨_,_,rfl⟩
def qC.wrap{w:Aw}{nt:Av}{nx a v:Ax}(h:qC w lo nt nx a){e:Ak}(c:vw w a e w')(hl:lo<=w.heap.size)(he:e=.returned v):qC w' lo nt nx v:=by
 obtain⟨g,tx,rfl,h1,a,b⟩:=c;cases he;exact .within g (al_ hl h1) tx a (h.fr b u_)
structure NC(w0:Aw)(P:Az)(ss:BA)(ds:Ar)(sv rv:Ax)(xs:Ay)(s:BA)(nt:Av)(nx:Ax)(pl:Aq)(br i:Nat)(W:Aw):Prop where
 R:yw W br sv rv s i (!pl)
 D:yR W P ss ds sv xs
 G:yu w0 W
 E:vN 3 w0 nt nx
 Pbr:∀g,P g->g<br
 brG:w0.heap.size<=br
 hs:s.size<=4000
 il:i<=s.size
section
variable {w0 W W':Aw} {P:Az} {ss:BA} {ds:Ar} {sv rv:Ax} {xs:Ay} {s:BA} {nt:Av} {nx:Ax} {pl:Aq} {br i i':Nat}
def NC.brP(M:NC w0 P ss ds sv rv xs s nt nx pl br i W):¬P br:=λh=>a5_ _ (M.Pbr br h)
def NC.lt(M:NC w0 P ss ds sv rv xs s nt nx pl br i W):br<W.heap.size:=Blk.lt M.R
def NC.call(M:NC w0 P ss ds sv rv xs s nt nx pl br i W)(h:yw W' br sv rv s i' (!pl))(hf:Fr W W' (· = br))(hi:i'<=s.size):NC w0 P ss ds sv rv xs s nt nx pl br i' W':=by
 have h1:=M.lt;have a:=M.brG;exact⟨h,M.D.fr hf (λg hg e=>M.brP (e▸hg)),M.G.fr hf M_ (λg e=>e▸M.brG),M.E,M.Pbr,M.brG,M.hs,hi⟩
def NC.new(M:NC w0 P ss ds sv rv xs s nt nx pl br i W)(hf:Fr W W' N_):NC w0 P ss ds sv rv xs s nt nx pl br i W':=M.call (hf.bl M.R id) (hf.mono v_) M.il
def NC.si(M:NC w0 P ss ds sv rv xs s nt nx pl br i W)(hf:zq W W'):NC w0 P ss ds sv rv xs s nt nx pl br i W':=M.new ((A_ W _).si hf)
def NC.e(M:NC w0 P ss ds sv rv xs s nt nx pl br i W):W.cell? ⟨3,0,none⟩=some (.iface nt nx):=M.G.err M.E
end
def yx(env:Au)(t:PT)(w:Aw)(sv rv:Ax)(s:BA)(nt:Av)(nx:Ax)(pl:Aq)(br:Nat)(res:Dh)(e:Ak)(w':Aw):Prop:=
 ∃v ev,e=.returned (.tuple #[v,ev])/\Fr w w' (· = br)/\
 match res with
 |some (d,j)=>ev=.nilIface/\DaV env w' (λg=>w.heap.size<=g) d t v/\yw w' br sv rv s j (!pl)/\j<=s.size
 |none=>v=.nilIface/\qC w' w.heap.size nt nx ev/\∃j,yw w' br sv rv s j (!pl)/\j<=s.size
section
variable {w0 w:Aw} {P:Az} {ss:BA} {ds:Ar} {sv rv:Ax} {xs:Ay} {s:BA} {nt:Av} {nx:Ax} {pl:Aq} {br i:Nat}
def cZ{t:PT}{W:Aw}{j:Nat}(hf:Fr w W (· = br))(h:yw W br sv rv s j (!pl))(a:j<=s.size):yx env t w sv rv s nt nx pl br none (.returned (.tuple #[.nilIface,.iface nt nx])) W:=⟨.nilIface,_,rfl,hf,rfl,.base,j,h,a⟩
def nok{t:PT}{W:Aw}{j:Nat}{d:DT}{v:Ax}(a:DaV env W (λg=>w.heap.size<=g) d t v)(hf:Fr w W (· = br))(h:yw W br sv rv s j (!pl))(b:j<=s.size):yx env t w sv rv s nt nx pl br (some (d,j)) (.returned (.tuple #[v,.nilIface])) W:=⟨v,_,rfl,hf,rfl,a,h,b⟩
end
def uD{s:BA}{i:Nat}(h:i<=s.size):i<=zo s i/\zo s i<=s.size:=⟨(yh 97 122 s _ i l_).1,(yh 97 122 s _ i l_).2 h⟩
def lg(s:BA)(i:Nat):Option (DT×Nat):=if bt s i=84 then some (.mk 116 1 noB [] [],i+1) else if bt s i=70 then some (.mk 116 0 noB [] [],i+1) else none
def Yx{w0 w:Aw}{P:Az}{ss:BA}{ds:Ar}{sv rv:Ax}{xs:Ay}{s:BA}{nt:Av}{nx:Ax}{pl:Aq}{br i:Nat}{t:PT}(M:NC w0 P ss ds sv rv xs s nt nx pl br i w):Calls prog 120 #[P_ br] w (yx (zx ds) t w sv rv s nt nx pl br (lg s i)):=by
 refine hq_ λB y=>?_;have q:s.size<=4000:=y7_
 have F:=zy (A_ w (λg=>g=br));have c:=M.il;replace M:=zy M;by_cases h:bt s i=84
 .have m:i+1<=s.size:=zp (s:=s) (i:=i) M_;have hr:=zy (show lg s i=some (.mk 116 1 noB [] [],i+1) by unfold lg;rw[i_ h]);have hb:=zy h;go_in;go_wp2_with (go_at_call 119;apply(yy 84 M.o.R q c D_ D_ hb).mono;rintro e z ⟨rfl,a,b⟩;have d:=zy (M.o.call b a m);have k:=zy (F.o.trans a u_));try go_ret
  rw[y.o,hr.o];exact nok (V_ (.truth true) D_) k d.o.R m
 .by_cases u:bt s i=70
  .have m:i+1<=s.size:=zp (s:=s) (i:=i) M_;have hr:=zy (show lg s i=some (.mk 116 0 noB [] [],i+1) by unfold lg;rw[n_ h,i_ u]);have hn:=zy h;have hb:=zy u;go_in;go_wp2_with (first
    |(go_at_call 119;apply(xv 84 M.o.R q c D_ D_ hn).mono;rintro e z ⟨rfl,a,b⟩;have d:=zy (M.o.call b a c);have k:=zy (F.o.trans a u_))
    |(go_at_call 119;apply(yy 70 d.o.R q c D_ D_ hb).mono;rintro e A ⟨rfl,a,b⟩;have r:=zy (d.o.call b a m);have x:=zy (k.o.trans a u_)))
   try go_ret
   rw[y.o,hr.o];exact nok (V_ (.truth false) D_) x r.o.R m
  .have hr:=zy (show lg s i=none by unfold lg;rw[n_ h,n_ u]);have hn:=zy h;have hb:=zy u;go_in;go_wp2_with (first
    |(go_at_call 119;apply(xv 84 M.o.R q c D_ D_ hn).mono;rintro e z ⟨rfl,a,b⟩;have d:=zy (M.o.call b a c);have k:=zy (F.o.trans a u_))
    |(go_at_call 119;apply(xv 70 d.o.R q c D_ D_ hb).mono;rintro e A ⟨rfl,a,b⟩;have r:=zy (d.o.call b a c);have x:=zy (k.o.trans a u_)))
   have a:=r.o.e;go_quiet (fail);go_wp2;try go_ret
   rw[y.o,hr.o];exact cZ (x.o.si (zq.drewN _ _)) (r.o.R.si (zq.drewN _ _)) c
def eX(w:Aw)(sv rv:Ax)(s:BA)(pl:Aq)(br i d:Nat)(e:Ak)(w':Aw):Prop:=
 ∃tx b,e=.returned (.tuple #[.string tx,.bool b])/\Fr w w' (· = br)/\
  ((bt s i=d/\bt s (zo s (i+1))=d/\b=true/\tx=s.extract (i+1) (zo s (i+1))/\yw w' br sv rv s (zo s (i+1)+1) (!pl)/\zo s (i+1)+1<=s.size)\/
   (¬(bt s i=d/\bt s (zo s (i+1))=d)/\b=false/\∃j,yw w' br sv rv s j (!pl)/\j<=s.size))
def cwbX1_{p:Prop}(h:p:=by
 (first|(have:=cc1)|(have hlt2:e1+1<=s.size:=zp (s:=s) (i:=e1) M_));have hbb:=zy hb2;replace hb:=zy hb;replace he1:=zy he1;go_in;go_wp2_with (first
  |(go_at_call 119;apply(yy d M.o.R hs4 hil rfl hd0 hb.o).mono;rintro e w2 ⟨rfl,hf2,h2⟩;have F1:=zy (F.o.trans hf2 u_);clear F M;replace h2:=zy h2;clear hf2)
  |(go_at_call 176;apply(wk h2.o hs4 hlt).mono;rintro e w3 ⟨rfl,hf3,h3⟩;rw[show zt 97 122 s (i+1)=e1 from he1.o]at h3⊢;have F2:=zy (F1.o.trans hf3 u_);replace h3:=zy h3;clear hf3)
  |(go_at_call 119;(first|(have:=cc1;apply(xv d h3.o hs4 hle.2 rfl hd0 hbb.o).mono)|(apply(yy d h3.o hs4 hle.2 rfl hd0 hbb.o).mono));rintro e w4 ⟨rfl,hf4,h4⟩;have F3:=zy (F2.o.trans hf4 u_);replace h4:=zy h4;clear hf4))
 try go_ret
 rw[Q_.o];(first|(have:=cc1;refine⟨_,false,rfl,F3.o,.inr ⟨λh=>?_,rfl,e1,h4.o,hle.2⟩⟩)|(refine⟨_,true,rfl,F3.o,.inl ?_⟩));(first|(have:=cc1;rw[he1.o]at h)|(rw[he1.o]));(first|(have:=cc1;exact hbb.o h.2)|(exact⟨hb.o,hbb.o,rfl,rfl,h4.o,hlt2⟩))):p:=h
def bX{w0 w:Aw}{P:Az}{ss:BA}{ds:Ar}{sv rv:Ax}{xs:Ay}{s:BA}{nt:Av}{nx:Ax}{pl:Aq}{br i:Nat}{c:Int}(d:Nat)(M:NC w0 P ss ds sv rv xs s nt nx pl br i w)(hd:c=(d:Int))(hd0:0<d):Calls prog 171 #[P_ br,.int .u8 c] w (eX w sv rv s pl br i d):=by
 subst hd;refine hq_ λb Q_=>?_;have hs4:s.size<=4000:=y7_
 have hil:=M.il;have F:=zy (A_ w (λg=>g=br));replace M:=zy M;by_cases hb:bt s i=d
 .have hlt:i+1<=s.size:=zp (s:=s) (i:=i) M_;have hle:=uD hlt;obtain⟨e1,he1⟩:=x_ (zo s (i+1));rw[he1]at hle;by_cases hb2:bt s e1=d
  .exact cwbX1_
  .have cc1:=Nat;exact cwbX1_
 .have a:=zy hb;go_in;go_wp2_with (go_at_call 119;apply(xv d M.o.R hs4 hil rfl hd0 a).mono;rintro e w2 ⟨rfl,hf2,h2⟩;have F1:=zy (F.o.trans hf2 u_);replace h2:=zy h2);try go_ret
  rw[Q_.o];exact⟨_,false,rfl,F1,.inr ⟨λh=>a.o h.1,rfl,i,h2,hil⟩⟩
def sU(s:BA)(i:Nat):Option (DT×Nat):=if bt s i=34/\bt s (zo s (i+1))=34 then some (.mk 115 0 (s.extract (i+1) (zo s (i+1))) [] [],zo s (i+1)+1) else none
def cwaE1_{p:Prop}(h:p:=by
 (first|(have:=cc1;have hr:=zy (show ru s n i=none by unfold ru;rw[n_ (λh=>hb ⟨h.1,h.2.2⟩)]))|(have hr:=zy (show sU s i=none by unfold sU;rw[n_ hb])));replace hb:=zy hb;(try have:=cc1;clear M);go_in;go_wp2_with (go_at_call 171;apply hC.o.mono;rintro e w2 ⟨tx,b,rfl,hf2,hm⟩;obtain⟨rfl,j,h2,hj⟩:b=false/\∃j,yw w2 br sv rv s j (!pl)/\j<=s.size:=xt_;(first|(have:=cc1;have e0:=(M0.o.call h2 hf2 hj).e)|(have a:=M.o.call h2 hf2 hj;have e0:=a.e));replace hf2:=zy hf2;replace h2:=zy h2;(first|(have:=cc1;clear hm)|(clear hm a)));go_quiet (fail);go_wp2;try go_ret
 rw[Q_.o,hr.o];(first|(have:=cc1;exact cZ ((F0.o.trans hf2.o u_).si (zq.drewN _ _)) (h2.o.si (zq.drewN _ _)) hj)|(exact cZ (hf2.o.si (zq.drewN _ _)) (h2.o.si (zq.drewN _ _)) hj))):p:=h
def aE{w0 w:Aw}{t:PT}{P:Az}{ss:BA}{ds:Ar}{sv rv:Ax}{xs:Ay}{s:BA}{nt:Av}{nx:Ax}{pl:Aq}{br i:Nat}(M:NC w0 P ss ds sv rv xs s nt nx pl br i w):Calls prog 122 #[P_ br] w (yx (zx ds) t w sv rv s nt nx pl br (sU s i)):=by
 refine hq_ λa Q_=>?_;have hC:=zy (bX (c:=34) 34 M rfl D_);have a:=M.hs;replace M:=zy M;by_cases hb:bt s i=34/\bt s (zo s (i+1))=34
 .have hr:=zy (show sU s i=some (.mk 115 0 (s.extract (i+1) (zo s (i+1))) [] [],zo s (i+1)+1) by unfold sU;rw[i_ hb]);replace hb:=zy hb;go_in;go_wp2_with (go_at_call 171;apply hC.o.mono;rintro e w2 ⟨tx,b,rfl,hf2,hm⟩;obtain⟨rfl,rfl,h2,hj⟩:b=true/\tx=s.extract (i+1) (zo s (i+1))/\yw w2 br sv rv s (zo s (i+1)+1) (!pl)/\zo s (i+1)+1<=s.size:=(by rcases hm with⟨_,_,q1,a,q2,q3⟩|⟨q,_⟩;(exact⟨q1,a,q2,q3⟩);exact absurd hb.o q);replace hf2:=zy hf2;replace h2:=zy h2;replace hj:=zy hj);try go_ret
  rw[Q_.o,hr.o];exact nok (V_ (.text _ yf_) D_) hf2 h2 hj
 .exact cwaE1_
def ru(s:BA)(n i:Nat):Option (DT×Nat):=if bt s i=39/\zo s (i+1)-(i+1)=n/\bt s (zo s (i+1))=39 then some (.mk 102 0 (s.extract (i+1) (zo s (i+1))) [] [],zo s (i+1)+1) else none
def Yw{w0 w:Aw}{t:PT}{P:Az}{ss:BA}{ds:Ar}{sv rv:Ax}{xs:Ay}{s:BA}{nt:Av}{nx:Ax}{pl:Aq}{br i:Nat}{p:Int}(M:NC w0 P ss ds sv rv xs s nt nx pl br i w):Calls prog 128 #[P_ br,.agg #[Z_ p,I_ n]] w (yx (zx ds) t w sv rv s nt nx pl br (ru s n i)):=by
 refine hq_ λk Q_=>?_;have k:Fr w (w.alloc (.cells #[Z_ p,I_ n] 238)) N_:=(A_ w _).alloc _;have M0:=M.new k;have B:=M.lt;have B:=M.hs;have hC:=zy (bX (c:=39) 39 M0 rfl D_);have d:=B_ w #[Z_ p,I_ n] 238;have F0:=zy (k.mono (T:=λg=>g=br) v_);replace M0:=zy M0;replace d:=zy d;by_cases hb:bt s i=39/\bt s (zo s (i+1))=39
 .have k:i+1<=s.size:=zp (s:=s) (i:=i) M_;have y:=uD k;have u:(s.extract (i+1) (zo s (i+1))).size=zo s (i+1)-(i+1):=yf_
  replace hb:=zy hb;have m:H_ (∀e w2,eX (w.alloc (.cells #[Z_ p,I_ n] 238)) sv rv s pl br i 39 e w2->∃tx,e=.returned (.tuple #[.string tx,.bool true])/\tx=s.extract (i+1) (zo s (i+1))/\(tx.size:Int)=((zo s (i+1)-(i+1):Nat):Int)/\Fr (w.alloc (.cells #[Z_ p,I_ n] 238)) w2 (· = br)/\yw w2 br sv rv s (zo s (i+1)+1) (!pl)/\zo s (i+1)+1<=s.size):=zy (by
   rintro e w2 ⟨tx,b,rfl,hf2,hm⟩
   rcases hm with⟨_,_,rfl,rfl,q2,q3⟩|⟨q,_⟩
   .exact⟨_,rfl,rfl,by rw[u],hf2,q2,q3⟩
   .exact absurd hb.o q)
  by_cases hn:zo s (i+1)-(i+1)=n
  .have hr:=zy (show ru s n i=some (.mk 102 0 (s.extract (i+1) (zo s (i+1))) [] [],zo s (i+1)+1) by unfold ru;rw[i_ ⟨hb.o.1,hn,hb.o.2⟩]);rw[hn]at m;go_in;go_wp2_with (go_at_call 171;apply hC.o.mono;intro e w2 hB;obtain⟨tx,rfl,a,x,hf2,h2,hj⟩:=m.o e w2 hB;replace a:=zy a;have A:=(hf2.bl d M_).c1;revert hf2 h2 hj;refine h_ λhf2 h2 hj=>?_);try go_ret
   rw[Q_.o,hr.o];exact nok (by rw[<- a.o];exact V_ (.bytes _ (by rw[a.o,a6_];omega)) D_) (F0.o.trans hf2 u_) h2 hj
  .have hr:=zy (show ru s n i=none by unfold ru;rw[n_ (λh=>hn h.2.1)]);have r:∀z:Int,z=((zo s (i+1)-(i+1):Nat):Int)->(z != (n:Int))=true:=λz hz=>by rw[hz];simp;omega
   replace r:=zy r;go_in;go_wp2_with (go_at_call 171;apply hC.o.mono;intro e w2 hB;obtain⟨tx,rfl,a,x,hf2,h2,hj⟩:=m.o e w2 hB;have a:=r.o _ x;have A:=(hf2.bl d M_).c1;have e0:=(M0.o.call h2 hf2 hj).e;revert hf2 h2 hj;refine h_ λhf2 h2 hj=>?_);go_quiet (fail);go_wp2;try go_ret
   rw[Q_.o,hr.o];exact cZ ((F0.o.trans hf2 u_).si (zq.drewN _ _)) (h2.o.si (zq.drewN _ _)) hj
 .have cc1:=Nat;exact cwaE1_
def cS:∀(l:List Nat) (q b:Nat),l[q]?=some b->b∉l.take q->l.findIdx? (λc=>c==b)=some q
 | [],q,b,h,_=>by simp at h
 |a::r,0,b,h,_=>by
  simp only[aa_,af_]at h;simp[List.findIdx?_cons,h]
 |a::r,q+1,b,h,hn=>by
  simp only[ab_]at h;simp only[cg_,aq_,not_or]at hn;rw[List.findIdx?_cons,n_ (by simp;omega),cS r q b h hn.2];rfl
def fh{l:Ao}{b:Nat}(h:b∉l):l.findIdx? (λc=>c==b)=none:=by
 rw[List.findIdx?_eq_none_iff];intro x hx;exact beq_eq_false_iff_ne.2 (λe=>h (e▸hx))
def iN(s:BA)(l:As)(i:Nat):Option (DT×Nat):=
 match (l.map Prod.fst).findIdx? (λc=>c==bt s i) with|none=>none|some q=>some (.mk 101 q noB [] [],i+1)
def aN{w0 w:Aw}{t:PT}{P:Az}{ss:BA}{ds:Ar}{sv rv:Ax}{xs:Ay}{s:BA}{nt:Av}{nx:Ax}{pl:Aq}{br i:Nat}{p:Int}{lv u:Ax}{l:As}(M:NC w0 P ss ds sv rv xs s nt nx pl br i w)(Y:∀n,fU (zx ds) t n=(l.map Prod.fst).getD n 0)(ho:w.ownsRow 0 191 2 lv l.length (zE l))(D:∀g,lv.ownBlock=some g->P g)(hl:l.length<=300)(X:∀q∈l,zl q.1=true):Calls prog 127 #[P_ br,.agg #[Z_ p,lv,u]] w (yx (zx ds) t w sv rv s nt nx pl br (iN s l i)):=by
 refine hq_ λa0 I=>?_;obtain⟨G,H,rfl⟩:=zw ho;have N:s.size<=4000:=y7_
 have z:=M.il;have a1:=M.lt;have Q:=M.brP;have A:Fr w (w.alloc (.cells #[Z_ p,.slice G l.length H,u] 236)) N_:=(A_ w _).alloc _;have start:H_ (∃q:Nat,Value.int .i64 0=I_ q/\q<=l.length/\l.length+1-q<=l.length+1/\Fr w (w.alloc (.cells #[Z_ p,.slice G l.length H,u] 236)) (λg=>g=br)/\yw (w.alloc (.cells #[Z_ p,.slice G l.length H,u] 236)) br sv rv s i (!pl)/\bt s i∉(l.take q).map Prod.fst):=zy ⟨0,rfl,am_ _,M_,A.mono v_,A.bl M.R id,by simp⟩;replace M:=zy M;replace ho:=zy ho;replace D:=zy D;clear A;go_in;go_wp2;go_loopg [6,11] (l.length+1) (λm A v W=>∃q:Nat,v=I_ q/\q<=l.length/\l.length+1-q<=m/\Fr w W (λg=>g=br)/\yw W br sv rv s i (!pl)/\bt s i∉(l.take q).map Prod.fst);case atStart=>exact start
 case round=>
  clear start;obtain⟨q,rfl,A,hm,hf,d,he⟩:=hrel;have A:=hf.size;by_cases C:q<l.length
  .have T:(q:Int)<(l.length:Int):=M_;have hd:l[q]?=some l[q]:=aj_ C;have L:l[q]∈l:=bi_ C;generalize l[q]=f at hd L;obtain⟨c,O⟩:=f;obtain⟨k,hk,A⟩:=kS (X _ L);have J:0<c:=by have:c=97+k:=hk;omega
   clear hk A;obtain⟨g,A,A⟩:=zg ho M_;cases A;have U:¬g=br:=λe=>Q (e▸D.o g rfl);have E:=zj ho hf (λg' e=>by simp only[Value.ownBlock,af_]at e;subst e;exact U);have c0:=zr E rfl (xB hd).1;have c1:=zr E rfl (xB hd).2;have F:=eL hd;have r:=(A_ wr N_).alloc (.cells #[I_ O,U_ c] 191);have x:=B_ wr #[I_ O,U_ c] 191;have y:=r.bl d id;have K:=zy (hf.trans r v_);clear E;by_cases hb:bt s i=c
   .have B:=zy (yy c (show yw _ br sv rv s i (!pl) from y) N z rfl J hb);have S:i+1<=s.size:=zp (s:=s) (i:=i) M_;have hr:=zy (show iN s l i=some (.mk 101 (q:Int) noB [] [],i+1) by unfold iN;rw[cS _ q (bt s i) (by rw[ax_,hd,hb];rfl) yu_]);have V:=zy (show fU (zx ds) t q=c/\c<256 from⟨by rw[Y,as_,ax_,hd];rfl,o1_ (rG s i)⟩);replace x:=zy x;clear y d hf r he F hb;go_wp2_with (go_at_call 119;apply B.o.mono;rintro e Z ⟨rfl,a,b⟩;have A:=(a.bl x M_).c1;replace a:=zy a;replace b:=zy b);try go_ret
    rw[I.o,hr.o];exact nok (.flat (.sym q c M_) (λn A e=>by cases e;exact V)) (K.o.trans a u_) b S
   .have B:=zy (xv c (show yw _ br sv rv s i (!pl) from y) N z rfl J hb);have S:=zy (show bt s i∉(l.take (q+1)).map Prod.fst by rw[F,a4_,a2_];rintro(h|h);exact he h;exact hb h);clear y d hf r he F hb x;go_wp2_with (go_at_call 119;apply B.o.mono;rintro e Z ⟨rfl,a,b⟩;replace a:=zy a;replace b:=zy b);go_roundg (l.length+1-(q+1));case measure=>omega
    case rel=>exact⟨q+1,rfl,C,l_,K.o.trans a u_,b,S⟩
  .have T:¬((q:Int)<(l.length:Int)):=M_;rw[bc_ M_]at he;have hr:=zy (show iN s l i=none by unfold iN;rw[fh he]);have a:=(M.o.call d hf z).e;replace hf:=zy hf;replace d:=zy d;clear he;go_wp2;go_quiet (fail);go_wp2;try go_ret
   rw[I.o,hr.o];exact cZ (hf.o.si (zq.drewN _ _)) (d.o.si (zq.drewN _ _)) z
def jj{St:Type}(step:St->Nat->Option (St×Nat))(s:BA)(fin:Nat):Nat->St->Nat->Option (St×Nat)
 | 0,_,_=>none
 |n+1,σ,j=>
  match step σ j with
  |none=>none
  |some (σ',j')=>if bt s j'=fin then some (σ',j'+1) else if bt s j'=44 then jj step s fin n σ' (j'+1) else none
def jt{St:Type}(step:St->Nat->Option (St×Nat))(s:BA)(op fin:Nat)(σ:St)(i:Nat):Option (St×Nat):=
 if bt s i=op then (if bt s (i+1)=fin then some (σ,i+2) else jj step s fin (s.size+2) σ (i+1)) else none
structure ea{St:Type}(sv rv:Ax)(s:BA)(nt:Av)(nx:Ax)(pl:Aq)(br fid:Nat)(caps:Dy)(step:St->Nat->Option (St×Nat))(Inv:St->Nat->World->Prop)(Bad:Ex):Prop where
 F:∀W:World,(callFunc fid caps).run prog W=.ok (.enter fid caps) W
 R:∀{σ j W},Inv σ j W->yw W br sv rv s j (!pl)/\j<=s.size/\W.cell? ⟨3,0,none⟩=some (.iface nt nx)
 K:∀{σ j j' W W'},Inv σ j W->yw W' br sv rv s j' (!pl)->Fr W W' (· = br)->j'<=s.size->j<=j'->Inv σ j' W'
 B:∀{σ j W},Inv σ j W->Bad (.iface nt nx) W
 C:∀{σ j W},Inv σ j W->Calls prog fid caps W λe W'=>∃v,e=.returned v/\match step σ j with|some (σ',j')=>v=.nilIface/\j<j'/\Inv σ' j' W'|none=>(∃T x,v=.iface T x)/\Bad v W'
def sk{St:Type}(Inv:St->Nat->World->Prop)(Bad:Ex)(res:Option (St×Nat))(e:Ak)(w':Aw):Prop:=
 ∃v,e=.returned v/\match res with|some (σ,j)=>v=.nilIface/\Inv σ j w'|none=>(∃T x,v=.iface T x)/\Bad v w'
def fS{St:Type}{sv rv:Ax}{s:BA}{nt:Av}{nx:Ax}{pl:Aq}{br fid:Nat}{caps:Dy}{step:St->Nat->Option (St×Nat)}{Inv:St->Nat->World->Prop}{Bad:Ex}(I:ea sv rv s nt nx pl br fid caps step Inv Bad){w:Aw}{σ:St}{i:Nat}{co cf:Int}(k fin:Nat)(y:yw w br sv rv s i (!pl))(a5:i<=s.size)(S:∀W',yw W' br sv rv s (i+1) (!pl)->Fr w W' (· = br)->i+1<=s.size->Inv σ (i+1) W')(a0:∀W',yw W' br sv rv s i (!pl)->Fr w W' (· = br)->Bad (.iface nt nx) W'/\W'.cell? ⟨3,0,none⟩=some (.iface nt nx))(u:s.size<=4000)(a8:co=(k:Int))(a4:cf=(fin:Int))(a7:0<k)(T:0<fin):Calls prog 172 #[P_ br,.int .u8 co,.int .u8 cf,.func (.func fid) #[] caps] w (sk Inv Bad (jt step s k fin σ i)):=by
 subst a8;subst a4;refine hq_ λa9 N=>?_;by_cases E:bt s i=k;case neg=>
  have hr:=zy (show jt step s k fin σ i=none by unfold jt;rw[n_ E]);have L:=zy (xv k y u a5 rfl a7 E);replace a0:=zy a0;clear y E S;go_in;go_wp2_with (go_at_call 119;apply L.o.mono;rintro e c ⟨rfl,A,b⟩;obtain⟨B2,e2⟩:=a0.o c b A;replace B2:=zy B2;clear A b);try go_ret
  rw[N.o,hr.o];exact⟨_,rfl,⟨_,_,rfl⟩,B2.o⟩
 case pos=>
 have X:i+1<=s.size:=zp (s:=s) (i:=i) M_;have L:=zy (yy k y u a5 rfl a7 E);replace S:=zy S;replace I:=zy I;clear a0;by_cases M:bt s (i+1)=fin;case pos=>
  have Y:i+1+1<=s.size:=zp (s:=s) (i:=i+1) M_;have hr:=zy (show jt step s k fin σ i=some (σ,i+2) by unfold jt;rw[i_ E,i_ M]);have a2:H_ (∀c,yw c br sv rv s (i+1) (!pl)->_):=zy (λc b=>yy (w:=c) fin b u X rfl T M);clear y E M;go_in;go_wp2_with (first
   |(go_at_call 119;apply L.o.mono;rintro e c ⟨rfl,A,b⟩;have Z:=zy (S.o c b A X);clear A L;replace b:=zy b)
   |(go_at_call 119;apply(a2.o c b.o).mono;rintro e w3 ⟨rfl,U,O⟩;have I3:=zy (I.o.K Z.o O U Y M_);clear U O))
  try go_ret
  rw[N.o,hr.o];exact⟨_,rfl,rfl,I3.o⟩
 case neg=>
  have hr:=zy (show jt step s k fin σ i=jj step s fin (s.size+2) σ (i+1) by unfold jt;rw[i_ E,n_ M]);have a2:H_ (∀c,yw c br sv rv s (i+1) (!pl)->_):=zy (λc b=>xv (w:=c) fin b u X rfl T M);clear y E M;go_in;go_wp2_with (first
   |(go_at_call 119;apply L.o.mono;rintro e c ⟨rfl,A,b⟩;have Z:=zy (S.o c b A X);clear A L;replace b:=zy b)
   |(go_at_call 119;apply(a2.o c b.o).mono;rintro e w3 ⟨rfl,U,O⟩;have I3:=I.o.K Z.o O U X l_;have start:=zy (⟨s.size+2,σ,i+1,I3,M_,M_,hr.o⟩:∃n σ' j,Inv σ' j w3/\s.size+1-j<=s.size+1/\s.size+1-j<=n/\jt step s k fin σ i=jj step s fin n σ' j);clear I3 U O Z hr))
  go_loopg [] (s.size+1) (λm W=>∃n σ' j,Inv σ' j W/\s.size+1-j<=m/\s.size+1-j<=n/\jt step s k fin σ i=jj step s fin n σ' j);case atStart=>exact start.o
  case round=>
   clear start;have a4:=I.o.F;obtain⟨n,σ1,j,hI,hm,hn,hr⟩:=hrel;obtain⟨y,b,hE⟩:=I.o.R hI;have d:=I.o.C hI;obtain⟨n',rfl⟩:∃n',n=n'+1:=⟨n-1,M_⟩;rw[jj]at hr;cases a1:step σ1 j with
   |none=>
    rw[a1]at hr d;replace hr:=zy hr;replace d:=zy d;clear y hE hI a1;go_wp2_with (apply d.o.mono;rintro e w5 ⟨v5,rfl,⟨vT,vx,rfl⟩,hB⟩;replace hB:=zy hB;clear d);try go_ret
    rw[N.o,hr.o];exact⟨_,rfl,⟨_,_,rfl⟩,hB.o⟩
   |some q=>
    obtain⟨σ2,G⟩:=q;rw[a1]at hr d;simp only at hr;replace d:=zy d;clear y hE hI a1;by_cases h:bt s G=fin
    .rw[i_ h]at hr;replace hr:=zy hr;have Y:G+1<=s.size:=zp (s:=s) (i:=G) M_;replace h:=zy h;go_wp2_with (first
      |(apply d.o.mono;rintro e w5 ⟨v5,rfl,rfl,a6,a⟩;have H:=zy ((I.o.R a).1);have r:=(I.o.R a).2.1;replace a:=zy a;clear d)
      |(go_at_call 119;apply(yy fin H.o u r rfl T h.o).mono;rintro e w6 ⟨rfl,D,x⟩;have g:=zy (I.o.K a.o x D Y M_);clear D x))
     try go_ret
     rw[N.o,hr.o];exact⟨_,rfl,rfl,g.o⟩
    .rw[n_ h]at hr;by_cases z:bt s G=44
     .rw[i_ z]at hr;replace hr:=zy hr;have Y:G+1<=s.size:=zp (s:=s) (i:=G) M_;replace h:=zy h;replace z:=zy z;go_wp2_with (first
       |(apply d.o.mono;rintro e w5 ⟨v5,rfl,rfl,a6,a⟩;have H:=zy ((I.o.R a).1);have r:=(I.o.R a).2.1;replace a:=zy a;clear d)
       |(go_at_call 119;apply(xv fin H.o u r rfl T h.o).mono;rintro e w6 ⟨rfl,D,x⟩;have g:=I.o.K a.o x D r l_;have a3:=zy ((I.o.R g).1);replace g:=zy g;clear D x H)
       |(go_at_call 119;apply(yy 44 a3.o u r rfl D_ z.o).mono;rintro e w7 ⟨rfl,V,Q⟩;have J:=zy (I.o.K g.o Q V Y M_);clear V Q))
      go_roundg (s.size+1-(G+1));case measure=>omega
      case rel=>exact⟨n',σ2,G+1,J.o,l_,M_,hr.o⟩
     .rw[n_ z]at hr;replace hr:=zy hr;replace h:=zy h;replace z:=zy z;go_wp2_with (first
       |(apply d.o.mono;rintro e w5 ⟨v5,rfl,rfl,a6,a⟩;have H:=zy ((I.o.R a).1);have r:=(I.o.R a).2.1;replace a:=zy a;clear d)
       |(go_at_call 119;apply(xv fin H.o u r rfl T h.o).mono;rintro e w6 ⟨rfl,D,x⟩;have g:=I.o.K a.o x D r l_;have a3:=zy ((I.o.R g).1);replace g:=zy g;clear D x H)
       |(go_at_call 119;apply(xv 44 a3.o u r rfl D_ z.o).mono;rintro e w7 ⟨rfl,V,Q⟩;have J:=I.o.K g.o Q V r l_;have a:=(I.o.R J).2.2;replace J:=zy J;clear V Q))
      try go_ret
      rw[N.o,hr.o];exact⟨_,rfl,⟨_,_,rfl⟩,I.o.B J.o⟩
def jC(w0:Aw)(P:Az)(ss:BA)(ds:Ar)(sv rv:Ax)(xs:Ay)(s:BA)(nt:Av)(nx:Ax)(pl:Aq)(br f:Nat)(t:PT)(j:Nat):Prop:=
 ∀(w:World) (v:Value),NC w0 P ss ds sv rv xs s nt nx pl br j w->TyV w P t v->
  Calls prog 78 #[P_ br,v] w (yx (zx ds) t w sv rv s nt nx pl br (rdT s (zx ds) pl f t j))
def wZ(R:Al)(l:Ae)(j:Nat):Option (List DT×Nat):=(R j).map (λq=>(l++[q.1],q.2))
def YX(R:Al)(s:BA)(fin:Nat):∀n l j last,jj (wZ R) s fin n l j=(yc R s fin false n last j).map (λq=>(l++q.1.map Prod.snd,q.2)):=by
 intro n;induction n with
 |zero=>intro l j last;rfl
 |succ n ih=>
  intro l j last;rw[jj,yc];simp only[kJ,a1_,if_false,wZ];cases R j with
  |none=>rfl
  |some q=>
   obtain⟨d,j'⟩:=q;simp only[by_];split
   .rfl
   .split
    .rw[ih (l++[d]) (j'+1) (some noB)];cases yc R s fin false n (some noB) (j'+1) with
     |none=>rfl
     |some q=>simp
    .rfl
def Js(R:Al)(s:BA)(i:Nat):xH R s 91 i=(jt (wZ R) s 91 93 [] i).map (λq=>(.mk 91 0 noB [] q.1,q.2)):=by
 unfold jt xH jQ;by_cases h:bt s i=91
 .rw[i_ h,i_ h,show xw 91=93 from rfl,show((91:Nat)==123)=false from rfl];by_cases a:bt s (i+1)=93
  .rw[i_ a,i_ a];rfl
  .rw[n_ a,n_ a,YX R s 93 _ [] (i+1) none];cases yc R s 93 false (s.size+2) none (i+1) with
   |none=>rfl
   |some q=>simp
 .rw[n_ h,n_ h];rfl
structure LI(w0 w:Aw)(P:Az)(ss:BA)(ds:Ar)(sv rv:Ax)(xs:Ay)(s:BA)(nt:Av)(nx:Ax)(pl:Aq)(br i:Nat)(t:PT)(p:Int)(v:Ax)(l:Ae)(j:Nat)(W:Aw):Prop where
 M:NC w0 P ss ds sv rv xs s nt nx pl br j W
 fr:Fr w W (· = br)
 lt:br<w.heap.size
 hB:w.heap.size+3<=W.heap.size
 b2:Blk W w.heap.size [P_ br] 199
 b3:Blk W (w.heap.size+1) [Z_ p,v] 222
 ty:TyV W P t v
 c:i+l.length<j
 row:∃lv,Blk W (w.heap.size+2) [lv] 144/\jY (zx ds) W (w.heap.size+3) (λg=>w.heap.size+3<=g/\lv.ownBlock≠some g) (.wrap 91 0 t) lv l
section
variable {w0 w:Aw} {P:Az} {ss:BA} {ds:Ar} {sv rv:Ax} {xs:Ay} {s:BA} {nt:Av} {nx:Ax} {pl:Aq} {br i:Nat} {t:PT} {p:Int} {v:Ax} {l:Ae} {j j':Nat} {W W':Aw}
def LI.call(L:LI w0 w P ss ds sv rv xs s nt nx pl br i t p v l j W)(h:yw W' br sv rv s j' (!pl))(hf:Fr W W' (· = br))(b:j'<=s.size)(hc:i+l.length<j'):LI w0 w P ss ds sv rv xs s nt nx pl br i t p v l j' W':=by
 have h1:=L.lt;obtain⟨lv,r1,a⟩:=L.row;obtain⟨ys,c⟩:=a.row;exact⟨L.M.call h hf b,L.fr.trans hf u_,L.lt,al_ L.hB hf.size,hf.bl L.b2 M_,hf.bl L.b3 M_,L.ty.fr hf (λg hg e=>L.M.brP (e▸hg)),hc,lv,hf.bl r1 M_,a.fr hf (λg hg e=>M_) (λg hg e=>o1_ (c.lt g hg))⟩
end
def Zb(w:Aw)(sv rv:Ax)(s:BA)(nt:Av)(nx:Ax)(pl:Aq)(br:Nat)(ev:Ax)(W:Aw):Prop:=
 Fr w W (· = br)/\qC W w.heap.size nt nx ev/\∃j,yw W br sv rv s j (!pl)/\j<=s.size
def sF:Tryz.prog.underlying 144=some (.slice 52):=K_
def qP:(Tryz.prog.info? 52).map (λi=>(i.zero,i.size,i.bytes))=some (some .nilIface,1,16):=K_
def cwYk1_{p:Prop}(h:p:=by
 obtain⟨d,H⟩:=q;(first|(have:=cc1;have U:=hgo _ d H hp)|(have U:=hgo d H hp));(first|(have:=cc1;have hst:=zy (show jD (rdT s (zx ds) pl f) fs ld j=some (ld++[d],H) by unfold jD;rw[hnn.o,hd];simp only;rw[hp];rfl))|(have hst:=zy (show wZ (rdT s (zx ds) pl f t) l j=some (l++[d],H) by unfold wZ;rw[hp];rfl)));replace hp:=zy hp;obtain⟨ti,O,Q,S,T⟩:=info_parts qP;(try have:=cc1;clear hgo);go_in;go_wp2_with (first
  |(go_at_call 78;apply hC.o.mono;rintro e w1 ⟨v1,ev1,rfl,hf1,hm⟩;rw[hp.o]at hm;obtain⟨rfl,B,h1,hj1⟩:=hm;obtain⟨dT,z,rfl⟩:=B.iface;(first|(have:=cc1;have m:=L1.o.call h1 hf1 hj1 (by rw[hnn.o];omega))|(have L1:=L.o.call h1 hf1 hj1 M_));(first|(have:=cc1;clear k0 c20 c31)|(obtain⟨lv,V,Y,I,X⟩:=L.o.row));(first|(have:=cc1;have b:=(hf1.bl (hA1.o.bl r1.o id) M_))|(have r3:=zy I.lt));(first|(have:=cc1;have r3:=zj (zj r2.o hA1.o u_) hf1 (λg hg e=>(o1_ (r2.o.lt g hg))))|(have r1:=hf1.bl V M_));(first|(have:=cc1;have a0:=zy (λi d (e:ld[i]?=some d)=>((rY.o i d e).fr hA1.o u_).fr hf1 (λg hg e=>zt_)))|(have r2:=zj I hf1 (λg hg e=>(o1_ (I.lt g hg)));have rY:=zy (λi d (e:l[i]?=some d)=>(X i d e).fr hf1 (λg hg e=>zt_));obtain⟨la,lc,rfl⟩:=zw r2));replace B:=zy B;(first|(have:=cc1;have k0:=b.c0)|(clear V I X));(first|(have:=cc1;have I:=b.th 0)|(have k0:=r1.c0));(first|(have:=cc1;have H:=m.hB)|(have I:=r1.th 0));(first|(have:=cc1;replace m:=zy m)|(have H:=L1.hB));(first|(have:=cc1;replace b:=zy b)|(replace L1:=zy L1));(first|(have:=cc1;replace r3:=zy r3)|(replace r1:=zy r1;replace r2:=zy r2));clear hf1 h1)
  |(at_builtin;go_must ((first|(have:=cc1;refine wpList_append_own_at _ rfl _ _ 152 rfl (w.heap.size+3) 52 ti _ 1 16 Zi O Q S T rfl D_ (.slice la n lc) n ((List.range n).flatMap λi=>[Y i]) rfl ?hown _ 1 1 [.iface dT z] rfl rfl (zK _ #[.iface dT z] _ _ ?nn) ?one ?b1 ?b2 ?b3 ?_)|(refine wpList_append_own_at _ rfl _ _ 144 rfl (w.heap.size+3) 52 ti _ 1 16 sF O Q S T rfl D_ (.slice la l.length lc) l.length ((List.range l.length).flatMap λi=>[Y i]) rfl ?hown _ 1 1 [.iface dT z] rfl rfl (zK _ #[.iface dT z] _ _ ?nn) ?one ?b1 ?b2 ?b3 ?_)))
    case hown=>(first|(have:=cc1;exact World.ownsRow.alloc r3.o _)|(exact World.ownsRow.alloc r2.o _))
    case nn=>simp
    case one=>simp[Value.oneCell']
    case b1=>unfold maxLen;omega
    case b2=>omega
    case b3=>simp;omega
    intro z a A J Z K
    (first|(have:=cc1;have r:Fr w1 a (λg=>(Value.slice la n lc).ownBlock=some g):=Y_ ((A_ w1 _).alloc _) J (λk e _=>e))|(have r:Fr w1 a (λg=>(Value.slice la l.length lc).ownBlock=some g):=Y_ ((A_ w1 _).alloc _) J (λk e _=>e)))
    (first|(have:=cc1;have y:=r.bl b.o (λe=>o1_ (r3.o.lt _ e)))|(have b:=(r.bl r1.o (λe=>o1_ (r2.o.lt _ e))).cell 0))
    (first|(have:=cc1;have b:=y.c0)|(have f5:=(r.bl r1.o (λe=>o1_ (r2.o.lt _ e))).th 0))
    (first|(have:=cc1;have f5:=y.th 0)|(have y:=r.bl r1.o (λe=>o1_ (r2.o.lt _ e));simp only[aa_]at b))
    have C:∀g,z.ownBlock=some g->w.heap.size+3<=g:=(λg hg=>(A.lt g hg).1)
    obtain⟨x,u,rfl⟩:=zg A M_
    replace r:=zy r
    replace A:=zy A
    replace y:=zy y
    replace C:=zy C
    (first|(have:=cc1;have N:H_ ((Value.slice (some ⟨x,0,none⟩) (n+1) u).ownBlock=(Value.slice la n lc).ownBlock\/∃h,(Value.slice (some ⟨x,0,none⟩) (n+1) u).ownBlock=some h/\w1.heap.size<=h):=zy (K.imp id (λe=>⟨_,e,by simp⟩)))|(have N:H_ ((Value.slice (some ⟨x,0,none⟩) (l.length+1) u).ownBlock=(Value.slice la l.length lc).ownBlock\/∃h,(Value.slice (some ⟨x,0,none⟩) (l.length+1) u).ownBlock=some h/\w1.heap.size<=h):=zy (K.imp id (λe=>⟨_,e,by simp⟩))))
    clear J K Z))
 try go_ret
 rw[Q_.o];refine⟨_,rfl,?_⟩;rw[hst.o];refine⟨rfl,U,?_⟩;(first|(have:=cc1;have z:Fr a (a.setCell ⟨w.heap.size+2,0,none⟩ (S_ x (n+1) u)) (λg=>g=w.heap.size+2):=(A_ a (λg=>g=w.heap.size+2)).setCell ⟨w.heap.size+2,0,none⟩ _ (λ_=>rfl))|(have z:Fr a (a.setCell ⟨w.heap.size+2,0,none⟩ (.slice (some ⟨x,0,none⟩) (l.length+1) u)) (λg=>g=w.heap.size+2):=(A_ a (λg=>g=w.heap.size+2)).setCell ⟨w.heap.size+2,0,none⟩ _ (λ_=>rfl)));(first|(have:=cc1;have b:Fr w1 (a.setCell ⟨w.heap.size+2,0,none⟩ (S_ x (n+1) u)) (λg=>w.heap.size+2<=g):=(r.o.mono (λg _ e=>o1_ (r3.o.lt g e))).trans z (λg _ e=>M_))|(have b:Fr w1 (a.setCell ⟨w.heap.size+2,0,none⟩ (.slice (some ⟨x,0,none⟩) (l.length+1) u)) (λg=>w.heap.size+2<=g):=(r.o.mono (λg _ e=>o1_ (r2.o.lt g e))).trans z (λg _ e=>M_)));(first|(have:=cc1;have a:=m.o.M)|(have a:=L1.o.M));have u:=a.brG;(first|(have:=cc1;have u:=m.o.lt)|(have u:=L1.o.lt));have u:∀g,P g->¬(w.heap.size+2<=g):=λg hg=>by have:=a.Pbr g hg;omega
 (first|(have:=cc1;exact⟨m.o.sub,⟨b.bl a.R M_,a.D.fr b u,a.G.fr b (o1_ a.lt) (λg e=>M_),a.E,a.Pbr,a.brG,a.hs,a.il⟩,m.o.fr.trans b (λg hg e=>M_),m.o.lt,al_ m.o.hB b.size,b.bl m.o.b2 M_,b.bl m.o.b3 M_,m.o.F.fr b u,by rw[ag_,hnn.o,ao_];omega,by rw[ag_,hnn.o,ao_];omega,_,y.o.set 0 _,jY.grow (t:=tt) (c:=w.heap.size+2) a0.o (by rw[hsb.o];exact(B.o.mono (λg _ hg=>⟨by have:=L.o.hB;rw[hz1.o]at hg;omega,λe=>by have:=r2.o.lt g e;rw[hz1.o]at hg;omega⟩))) ((r.o.mono (λ_ _ e=>.inl e)).trans z (λ_ _ e=>.inr e)) M_ N.o (by rw[hnn.o];exact zj A.o z (λg hg e=>o1_ (C.o g hg)))⟩)|(exact⟨⟨b.bl a.R M_,a.D.fr b u,a.G.fr b (o1_ a.lt) (λg e=>M_),a.E,a.Pbr,a.brG,a.hs,a.il⟩,L1.o.fr.trans b (λg hg e=>M_),L1.o.lt,al_ L1.o.hB b.size,b.bl L1.o.b2 M_,b.bl L1.o.b3 M_,L1.o.ty.fr b u,by rw[ag_,ao_];omega,_,y.o.set 0 _,jY.grow (t:=.wrap 91 0 t) (c:=w.heap.size+2) rY.o (B.o.mono (λg _ hg=>⟨o1_ L.o.hB,λe=>o1_ (r3.o g e)⟩)) ((r.o.mono (λ_ _ e=>.inl e)).trans z (λ_ _ e=>.inr e)) M_ N.o (zj A.o z (λg hg e=>o1_ (C.o g hg)))⟩))):p:=h
def Yk{w0 w:Aw}{P:Az}{ss:BA}{ds:Ar}{sv rv:Ax}{xs:Ay}{s:BA}{nt:Av}{nx:Ax}{pl:Aq}{br i:Nat}{t:PT}{p:Int}{l:Ae}{j:Nat}{W:Aw}(L:LI w0 w P ss ds sv rv xs s nt nx pl br i t p (.iface vT vx) l j W)(r:yM w0)(u:jC w0 P ss ds sv rv xs s nt nx pl br f t j)(hgo:∀d j',rdT s (zx ds) pl f t j=some (d,j')->j<j'):Calls prog 173 #[P_ w.heap.size,.pointer (some ⟨w.heap.size+1,0,none⟩),.pointer (some ⟨w.heap.size+2,0,none⟩)] W λe W'=>∃v,e=.returned v/\match wZ (rdT s (zx ds) pl f t) l j with|some (l',j')=>v=.nilIface/\j<j'/\LI w0 w P ss ds sv rv xs s nt nx pl br i t p (.iface vT vx) l' j' W'|none=>(∃T x,v=.iface T x)/\Zb w sv rv s nt nx pl br v W':=by
 refine hq_ λC Q_=>?_;have hC:=zy (u W _ L.M L.ty);have c20:=L.b2.c0;have c31:=L.b3.c1;have u:=L.M.il;have u:=L.M.hs;have u:=L.c;have u:=L.lt;replace L:=zy L;cases hp:rdT s (zx ds) pl f t j with
 |none=>
  have hst:=zy (show wZ (rdT s (zx ds) pl f t) l j=none by unfold wZ;rw[hp];rfl);replace hp:=zy hp;go_in;go_wp2_with (first
   |(go_at_call 78;apply hC.o.mono;rintro e w1 ⟨v1,ev1,rfl,hf1,hm⟩;rw[hp.o]at hm;obtain⟨rfl,b,A,h1,hj1⟩:=hm;obtain⟨u,u,rfl⟩:=b.iface;have h:=(L.o.M.call h1 hf1 hj1).G;obtain⟨lv,r1,r2⟩:=L.o.row;obtain⟨ys,r3⟩:=r2.row;obtain⟨la,lc,rfl⟩:=zw r3;have k0:=(hf1.bl r1 M_).c0;replace hf1:=zy hf1;replace b:=zy b;replace h1:=zy h1;replace h:=zy h)
   |(go_at_call 174;apply(YB (n:=l.length) r h M_).mono;intro e h y;obtain⟨m,B,rfl,h,k,a⟩:=y;replace a:=zy a;replace k:=zy k))
  try go_ret
  rw[Q_.o];refine⟨_,rfl,?_⟩;rw[hst.o];have h:=(L.o.fr.trans hf1 u_).size;have z:=L.o.fr.size;exact⟨⟨_,_,rfl⟩,(L.o.fr.trans hf1 u_).trans a v_,.within m M_ B k ((b.o.ls z).fr a u_),A,a.o.bl h1 id,hj1⟩
 |some q=>
  exact cwYk1_
def Wu{w0 w:Aw}{P:Az}{ss:BA}{ds:Ar}{sv rv:Ax}{xs:Ay}{s:BA}{nt:Av}{nx:Ax}{pl:Aq}{br i:Nat}{t:PT}{p:Int}(M:NC w0 P ss ds sv rv xs s nt nx pl br i w)(d:TyV w P t (.iface vT vx)){W':Aw}(h:yw W' br sv rv s (i+1) (!pl))(hf:Fr (((w.alloc (.cells #[P_ br] 199)).alloc (.cells #[Z_ p,.iface vT vx] 222)).alloc (.cells #[L_] 144)) W' (· = br))(hi:i+1<=s.size):LI w0 w P ss ds sv rv xs s nt nx pl br i t p (.iface vT vx) [] (i+1) W':=by
 have k:=M.lt;have A:Fr w (((w.alloc (.cells #[P_ br] 199)).alloc (.cells #[Z_ p,.iface vT vx] 222)).alloc (.cells #[L_] 144)) N_:=(((A_ w _).alloc _).alloc _).alloc _;have hz:(((w.alloc (.cells #[P_ br] 199)).alloc (.cells #[Z_ p,.iface vT vx] 222)).alloc (.cells #[L_] 144)).heap.size=w.heap.size+3:=x6_
 have m:(w.alloc (.cells #[P_ br] 199)).heap.size=w.heap.size+1:=x6_
 have o:((w.alloc (.cells #[P_ br] 199)).alloc (.cells #[Z_ p,.iface vT vx] 222)).heap.size=w.heap.size+2:=x6_
 have c:=((B_ w #[P_ br] 199).alloc (.cells #[Z_ p,.iface vT vx] 222)).alloc (.cells #[L_] 144);have a:=(B_ (w.alloc (.cells #[P_ br] 199)) #[Z_ p,.iface vT vx] 222).alloc (.cells #[L_] 144);have b:=B_ ((w.alloc (.cells #[P_ br] 199)).alloc (.cells #[Z_ p,.iface vT vx] 222)) #[L_] 144;rw[m]at a;rw[o]at b;have m:=hf.size;exact⟨(M.new A).call h hf hi,(A.mono v_).trans hf u_,k,M_,hf.bl c M_,hf.bl a M_,(d.fr A u_).fr hf (λg hg e=>M.brP (e▸hg)),by simp,_,hf.bl b M_,jY.nil _ _ _ _ _⟩
def cwJj1_{p:Prop}(h:p:=by
 obtain⟨u,u⟩:=q;rw[hp]at hres;replace hp:=zy hp;go_in;go_wp2_with (go_at_call 172;apply hC.o.mono;rintro e w2 ⟨v2,rfl,hm⟩;rw[hp.o]at hm;obtain⟨rfl,b⟩:=hm;(first|(have:=cc1;obtain⟨lv,ys,r1,a,r,c⟩:=b.row)|(obtain⟨lv,r1,a⟩:=b.row));(first|(have:=cc1;obtain⟨k,m,rfl⟩:=zw a)|(obtain⟨ys,c⟩:=a.row;obtain⟨k,m,rfl⟩:=zw c));have k0:=r1.c0;(first|(have:=cc1;have d:=zy ((show qe (zx ds) _ _ (.wrap 123 q0 t) _ _ from c).dat (Q:=λg=>w.heap.size<=g) a (λg _ hg=>zt_) (λg hg=>(o1_ (a.lt g hg)))))|(have d:=zy ((show jY (zx ds) _ _ _ (.wrap 91 q0 t) _ _ from a).dat (Q:=λg=>w.heap.size<=g) (λg _ hg=>zt_) (λg hg=>(o1_ (c.lt g hg))) (.inl ⟨rfl,rfl⟩))));replace b:=zy b;(first|(have:=cc1;clear r1 a r c)|(clear r1 a c)));try go_ret
 rw[Q_.o,hres.o];exact nok d.o b.o.fr b.o.M.R b.o.M.il):p:=h
def Jj{q0:Nat}{w0 w:Aw}{P:Az}{ss:BA}{ds:Ar}{sv rv:Ax}{xs:Ay}{s:BA}{nt:Av}{nx:Ax}{pl:Aq}{br i:Nat}{t:PT}{p:Int}(M:NC w0 P ss ds sv rv xs s nt nx pl br i w)(x:TyV w P t (.iface vT vx))(r:yM w0)(u:∀j,i<j->j<=s.size->jC w0 P ss ds sv rv xs s nt nx pl br f t j):Calls prog 123 #[P_ br,.agg #[Z_ p,.iface vT vx]] w (yx (zx ds) (.wrap 91 q0 t) w sv rv s nt nx pl br (xH (rdT s (zx ds) pl f t) s 91 i)):=by
 refine hq_ λm Q_=>?_;have D:s.size<=4000:=y7_
 have A:Fr w (((w.alloc (.cells #[P_ br] 199)).alloc (.cells #[Z_ p,.iface vT vx] 222)).alloc (.cells #[L_] 144)) N_:=(((A_ w _).alloc _).alloc _).alloc _;have y:=vD s (zx ds) pl f t;have m:ea sv rv s nt nx pl br 173 #[P_ w.heap.size,.pointer (some ⟨w.heap.size+1,0,none⟩),.pointer (some ⟨w.heap.size+2,0,none⟩)] (wZ (rdT s (zx ds) pl f t)) (λl j W=>LI w0 w P ss ds sv rv xs s nt nx pl br i t p (.iface vT vx) l j W) (Zb w sv rv s nt nx pl br):=
  { F:=λW=>by kernel_rfl
    R:=λh=>⟨h.M.R,h.M.il,h.M.e⟩
    K:=λh h1 g k z=>h.call h1 g k (o1_ h.c)
    B:=λh=>⟨h.fr,.base,_,h.M.R,h.M.il⟩
    C:=λ{l j W} h=>(Yk h r (u j (o1_ h.c) h.M.il) (λd j' e=>(y j d j' e).1)).mono (by
     rintro e W' ⟨v,he,hm⟩
     refine⟨v,he,?_⟩
     cases z:wZ (rdT s (zx ds) pl f t) l j with
     |none=>rw[z]at hm;exact hm
     |some q=>obtain⟨a,b⟩:=q;rw[z]at hm;exact hm) }
 have hC:=zy (fS m (w:=(((w.alloc (.cells #[P_ br] 199)).alloc (.cells #[Z_ p,.iface vT vx] 222)).alloc (.cells #[L_] 144))) (σ:=([]:List DT)) (i:=i) (co:=91) (cf:=93) 91 93 (A.bl M.R id) M.il (λW' h hf hi=>Wu M x h hf hi) (λW' h hf=>⟨⟨(A.mono v_).trans hf u_,.base,i,h,M.il⟩,((M.new A).call h hf M.il).e⟩) D rfl rfl D_ D_);have hres:=zy (Js (rdT s (zx ds) pl f t) s i);cases hp:jt (wZ (rdT s (zx ds) pl f t)) s 91 93 [] i with
 |none=>
  rw[hp]at hres;replace hp:=zy hp;go_in;go_wp2_with (go_at_call 172;apply hC.o.mono;rintro e w2 ⟨v2,rfl,hm⟩;rw[hp.o]at hm;obtain⟨⟨m,m,rfl⟩,hB⟩:=hm;replace hB:=zy hB);try go_ret
  rw[Q_.o,hres.o];obtain⟨h1,g,k⟩:=hB.o;exact⟨.nilIface,_,rfl,h1,rfl,g,k⟩
 |some q=>
  exact cwJj1_
def jD(R:Aj)(fs:An)(l:Ae)(j:Nat):Option (List DT×Nat):=
 match fs[l.length]? with|none=>none|some g=>(R g.ty j).map (λq=>(l++[q.1],q.2))
def ko(len:Nat):Option (List DT×Nat)->Option (DT×Nat)
 |none=>none
 |some (l,j)=>if l.length<len then none else some (.mk 114 0 noB [] l,j)
def uA(s:BA)(l:Ae):Option (List DT×Nat)->Option (DT×Nat)
 |none=>none
 |some (r,e)=>if bt s e=41 then some (.mk 114 0 noB [] (l++r),e+1) else none
def iW(R:Aj)(s:BA)(fs:An)(b:∀t,Qe s (R t)):∀N l j,l.length<fs.length->j<=s.size->s.size+1-j<=N->
 ko fs.length (jj (jD R fs) s 41 N l j)=uA s l (zQ R s true ((fs.drop l.length).map PF.ty) j):=by
 intro N;induction N with
 |zero=>intro l j _ c a;omega
 |succ N ih=>
  intro l j hk c a;rw[jj,bs_ hk,a0_,zQ,i_ rfl];simp only[jD,aj_ hk];cases a:R (fs[l.length]).ty j with
  |none=>rfl
  |some q=>
   obtain⟨d,j'⟩:=q;have c:=b _ j d j' a;have e:(l++[d]).length=l.length+1:=x6_
   simp only[by_];by_cases a:bt s j'=41
   .rw[i_ a];by_cases b:l.length+1<fs.length
    .rw[bs_ b,a0_,zQ];simp only[a1_,if_false];rw[n_ M_];simp only[ko,uA];rw[i_ M_]
    .rw[b0_ M_,bn_,zQ];simp only[ko,uA];rw[n_ M_,i_ a]
   .rw[n_ a];by_cases c:bt s j'=44
    .rw[i_ c];have g:=zp (s:=s) (i:=j') M_;by_cases b:l.length+1<fs.length
     .have:=ih (l++[d]) (j'+1) M_ g M_;rw[this,e];rw[bs_ b,a0_,zQ,zQ,i_ rfl];simp only[a1_,if_false];rw[i_ c];cases R (fs[l.length+1]).ty (j'+1) with
      |none=>rfl
      |some q=>
       obtain⟨e,e⟩:=q;simp only;cases zQ R s false ((fs.drop (l.length+1+1)).map PF.ty) e with
       |none=>rfl
       |some q=>
        simp only[uA,bx_,bk_,bq_]
     .rw[b0_ M_,bn_,zQ];have hn:jj (jD R fs) s 41 N (l++[d]) (j'+1)=none:=by
       cases N with
       |zero=>rfl
       |succ N=>rw[jj];simp only[jD];rw[bm_ M_]
      rw[hn];simp only[ko,uA];rw[n_ a]
    .rw[n_ c];by_cases b:l.length+1<fs.length
     .rw[bs_ b,a0_,zQ];simp only[a1_,if_false];rw[n_ c];rfl
     .rw[b0_ M_,bn_,zQ];simp only[ko,uA];rw[n_ a]
def eN(env:Au):Prop:=∀c l o,env c=some (.enum l o)->∀q∈l,zl q.1=true
def BS{s:BA}{pl:Aq}(g:eN env){i:Nat}(h:bt s i=41):∀(f:Nat) (t:PT),okT env t->rdT s env pl f t i=none:=by
 intro f;induction f with
 |zero=>intro t _;rfl
 |succ f ih=>
  intro t b;cases t with
  |leaf c p=>
   rw[rdT];unfold xz;split
   .rw[n_ M_]
   .split
    .rw[n_ M_,n_ M_]
    .split
     .have d:vp s c i=none:=by
       unfold vp;rw[n_];intro a;have hz:(zM s i).size=0:=by
        unfold zM zI;have e:sgn s i=i:=by unfold sgn;rw[n_ M_]
        rw[e,vO M_,a6_];omega
       exact absurd a.1 M_
      rw[d]
     .split
      .rw[n_ M_]
      .cases he:env c with
       |none=>rfl
       |some pb=>
        simp only;unfold yv;cases pb with
        |recd fs=>simp only;rw[n_ M_]
        |enum l o=>
         simp only;split
         .have:(l.map Prod.fst).findIdx? (λc=>c==bt s i)=none:=by
           rw[List.findIdx?_eq_none_iff];intro x hx;obtain⟨q,a,rfl⟩:=a7_.1 hx;have:=g c l o he q a;obtain⟨k,hk,_⟩:=kS this;rw[h,beq_eq_false_iff_ne];omega
          rw[this]
         .rfl
        |bytes n=>simp only;rw[n_ M_]
  |wrap c p t=>
   unfold okT at b;rw[rdT];unfold xH;rw[n_ M_]
  |alts p ts=>
   rw[rdT];unfold yQ;cases pl with
   |false=>rw[n_ D_,n_ (λa=>M_)]
   |true=>
   rw[i_ rfl];cases ts with
   |nil=>rfl
   |cons t r=>
    simp only;have d:okT env t:=by
     unfold okT at b;have a:=b.2;unfold ZO at a;exact a.2.1
    rw[ih t d]
structure RI(tt:PT)(w0 w:Aw)(P:Az)(ss:BA)(ds:Ar)(sv rv:Ax)(xs:Ay)(s:BA)(nt:Av)(nx:Ax)(pl:Aq)(br i:Nat)(fs:An)(p:Int)(fv:Ax)(zs:Ay)(l:Ae)(j:Nat)(W:Aw):Prop where
 sub:∀k g,fs[k]?=some g->yg (zx ds) tt 0 k=g.ty
 M:NC w0 P ss ds sv rv xs s nt nx pl br j W
 fr:Fr w W (· = br)
 lt:br<w.heap.size
 hB:w.heap.size+3<=W.heap.size
 b2:Blk W w.heap.size [P_ br] 199
 b3:Blk W (w.heap.size+1) [Z_ p,fv] 231
 F:xh W P ss fs fv zs
 c:i+l.length<j
 nl:l.length<=fs.length
 row:∃lv,Blk W (w.heap.size+2) [lv] 152/\jY (zx ds) W (w.heap.size+3) (λg=>w.heap.size+3<=g/\lv.ownBlock≠some g) tt lv l
section
variable {tt:PT} {w0 w:Aw} {P:Az} {ss:BA} {ds:Ar} {sv rv:Ax} {xs:Ay} {s:BA} {nt:Av} {nx:Ax} {pl:Aq} {br i:Nat} {fs:An} {p:Int} {fv:Ax} {zs:Ay} {l:Ae} {j j':Nat} {W W':Aw}
def RI.call(L:RI tt w0 w P ss ds sv rv xs s nt nx pl br i fs p fv zs l j W)(h:yw W' br sv rv s j' (!pl))(hf:Fr W W' (· = br))(b:j'<=s.size)(hc:i+l.length<j'):RI tt w0 w P ss ds sv rv xs s nt nx pl br i fs p fv zs l j' W':=by
 have h1:=L.lt;obtain⟨lv,r1,a⟩:=L.row;obtain⟨ys,c⟩:=a.row;exact⟨L.sub,L.M.call h hf b,L.fr.trans hf u_,L.lt,al_ L.hB hf.size,hf.bl L.b2 M_,hf.bl L.b3 M_,L.F.fr hf (λg hg e=>L.M.brP (e▸hg)),hc,L.nl,lv,hf.bl r1 M_,a.fr hf (λg hg e=>M_) (λg hg e=>o1_ (c.lt g hg))⟩
def RI.new(L:RI tt w0 w P ss ds sv rv xs s nt nx pl br i fs p fv zs l j W)(hf:Fr W W' N_):RI tt w0 w P ss ds sv rv xs s nt nx pl br i fs p fv zs l j W':=L.call (hf.bl L.M.R id) (hf.mono v_) L.M.il L.c
end
def Zi:Tryz.prog.underlying 152=some (.slice 52):=K_
def cwVO1_{p:Prop}(h:p:=by
 (first|(have:=cc1)|(have hst:=zy (show jD (rdT s (zx ds) pl f) fs ld j=none by unfold jD;rw[hnn.o,hd];simp only;rw[hp];rfl)));replace hp:=zy hp;go_in;go_wp2_with (first
  |(go_at_call 78;apply hC.o.mono;rintro e w1 ⟨v1,ev1,rfl,hf1,hm⟩;rw[hp.o]at hm;obtain⟨rfl,b,r,h1,hj1⟩:=hm;obtain⟨u,u,rfl⟩:=b.iface;(first|(have:=cc1;have u:=zy ((M0.o.call h1 hf1 hj1).G))|(have u:=(hf1.bl N1.o M_).c1));replace hf1:=zy hf1;replace b:=zy b;replace h1:=zy h1)
  |((first|go_at_call 181|go_at_call 187);(first|(have:=cc1;apply(iU (n:=k) hI u.o hk4).mono)|(apply(oJ hls).mono));intro e u y;obtain⟨m,x,rfl,u,d,a⟩:=y;replace a:=zy a;replace d:=zy d))
 try go_ret
 (first|(have:=cc1;rw[Q_.o,hp.o])|(rw[Q_.o]));(first|(have:=cc1;have c:=(A.o.mono (T:=λg=>g=br) v_).trans hf1.o u_)|(refine⟨_,rfl,?_⟩;rw[hst.o];have c:=L1.o.fr.trans hf1.o u_));have u:=c.size;(first|(have:=cc1;exact⟨.nilIface,_,rfl,c.trans a.o v_,rfl,.within m M_ x d.o ((b.o.ls hsz).fr a.o u_),r,a.o.bl h1.o id,hj1⟩)|(have z:=L1.o.fr.size;exact⟨⟨_,_,rfl⟩,c.trans a.o v_,.within m M_ x d.o ((b.o.ls z).fr a.o u_),r,a.o.bl h1.o id,hj1⟩))):p:=h
def VO{tt:PT}{w0 w:Aw}{P:Az}{ss:BA}{ds:Ar}{sv rv:Ax}{xs:Ay}{s:BA}{nt:Av}{nx:Ax}{pl:Aq}{br i:Nat}{fs:An}{p:Int}{fa:Am}{fc:Nat}{zs:Ay}{ld:Ae}{j:Nat}{W:Aw}(L:RI tt w0 w P ss ds sv rv xs s nt nx pl br i fs p (.slice fa fs.length fc) zs ld j W)(C:∀g∈fs,zl g.letter=true)(D:fs.length<=300)(b:∀g∈fs,jC w0 P ss ds sv rv xs s nt nx pl br f g.ty j)(hgo:∀t d j',rdT s (zx ds) pl f t j=some (d,j')->j<j'):Calls prog 180 #[.pointer (some ⟨w.heap.size+2,0,none⟩),.pointer (some ⟨w.heap.size+1,0,none⟩),P_ w.heap.size] W λe W'=>∃v,e=.returned v/\match jD (rdT s (zx ds) pl f) fs ld j with|some (l',j')=>v=.nilIface/\j<j'/\RI tt w0 w P ss ds sv rv xs s nt nx pl br i fs p (.slice fa fs.length fc) zs l' j' W'|none=>(∃T x,v=.iface T x)/\Zb w sv rv s nt nx pl br v W':=by
 refine hq_ λD Q_=>?_;have c20:=L.b2.c0;have c31:=L.b3.c1;have D:=L.M.il;have D:=L.M.hs;have a:=L.c;have D:=L.lt;have B:=L.nl;have D:=L.hB;have l2:w.heap.size<W.heap.size:=M_;obtain⟨lv,r1,Y,r2,rY⟩:=L.row;obtain⟨la,lc,rfl⟩:=zw r2;obtain⟨n,hnn⟩:=x_ ld.length;rw[hnn]at r1 r2 rY B a;have k0:=r1.c0;by_cases hn:n=fs.length
 .have hst:=zy (show jD (rdT s (zx ds) pl f) fs ld j=none by unfold jD;rw[bm_ M_]);have a:=L.M.e;replace L:=zy L;subst hn;go_in;go_wp2;try go_ret
  rw[Q_.o];refine⟨_,rfl,?_⟩;rw[hst.o];exact⟨⟨_,_,rfl⟩,L.o.fr,.base,j,L.o.M.R,L.o.M.il⟩
 .have a:n<fs.length:=M_;have B:((n:Int)==(fs.length:Int))=false:=x1_
  have hd:fs[n]?=some fs[n]:=aj_ a;have m:fs[n]∈fs:=bi_ a;generalize fs[n]=g0 at hd m;have a:(n:Int)<(fs.length:Int):=M_;obtain⟨g,a,a⟩:=zg L.F.row M_;cases a;obtain⟨T,x,d0,c0,c1,c2,c3,u,z⟩:=L.F.cells hd;obtain⟨l,h⟩:=x_ g0.letter;obtain⟨r,y⟩:=x_ g0.place;have hls:zl l=true:=by rw[<- h];exact C _ m
  have hsb:=zy (show yg (zx ds) tt 0 ld.length=g0.ty by rw[hnn];exact L.sub n g0 hd);rw[h]at c1;rw[y]at c0;have a:=(A_ W N_).alloc (.cells #[I_ r,U_ l,.iface T x,.pointer d0] 194);have N1:=B_ W #[I_ r,U_ l,.iface T x,.pointer d0] 194;have L1:=L.new a;have hC:=zy (b _ m _ _ L1.M (u.fr a u_));have hz1:=zy (by simp:(W.alloc (.cells #[I_ r,U_ l,.iface T x,.pointer d0] 194)).heap.size=W.heap.size+1);replace L1:=zy L1;replace N1:=zy N1;replace r2:=zy r2;replace rY:=zy rY;replace L:=zy L;replace hnn:=zy hnn;replace r1:=zy r1;have hA1:=zy a;cases hp:rdT s (zx ds) pl f g0.ty j with
  |none=>
   exact cwVO1_
  |some q=>
   have cc1:=Nat;exact cwYk1_
end Go.Proofs.YtokgeopihcopeaaGreatDoor
