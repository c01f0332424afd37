import Derived.Test.YtahhhgbojlkjnaaGreatDoorW14
set_option maxHeartbeats 16000000
set_option maxRecDepth 100000
set_option linter.defProp false
set_option linter.unusedSimpArgs false
open Go.Proofs.Tryz
namespace Go.Proofs.YtahhhgbojlkjnaaGreatDoor
variable {w w':Aw}{s:BA}{q g b i j m cap x:Nat}{P S:Au}{ds:Ar}{xs:Az}{sv rv ex:Ax}{t:PT}{fs:Am}{f:PF}{seen:Ai}{p:Int}{l:Av}{d:PD}{et:As}
def dP(f:PF):List Nat:=match f.dflt with|none=>[]|some (a,_)=>[a]
def cq39_{p:Prop}(h:p:=by
 unfold zS at h;split at h
 .split at h
  ·(try have:=cc1;rename_i a;have hl:=zr (s:=s) (i:=i+1) M_);split at h
   .cases h
   .rename_i t k hp;(first|(have:=cc1;have:=Js hs (i:=i+2) M_ hp)|(obtain⟨h1,_⟩:=oe hp));(first|(have:=cc1;have hb:=(xR (s:=s) (i:=i+2) M_).1 t k hp)|(have hk:=h1.le));split at h
    .split at h
     .cases h
     .rename_i e hd;(first|(have:=cc1;have:=fm hd)|(have hb:=fm hd));simp only[ag_,ac_]at h;obtain⟨rfl,rfl⟩:=h;(first|(have:=cc1;exact⟨by assumption,M_⟩)|(exact⟨M_,by show k+1+1<=e+1;omega⟩))
    .simp only[ag_,ac_]at h;obtain⟨rfl,rfl⟩:=h;(first|(have:=cc1;exact⟨by assumption,M_⟩)|(show i<=k+1;omega))
  .cases h
 .cases h):p:=h
def Xq(h:zS s i=.ok (f,j)):Asc i (j+1) (dP f):=by
 exact cq39_
def eo(s:BA):∀(n i:Nat) (l:List PF) (j:Nat),xj s n i=.ok (l,j)->Asc i j (l.flatMap dP):=by
 have cc1:=Nat
 exact cq22_
def oY{l:Am}(h:yh s i=.ok (l,j)):Asc i j (l.flatMap dP):=by
 unfold yh at h;split at h
 .split at h
  .simp only[ag_,ac_]at h;obtain⟨rfl,rfl⟩:=h;show i<=i+2;omega
  .exact(eo s _ _ _ _ h).up M_
 .cases h
def Je{b:PB}(h:xu s i=.ok (b,j)):Asc i j (b.fs.flatMap dP):=by
 have cc1:=Nat
 exact cq30_
def Xw(s:BA):∀(n i:Nat) (ds:List PD) (j:Nat),yd s n i=.ok (ds,j)->Asc i j ((zp ds).flatMap dP):=by
 intro n;induction n with
 |zero=>
  intro i ds j h;simp only[yd,ag_,ac_]at h;obtain⟨rfl,rfl⟩:=h;exact l_
 |succ n ih=>
  intro i ds j h;unfold yd at h;split at h
  .split at h
   .split at h
    .cases h
    .rename_i b k hb;have b3:=Je hb;split at h
     .split at h
      .cases h
      .rename_i c e hr;simp only[ag_,ac_]at h;obtain⟨rfl,rfl⟩:=h;have a:=ih _ _ _ hr;rw[jA,bj_];exact(b3.up M_).append (a.up M_)
     .cases h
   .cases h
  .simp only[ag_,ac_]at h;obtain⟨rfl,rfl⟩:=h;exact l_
def oZ(h:zQ s=.ok (ds,t)):∃lo hi,Asc lo hi ((zp ds).flatMap dP):=by
 have cc1:=Nat
 exact cq38_
def WN{lo e:Nat}{L M:Ai}(h:Asc lo e (L++M)):(∀x∈L,∀y∈M,x<y)/\∃m,Asc m e M:=by
 induction L generalizing lo with
 |nil=>exact⟨λx hx=>by simp at hx,lo,h⟩
 |cons a r ih=>
  obtain⟨h1,c⟩:=h;obtain⟨k,e⟩:=ih c;refine⟨λx hx y hy=>?_,e⟩;rcases aq_.1 hx with rfl|hx
  .have:=Asc.ge c y (b7_ _ hy);omega
  .exact k x hx y hy
def Qs:∀(l:List PF){lo hi:Nat},Asc lo hi (l.flatMap dP)->∀(i j:Nat) (f g:PF) (a e a' e':Nat),i<j->l[i]?=some f->l[j]?=some g->f.dflt=some (a,e)->g.dflt=some (a',e')->a<a'
 | [],_,_,_,i,j,f,g,a,e,a',e',_,hf,_,_,_=>by simp at hf
 |x::r,lo,hi,h,i,j,f,g,a,e,a',e',hij,hf,hg,hfa,hga=>by
  rw[bo_]at h;obtain⟨h1,m,c⟩:=WN h;cases i with
  |zero=>
   simp only[aa_,ae_]at hf;subst hf;obtain⟨j,rfl⟩:∃k,j=k+1:=⟨j-1,M_⟩;rw[ab_]at hg;refine h1 a (by simp[dP,hfa]) a' (ch_.2 ⟨g,al_ hg,by simp[dP,hga]⟩)
  |succ i=>
   obtain⟨j,rfl⟩:∃k,j=k+1:=⟨j-1,M_⟩;rw[ab_]at hf hg;exact Qs r c i j f g a e a' e' M_ hf hg hfa hga
def Ge(h:zQ s=.ok (ds,t))(i j:Nat)(f g:PF)(a e a' e':Nat)(k:(zp ds)[i]?=some f)(hg:(zp ds)[j]?=some g)(n:f.dflt=some (a,e))(o:g.dflt=some (a',e'))(r:i≠j):a≠a':=by
 obtain⟨lo,c,c⟩:=oZ h;rcases Nat.lt_or_gt_of_ne r with hl|hl
 .have:=Qs _ c i j f g a e a' e' hl k hg n o;omega
 .have:=Qs _ c j i g f a' e' a e hl hg k o n;omega
open Go.RowKit
def XM(c:Nat)(ds:Ar):∀b a,(vp b c ds).map Prod.fst=(vp a c ds).map Prod.fst:=by
 induction ds with
 |nil=>intro b a;rfl
 |cons d r ih=>
  intro b a;simp only[vp];split
  .rfl
  .exact ih _ _
def XO(c:Nat):zx [] c=none:=rfl
def Zn(d:PD)(r:Ar)(c:Nat):zx (d::r) c=if d.letter=c then some d.body else zx r c:=by
 unfold zx;simp only[vp];split
 .rfl
 .exact XM c r _ _
def Zt(h:ds[q]?=some d)(c:Nat):zx (ds.drop q) c=if d.letter=c then some d.body else zx (ds.drop (q+1)) c:=by
 have hl:=(am_.1 h).1;rw[bc_ hl,Zn,(am_.1 h).2]
structure xf(w:Aw)(P:Au)(s:BA)(ds:Ar)(sv:Ax)(xs:Az):Prop where
 row:w.ownsRow 0 169 3 sv ds.length xs
 off:∀g,sv.ownBlock=some g->P g
 V:wb w P s ds xs
 len:ds.length<=6
def xf.fr(h:xf w P s ds sv xs)(c:Fr w w' S)(a:∀g,P g->¬S g):xf w' P s ds sv xs:=
 ⟨zk h.row c (λg hg=>a g (h.off g hg)),h.off,h.V.fr c a,h.len⟩
def xf.cells(h:xf w P s ds (S_ g m cap) xs)(n:ds[q]?=some d):∃T x,w.cell? ⟨g,q*3,none⟩=some (I_ d.place)/\w.cell? ⟨g,q*3+1,none⟩=some (U_ d.letter)/\w.cell? ⟨g,q*3+2,none⟩=some (.iface T x)/\yM w P s d.body (.iface T x):=by
 obtain⟨c,h1,a,e,k⟩:=h.V q d n;obtain⟨T,x,rfl⟩:=k.iface;have hm:=bu h.row;subst hm;rw[a7_]at h1 a e;exact⟨T,x,ze h.row rfl h1,ze h.row rfl a,ze h.row rfl e,k⟩
def ZV(ds:Ar)(xs:Az)(b:PB)(v:Ax):Prop:=∃q d,ds[q]?=some d/\d.body=b/\xs[3*q+2]?=some v
def xf.cellz(h:xf w P s ds (S_ g m cap) xs)(n:ds[q]?=some d):∃T x,w.cell? ⟨g,q*3,none⟩=some (I_ d.place)/\w.cell? ⟨g,q*3+1,none⟩=some (U_ d.letter)/\w.cell? ⟨g,q*3+2,none⟩=some (.iface T x)/\yM w P s d.body (.iface T x)/\ZV ds xs d.body (.iface T x):=by
 obtain⟨c,h1,e,a,k⟩:=h.V q d n;obtain⟨T,x,rfl⟩:=k.iface;have hz:ZV ds xs d.body (.iface T x):=⟨q,d,n,rfl,a⟩;have hm:=bu h.row;subst hm;rw[a7_]at h1 e a;exact⟨T,x,ze h.row rfl h1,ze h.row rfl e,ze h.row rfl a,k,hz⟩
def QN(w:Aw)(P:Au)(s:BA)(ds:Ar)(c:Nat)(e:Ah)(w':Aw):Prop:=
 ∃v,e=.returned v/\Fr w w' N_/\match zx ds c with|none=>v=.nilIface|some b=>yM w' P s b v
def GL(w:Aw)(P:Au)(s:BA)(ds:Ar)(xs:Az)(c:Nat)(e:Ah)(w':Aw):Prop:=
 ∃v,e=.returned v/\Fr w w' N_/\match zx ds c with|none=>v=.nilIface|some b=>yM w' P s b v/\ZV ds xs b v
def tu(c:Nat)(D:xf w P s ds sv xs):Calls prog 75 #[.agg #[sv,rv],U_ c] w (GL w P s ds xs c):=by
 refine hq_ λz h=>?_;obtain⟨u,y,rfl⟩:=zh D.row;have z:=D.len;have e:H_ (∃q:Nat,Value.int .i64 0=I_ q/\q<=ds.length/\ds.length+1-q<=ds.length+1/\Fr w (w.alloc (.cells #[.slice u ds.length y,rv] 65)) N_/\zx ds c=zx (ds.drop q) c):=zy ⟨0,rfl,aj_ _,M_,(A_ w _).alloc _,rfl⟩;replace D:=zy D;go_in;go_wp2;go_loopg [10] (ds.length+1) (λm v W=>∃q:Nat,v=I_ q/\q<=ds.length/\ds.length+1-q<=m/\Fr w W N_/\zx ds c=zx (ds.drop q) c);case atStart=>exact e
 case round=>
  obtain⟨q,rfl,e,hm,a,he⟩:=hrel;by_cases k:q<ds.length
  .have r:(q:Int)<(ds.length:Int):=M_;have hd:ds[q]?=some ds[q]:=ak_ k;generalize ds[q]=d at hd;obtain⟨g,cap,e⟩:=zu D.o.row M_;cases e;have e:=D.o.fr a u_;obtain⟨T,x,c0,c1,c2,hb,hz⟩:=e.cellz hd;replace hz:=zy hz;have n:=zy (hb.fr ((A_ wr N_).alloc (.cells #[I_ d.place,U_ d.letter,.iface T x] 169)) u_);rw[Zt hd]at he;replace e:=zy e;replace hb:=zy hb;replace a:=zy a;by_cases hc:d.letter=c
   .rw[i_ hc]at he;replace he:=zy he;subst hc;go_wp2;try go_ret
    rw[h.o];refine⟨_,rfl,a.o.alloc _,?_⟩;rw[he.o];exact⟨n,hz⟩
   .rw[n_ hc]at he;replace he:=zy he;have e:((d.letter:Int)==(c:Int))=false:=x4_
    go_wp2;go_roundg (ds.length+1-(q+1));case measure=>omega
    case rel=>exact⟨q+1,rfl,k,l_,a.o.alloc _,he⟩
  .have r:¬((q:Int)<(ds.length:Int)):=M_;rw[bz_ M_,XO]at he;replace he:=zy he;replace a:=zy a;go_wp2;try go_ret
   rw[h.o];refine⟨.nilIface,rfl,a,?_⟩;rw[he.o]
def qw(c:Nat)(D:xf w P s ds sv xs):Calls prog 75 #[.agg #[sv,rv],U_ c] w (QN w P s ds c):=by
 apply(tu (rv:=rv) c D).mono;rintro e w' ⟨v,h1,h,a⟩;refine⟨v,h1,h,?_⟩;cases he:zx ds c with
 |none=>rw[he]at a;exact a
 |some b=>rw[he]at a;exact a.1
set_option maxRecDepth 100000
set_option linter.defProp false
@[go_sem]def Kw:=xw 191 63
@[go_sem]def WI:=vR 191 63 (.agg #[O_])
@[go_sem]def GV:=xw 192 63
@[go_sem]def FE:=vR 192 63 (.agg #[O_])
@[go_sem]def PY:=xw 194 63
@[go_sem]def Bl:=vR 194 63 (.agg #[O_])
@[go_sem]def Py:=xw 196 63
@[go_sem]def PZ:=vR 196 63 (.agg #[O_])
@[go_sem]def FO:=xw 197 63
@[go_sem]def Pa:=vR 197 63 (.agg #[O_])
@[go_sem]def Px:=xw 199 63
@[go_sem]def ww:=vR 199 63 (.agg #[O_,.nilIface])
@[go_sem]def Po:=xw 201 63
@[go_sem]def gH:=vR 201 63 (.agg #[O_,.nilIface])
@[go_sem]def gL:=xw 205 63
@[go_sem]def vG:=vR 205 63 (.agg #[O_,L_])
@[go_sem]def Pz:=xw 208 63
@[go_sem]def tE:=vR 208 63 (.agg #[O_,.int .u8 0])
@[go_sem]def WS:=xw 210 63
@[go_sem]def GJ:=vR 210 63 (.agg #[O_,L_])
@[go_sem]def Pj:=xw 215 63
@[go_sem]def PX:=vR 215 63 (.agg #[O_,L_,.pointer none])
@[go_sem]def GQ:=xw 218 63
@[go_sem]def Pq:=vR 218 63 (.agg #[O_,O_])
def yI(w:Aw)(cause:Ax)(L:Ai)(e:Ah)(w':Aw):Prop:=
 ∃v,e=.returned v/\Fr w w' N_/\match L with | []=>v=.nilIface|x::_=>yq w' w.heap.size v (x:Int) cause
def vt(g:Nat)(w:Aw)(et:As)(ex:Ax):Prop:=w.cell? ⟨g,0,none⟩=some (.iface et ex)
def vt.fr(h:vt g w et ex)(e:Fr w w' S)(c:¬S g):vt g w' et ex:=
 (World.cell?_of_block (a:=⟨g,0,none⟩) (e.block _ (World.block_lt_of_cell? w ⟨g,0,none⟩ h) c)).trans h
def vV(p:Int)(w:Aw):Calls prog 76 #[Z_ p] w λe w'=>e=.returned (Z_ p)/\w'=w:=by
 go_in;go_wp2;go_ret;exact⟨rfl,rfl⟩
def jV(c:Nat):vI c≠199/\vI c≠201/\vI c≠205/\vI c≠208/\vI c≠210/\vI c≠215/\vI c≠218:=by
 unfold vI
 repeat' split
 all_goals decide
def pQ(t:PT):Prop:=∀(w:World) (P:Nat->Prop) (s:BA) (ds:List PD) (sv rv v:Value) (xs:List Value) (et:TypeId) (ex:Value),xf w P s ds sv xs->TyV w P t v->vt 1 w et ex->
 Calls prog 78 #[.agg #[sv,rv],v] w (yI w (.iface et ex) (vq (zx ds) (zK t)))
def YP(c p:Nat)(hc:zY c=true):pQ (.leaf c p):=by
 intro w P s ds sv rv v xs et ex D a k;refine hq_ λy e=>?_;have n:=zy (show vq (zx ds) (zK (.leaf c p))=[] by rw[zK,i_ hc];rfl);have r:v=.iface (vI c) (.agg #[I_ p]):=by
  cases a with
  |base _ _ h=>rfl
  |name _ _ h=>
   simp only[zY,av_,beq_iff_eq]at hc;simp only[zZ,a0_,decide_eq_true_eq]at h;omega
 subst r;clear a D k;obtain⟨u,hu⟩:=e_ (vI c);rw[<- hu];have hn:=jV c;rw[<- hu]at hn;have z:=ww u hn.1;have A:=gH u hn.2.1;have B:=vG u hn.2.2.1;have C:=tE u hn.2.2.2.1;clear hu hn;go_in;go_wp2;try go_ret
 rw[e.o];refine⟨.nilIface,rfl,(A_ w _).alloc _,?_⟩;rw[n.o]
def cwYF1_{p:Prop}(h:p:=by
 (first|(have:=cc1;simp only[qB,n_ hc])|(subst hc;simp only[qB,if_true]));go_in;go_wp2_with (go_at_call 78;apply(hcall.o _).mono;rintro e w2 ⟨v2,rfl,hf2,hm⟩;replace hf2:=zy hf2;replace hm:=zy hm);try go_ret
 rw[Q_.o];have hsz:=hf2.o.size;refine⟨v2,rfl,(((A_ w N_).alloc _).alloc _).trans hf2.o u_,?_⟩;rw[zK];have hm':=hm.o;cases hL:vq (zx ds) (zK t) with
 |nil=>rw[hL]at hm';exact hm'
 |cons x r=>rw[hL]at hm';exact hm'.ls x4_):p:=h
def YF(c p:Nat)(t:PT)(B:pQ t):pQ (.wrap c p t):=by
 intro w P s ds sv rv v xs et ex D A z;refine hq_ λu Q_=>?_;obtain⟨v2,y,rfl⟩:∃v2,TyV w P t v2/\v=.iface (qB c) (.agg #[I_ p,v2]):=by
  cases A with
  |wrap _ _ h=>exact⟨_,h,rfl⟩
 obtain⟨n,o,rfl⟩:=y.iface;obtain⟨a,k,rfl⟩:=zh D.row;have hcall:H_ (∀T,Calls prog 78 #[.agg #[.slice a ds.length k,rv],.iface n o] ((w.alloc (.cells #[.slice a ds.length k,rv] 65)).alloc (.cells #[I_ p,.iface n o] T)) (yI ((w.alloc (.cells #[.slice a ds.length k,rv] 65)).alloc (.cells #[I_ p,.iface n o] T)) (.iface et ex) (vq (zx ds) (zK t)))):=zy (λT=>by
  have u:Fr w ((w.alloc (.cells #[.slice a ds.length k,rv] 65)).alloc (.cells #[I_ p,.iface n o] T)) N_:=((A_ w _).alloc _).alloc _
  exact B _ P s ds _ _ _ _ _ _ (D.fr u u_) (y.fr u u_) (z.fr u id))
 by_cases hc:c=91
 .exact cwYF1_
 .have cc1:=Nat;exact cwYF1_
def aE(c p:Nat)(hc:zZ c=true):pQ (.leaf c p):=by
 intro w P s ds sv rv v xs et ex D L I;refine hq_ λQ G=>?_;have C:¬zY c=true:=λh=>by
  simp only[zY,av_,beq_iff_eq]at h;simp only[zZ,a0_,decide_eq_true_eq]at hc;omega
 have O:v=.iface 208 (.agg #[I_ p,U_ c]):=by
  cases L with
  |base _ _ h=>exact absurd h C
  |name _ _ h=>rfl
 subst O;obtain⟨E,F,rfl⟩:=zh D.row;have z:=zy (show vq (zx ds) (zK (.leaf c p))=if (zx ds c).isNone=true then [p] else [] by
  rw[zK,n_ C];unfold vq;rw[List.filter_cons];split<;>rfl)
 have n:Fr w ((w.alloc (.cells #[.slice E ds.length F,rv] 65)).alloc (.cells #[I_ p,U_ c] 208)) N_:=((A_ w _).alloc _).alloc _;have H:=zy (qw (rv:=rv) c (D.fr n u_));have B:=I.fr n id;have y:=B_ (w.alloc (.cells #[.slice E ds.length F,rv] 65)) #[I_ p,U_ c] 208;have hz:(w.alloc (.cells #[.slice E ds.length F,rv] 65)).heap.size=w.heap.size+1:=x8_
 rw[hz]at y;replace n:=zy n;replace B:=zy B;replace y:=zy y;cases he:zx ds c with
 |some b=>
  rw[he]at z;replace he:=zy he;go_in;go_wp2_with (go_at_call 75;apply H.o.mono;rintro e r ⟨M,rfl,k,hm⟩;rw[he.o]at hm;obtain⟨u,bx,rfl⟩:=hm.iface;replace k:=zy k);try go_ret
  rw[G.o];refine⟨.nilIface,rfl,n.o.trans k u_,?_⟩;rw[z.o];rfl
 |none=>
  rw[he]at z;replace he:=zy he;go_in;go_wp2_with (go_at_call 75;apply H.o.mono;rintro e r ⟨M,rfl,k,hm⟩;rw[he.o]at hm;replace hm:M=.nilIface:=hm;subst hm;have A:=(k.bl y id).c0;have u:=B.o.fr k id;replace k:=zy k;replace u:_=_:=u);refine tr_ 7 (λW=>z_ W (w.heap.size+1) 0 (I_ p)/\z_ W 1 0 (.iface et ex)) ?_;refine tz_ 0 ?_;refine tz_ 1 ?_;refine tz_ 3 ?_;refine yz 2 rfl K_ (λ_=>⟨A,u⟩) (λK J=>?_);go_simp;apply(vV (p:Int) _).mono;rintro e w' ⟨rfl,rfl⟩;refine J _ _ ?_;refine tz_ 4 ?_;refine t1_ 5 ⟨A,u⟩ ?_;have y:∀{a:Addr} {x:Value},r.cell? a=some x->(r.drew.alloc (.cells #[I_ p,.iface et ex] 177)).cell? a=some x:=@λa x h=>(World.cell?_alloc_lt (r.drew) _ a (by exact World.block_lt_of_cell? r a h)).trans h;refine t1_ 6 ⟨y A,y u⟩ ?_;refine t1_ 7 ⟨y A,y u⟩ ?_;refine td_ ?_ _;go_wp2;try go_ret
  rw[G.o];have N:=(n.o.trans k u_).size;refine⟨_,rfl,((n.o.trans k u_).alloc _).drew,?_⟩;rw[z.o];exact⟨r.heap.size,N,rfl,(B_ r _ _).drew⟩
def nX{l:Af}(h:l[q]?=some t):zG (l.drop q)=zK t++zG (l.drop (q+1)):=by
 have hl:=(am_.1 h).1;rw[bc_ hl,zG,(am_.1 h).2]
def mB{l:Af}{X:Cx}(ho:w.ownsRow 0 63 1 (S_ g m cap) l.length ((List.range l.length).map X))(h:∀i t,l[i]?=some t->TyV w P t (X i))(a:l[q]?=some t):∃T x,w.cell? ⟨g,q,none⟩=some (.iface T x)/\TyV w P t (.iface T x):=by
 have c:=h q t a;obtain⟨T,x,e⟩:=c.iface;have hl:=(am_.1 a).1;have hm:=bu ho;subst hm;refine⟨T,x,ze ho rfl ?_,e▸c⟩;rw[a1_,List.getElem?_range hl,a4_,e]
def YB(p:Nat)(l:Af)(a1:l.length<=300)(G:∀t∈l,pQ t):pQ (.alts p l):=by
 intro w P s ds sv rv v xs et ex D M J;refine hq_ λa0 H=>?_;obtain⟨X,u,ho,hP,hX,rfl⟩:∃X u,w.ownsRow 0 63 1 u l.length ((List.range l.length).map X)/\(∀g,u.ownBlock=some g->P g)/\(∀i t,l[i]?=some t->TyV w P t (X i))/\v=.iface 205 (.agg #[I_ p,u]):=by
  cases M with
  |alts _ X ho hP h=>exact⟨X,_,ho,hP,h,rfl⟩
 obtain⟨A,B,rfl⟩:=zh D.row;obtain⟨ba,Q,rfl⟩:=zh ho;obtain⟨w0,z⟩:=e_ ((w.alloc (.cells #[.slice A ds.length B,rv] 65)).alloc (.cells #[I_ p,.slice ba l.length Q] 205));have c:Fr w w0 N_:=by rw[z];exact((A_ w _).alloc _).alloc _
 have C:Blk w0 w.heap.size [.slice A ds.length B,rv] 65:=by rw[z];exact(B_ w #[.slice A ds.length B,rv] 65).alloc _
 have O:=zy (D.fr c u_);have U:=zy (J.fr c id);have L:=zy (zk ho c u_);have V:=zy (λi t e=>(hX i t e).fr c u_);replace C:=zy C;replace c:=zy c;have N:H_ (∃q:Nat,Value.int .i64 0=I_ q/\q<=l.length/\l.length+1-q<=l.length+1/\Fr w0 w0 N_/\vq (zx ds) (zK (.alts p l))=vq (zx ds) (zG (l.drop q))):=zy ⟨0,rfl,aj_ _,M_,A_ _ _,by rw[zK];rfl⟩;have J:=ww 205 D_;have M:=gH 205 D_;have Q:=gL;replace G:=zy G;go_in;go_wp2;rw[<- z];go_loopg [33] (l.length+1) (λm v W=>∃q:Nat,v=I_ q/\q<=l.length/\l.length+1-q<=m/\Fr w0 W N_/\vq (zx ds) (zK (.alts p l))=vq (zx ds) (zG (l.drop q)));case atStart=>exact N
 case round=>
  obtain⟨q,rfl,z,hm,a,he⟩:=hrel;have z:=a.bl C id;have C:=z.c0;have C:=z.c1;by_cases F:q<l.length
  .have Y:(q:Int)<(l.length:Int):=M_;have hd:l[q]?=some l[q]:=ak_ F;have K:l[q]∈l:=a9_ F;generalize l[q]=t at hd K;obtain⟨g,cap,z⟩:=zu L M_;cases z;obtain⟨T,x,c0,z⟩:=mB (zk L a u_) (λi t e=>(V.o i t e).fr a u_) hd;have I:=zy (G.o t K wr P s ds (.slice A ds.length B) rv (.iface T x) xs et ex (O.o.fr a u_) z (U.o.fr a id));rw[nX hd,qA]at he;replace a:=zy a;cases hu:vq (zx ds) (zK t) with
   |nil=>
    rw[hu,br_]at he;replace he:=zy he;replace hu:=zy hu;go_wp2_with (go_at_call 78;apply I.o.mono;rintro e Z ⟨u,rfl,k,n⟩;rw[hu.o]at n;replace n:u=.nilIface:=n;subst n;replace k:=zy k);go_roundg (l.length+1-(q+1));case measure=>omega
    case rel=>exact⟨q+1,rfl,F,l_,a.o.trans k u_,he⟩
   |cons y r=>
    rw[hu,bf_]at he;replace he:=zy he;replace hu:=zy hu;go_wp2_with (go_at_call 78;apply I.o.mono;rintro e Z ⟨u,rfl,k,n⟩;rw[hu.o]at n;obtain⟨R,u,rfl,E⟩:=n;replace k:=zy k;replace E:=zy E);try go_ret
    rw[H.o];have n:=(c.o.trans a u_).size;refine⟨_,rfl,(c.o.trans a u_).trans k u_,?_⟩;rw[he.o];exact⟨R,M_,rfl,E⟩
  .have Y:¬((q:Int)<(l.length:Int)):=M_;rw[bz_ M_,zG]at he;replace he:=zy he;replace a:=zy a;go_wp2;try go_ret
   rw[H.o];refine⟨.nilIface,rfl,c.o.trans a u_,?_⟩;rw[he.o];rfl
def vo:PT->Prop
 | .leaf c _=>zY c=true\/zZ c=true
 | .wrap _ _ t=>vo t
 | .alts _ ts=>ts.length<=300/\∀t∈ts,vo t
def ZI:∀(n:Nat) (t:PT),SizeOf.sizeOf t<=n->vo t->pQ t:=by
 intro n;induction n with
 |zero=>intro t h;cases t<;>simp at h
 |succ n ih=>
  intro t h hb;cases t with
  |leaf c p=>
   unfold vo at hb;rcases hb with hb|hb
   .exact YP c p hb
   .exact aE c p hb
  |wrap c p t=>
   unfold vo at hb;exact YF c p t (ih t (by simp at h;omega) hb)
  |alts p ts=>
   unfold vo at hb;exact YB p ts hb.1 (λt ht=>ih t yp_ (hb.2 t ht))
def PU(s:BA)(hs:s.size<=300)(f:Nat):(∀i t j,i<=s.size->vJ s f i=.ok (t,j)->vo t)/\(∀i ts j,i<=s.size->xk s f i=.ok (ts,j)->i+ts.length<=j/\∀t∈ts,vo t):=by
 induction f with
 |zero=>exact⟨λi t j _ h=>by simp[vJ]at h,λi t j _ h=>by simp[xk]at h⟩
 |succ f ih=>
  obtain⟨ihT,ihA⟩:=ih;have n:=(bj s f).1;have hbA:=(bj s f).2;refine⟨λi t j a h=>?_,λi t j a h=>?_⟩
  .have cc1:=Nat;exact cwGh1_
  .rw[jk]at h;unfold fC at h;cases hp:vJ s f i with
   |error k=>rw[hp]at h;simp at h
   |ok r=>
    obtain⟨t',j'⟩:=r;rw[hp]at h;have h1:=ihT _ _ _ a hp;have h2:=(n i a).1 _ _ hp;simp only at h;split at h
    .rename_i v;have hl:=zr (s:=s) (i:=j') M_;cases c:xk s f (j'+1) with
     |error k=>rw[c]at h;simp at h
     |ok r=>
      obtain⟨ts,k⟩:=r;rw[c]at h;simp only[ag_,ac_]at h;obtain⟨rfl,rfl⟩:=h;obtain⟨o,e⟩:=ihA _ _ _ M_ c;refine⟨by simp;omega,λu hu=>?_⟩;rcases aq_.1 hu with rfl|hu
      .exact h1
      .exact e u hu
    .simp only[ag_,ac_]at h;obtain⟨rfl,rfl⟩:=h;exact⟨by simp;omega,λu hu=>by rw[ba_]at hu;subst hu;exact h1⟩
def Js(hs:s.size<=300)(a:i<=s.size)(h:pT s i=.ok (t,j)):vo t:=(PU s hs _).1 i t j a h
def vd(w:Aw)(b:Nat)(seen:Ai):Prop:=
 ∃cs,Blk w b cs 287/\cs.length=26/\∀k,k<26->cs[k]?=some (.bool (decide (97+k∈seen)))
def vd.fr(h:vd w b seen)(e:Fr w w' S)(c:¬S b):vd w' b seen:=by
 obtain⟨cs,h1,a⟩:=h;exact⟨cs,e.bl h1 c,a⟩
def vd.same{l m:Ai}(h:vd w b l)(e:∀x,x∈l↔x∈m):vd w b m:=by
 obtain⟨cs,h1,a,c⟩:=h;refine⟨cs,h1,a,λk hk=>?_⟩;rw[c k hk];simp only[e]
def vd.add{k:Nat}(h:vd w b seen)(hk:k<26):vd (w.setCell ⟨b,k,none⟩ (.bool true)) b (seen++[97+k]):=by
 obtain⟨cs,h1,a,c⟩:=h;refine⟨cs.set k (.bool true),h1.set k _,by simpa using a,λq n=>?_⟩;by_cases e:q=k
 .subst e;rw[List.getElem?_set_self M_];simp
 .rw[b0_ (Ne.symm e),c q n];simp[e]
def wa(h:zt x=true):∃k,x=97+k/\k<26:=by
 simp only[zt,a0_,decide_eq_true_eq]at h;exact⟨x-97,M_,M_⟩
def ej(h:vd w b seen)(hx:zt x=true):Calls prog 153 #[P_ b,.agg #[Z_ p,U_ x]] w λe w'=>e=.returned (.bool (decide (x∈seen)))/\Fr w w' N_:=by
 refine hq_ λr a=>?_;obtain⟨k,hk,n⟩:=wa hx;have y:IntKind.u8.wrap ((x:Int)-97)=(k:Int):=by rw[IntKind.wrap_u8];omega
 have c0:(w.alloc (.cells #[Z_ p,U_ x] 182)).cell? ⟨b,k,none⟩=some (.bool (decide (x∈seen))):=by
  obtain⟨cs,h1,u,c⟩:=h;rw[(h1.alloc _).cell k,c k n,hk]
 have v:(k:Int)<26:=M_;clear h hx hk;go_in;go_wp2;go_quiet (fail);go_wp2;try go_ret
 rw[a.o];exact⟨rfl,((A_ w _).alloc _).si (zw.drewN _ _)⟩
def eu(h:vd w b seen)(hx:zt x=true):Calls prog 152 #[P_ b,.agg #[Z_ p,U_ x]] w λe w'=>e=.returned (.bool (!decide (x∈seen)))/\Fr w w' (λg=>g=b)/\vd w' b (seen++[x]):=by
 refine hq_ λr u=>?_;obtain⟨k,hk,z⟩:=wa hx;have r:IntKind.u8.wrap ((x:Int)-97)=(k:Int):=by rw[IntKind.wrap_u8];omega
 have r:(k:Int)<26:=M_;have h0:=h.fr ((A_ w N_).alloc (.cells #[Z_ p,U_ x] 182)) id;have n:=zy (ej (p:=p) h0 hx);have c:=B_ w #[Z_ p,U_ x] 182
 revert hk h0 c;refine h_ λhk h0 c=>?_;by_cases hm:x∈seen
 .have hd:=zy (show decide (x∈seen)=true from decide_eq_true hm);replace hm:=zy hm;go_in;go_wp2_with (go_at_call 153;apply n.o.mono;rintro e w1 ⟨rfl,a⟩;rw[hd.o];replace a:=zy a);try go_ret
  rw[u.o];refine⟨by rw[hd.o];rfl,(((A_ w _).alloc _).trans a v_),(h0.o.fr a id).same (λy=>?_)⟩;rw[bn_,ba_];exact⟨λq=>.inl q,λq=>by rcases q with q|rfl;exact q;exact hm⟩
 .have hd:=zy (show decide (x∈seen)=false from decide_eq_false hm);go_in;go_wp2_with (go_at_call 153;apply n.o.mono;rintro e w1 ⟨rfl,a⟩;rw[hd.o];have r:=(a.bl c id).c1;have c:=h0.o.fr a id;have n:=a.size;replace a:=zy a);have n:w1.cell? ⟨b,k,none⟩=some (.bool (decide (97+k∈seen))):=by obtain⟨cs,n,B,v⟩:=c;rw[n.cell k,v k z]
  have C:w1.frozen? ⟨b,k,none⟩=false:=by obtain⟨cs,n,B,v⟩:=c;exact n.th k
  have A:=zy (c.add z);replace c:=zy c;refine tr_ 6 (λW=>z_ W w.heap.size 1 (U_ x)) ?_;refine tz_ 0 ?_;refine tz_ 1 ?_;refine tz_ 2 ?_;refine tz_ 3 ?_;refine t1_ 4 r ?_;refine t1_ 5 r ?_;refine t1_ 6 r ?_;refine td_ ?_ _;go_wp2;try go_ret
  rw[u.o];rw[hk.o]at hd⊢;refine⟨by rw[hd.o];rfl,?_,?_⟩
  .exact((((A_ w _).alloc _).trans a v_).drew).setCell _ _ (λ_=>rfl)
  .exact A
def lV:Array Value:=(List.replicate 26 (Value.bool false)).toArray
def iR(w:Aw):vd (w.alloc (.cells lV 287)) w.heap.size []:=by
 refine⟨List.replicate 26 (Value.bool false),B_ w lV _,by simp,λk hk=>?_⟩;rw[List.getElem?_replicate,i_ hk];simp
def tz:(#[.bool false,.bool false,.bool false,.bool false,.bool false,.bool false,.bool false,.bool false,.bool false,.bool false,.bool false,.bool false,.bool false,.bool false,.bool false,.bool false,.bool false,.bool false,.bool false,.bool false,.bool false,.bool false,.bool false,.bool false,.bool false,.bool false]:Array Value)=lV:=rfl
structure xQ(w:Aw)(P:Au)(s:BA)(fs:Am)(fv:Ax)(ys:Az):Prop where
 row:w.ownsRow 0 185 4 fv fs.length ys
 off:∀g,fv.ownBlock=some g->P g
 V:xJ w P s fs ys
def xQ.fr(h:xQ w P s fs sv xs)(c:Fr w w' S)(a:∀g,P g->¬S g):xQ w' P s fs sv xs:=
 ⟨zk h.row c (λg hg=>a g (h.off g hg)),h.off,h.V.fr c a⟩
def xQ.cells(h:xQ w P s fs (S_ g m cap) xs)(y:fs[q]?=some f):∃T x d,w.cell? ⟨g,q*4,none⟩=some (I_ f.place)/\w.cell? ⟨g,q*4+1,none⟩=some (U_ f.letter)/\w.cell? ⟨g,q*4+2,none⟩=some (.iface T x)/\w.cell? ⟨g,q*4+3,none⟩=some (.pointer d)/\TyV w P f.ty (.iface T x)/\DfV w P s f.dflt (.pointer d):=by
 obtain⟨a,b,c,d,h1,o,r,u,rfl,rfl,v,k⟩:=h.V q f y;obtain⟨T,x,rfl⟩:=v.iface;obtain⟨n,rfl⟩:∃n,d=.pointer n:=by
  unfold DfV at k;split at k
  .exact⟨_,k⟩
  .obtain⟨g',y,_,e,_⟩:=k;exact⟨_,e⟩
 have hm:=bu h.row;subst hm;rw[a7_]at h1 o r u;exact⟨T,x,n,ze h.row rfl h1,ze h.row rfl o,ze h.row rfl r,ze h.row rfl u,v,k⟩
def XE{env:Ay}(h:fs[q]?=some f)(seen:Ai):kQ env seen (fs.drop q)=(if f.letter∈seen then [f.place] else [])++(vq env (zK f.ty)++kQ env (seen++[f.letter]) (fs.drop (q+1))):=by
 have hl:=(am_.1 h).1;rw[bc_ hl,kQ,(am_.1 h).2]
def nQ(h:fs[q]?=some f):(fs.take (q+1)).map PF.letter=(fs.take q).map PF.letter++[f.letter]:=by
 rw[a8_,h];simp
def GS(w0:Aw)(bS:Nat)(env:Ay)(fs:Am)(m:Nat)(v:Ax)(W:Aw):Prop:=
 ∃q:Nat,v=I_ q/\q<=fs.length/\fs.length+1-q<=m/\Fr w0 W (λg=>g=bS)/\vd W bS ((fs.take q).map PF.letter)/\kQ env [] fs=kQ env ((fs.take q).map PF.letter) (fs.drop q)
def cwur1_{p:Prop}(h:p:=by
 (first|(have:=cc1;have hd1:=zy (show(!decide (c∈seen))=false by rw[decide_eq_true hdup];rfl))|(have hd1:=zy (show(!decide (l∈seen))=false by rw[decide_eq_true hdup];rfl)));rw[i_ hdup]at he;replace he:=zy he;go_wp2_with (go_at_call 152;apply hCa.o.mono;rintro e w2 ⟨rfl,hf2,hS2⟩;rw[hd1.o];have n0:=(hf2.bl N1.o M_).c0;have e0:=E1.o.fr hf2 hgE';replace hf2:=zy hf2;replace e0:_=_:=e0;clear hS2);(first|(have:=cc1;refine tr_ 7 (λW=>z_ W wr.heap.size 0 (I_ pl)/\z_ W 1 0 (.iface et ex)) ?_)|(refine tr_ 8 (λW=>z_ W wr.heap.size 0 (I_ pl)/\z_ W 1 0 (.iface et ex)) ?_));refine tz_ 0 ?_;refine tz_ 1 ?_;(first|(have:=cc1;refine tz_ 3 ?_)|(refine tz_ 2 ?_));(first|(have:=cc1;refine yz 2 rfl K_ (λ_=>⟨n0,e0⟩) (λK hK=>?_))|(refine tz_ 4 ?_;refine yz 3 rfl K_ (λ_=>⟨n0,e0⟩) (λK hK=>?_)));go_simp;apply(vV (pl:Int) _).mono;rintro e w' ⟨rfl,rfl⟩;refine hK _ _ ?_;clear hK K;(first|(have:=cc1;refine tz_ 4 ?_)|(refine tz_ 5 ?_));(first|(have:=cc1;refine t1_ 5 ⟨n0,e0⟩ ?_)|(refine t1_ 6 ⟨n0,e0⟩ ?_));have hAL:∀{a:Addr} {x:Value},w2.cell? a=some x->(w2.drew.alloc (.cells #[I_ pl,.iface et ex] 177)).cell? a=some x:=@λa x h=>(World.cell?_alloc_lt (w2.drew) _ a (by exact World.block_lt_of_cell? w2 a h)).trans h;(try have:=cc1;refine t1_ 6 ⟨hAL n0,hAL e0⟩ ?_);refine t1_ 7 ⟨hAL n0,hAL e0⟩ ?_;(first|(have:=cc1)|(refine t1_ 8 ⟨hAL n0,hAL e0⟩ ?_));refine td_ ?_ _;go_wp2;try go_ret
 rw[Q_.o];have hF2:=hFw.o.trans hf2.o (λy hy e=>M_);have hs2:=hF2.size;refine⟨_,rfl,(hF2.alloc _).drew,?_⟩;rw[he.o];exact⟨w2.heap.size,hs2,rfl,(B_ w2 _ _).drew⟩):p:=h
def ur{fv:Ax}{ys:Az}(D:xf w P s ds sv xs)(F:xQ w P s fs fv ys)(V:vt 1 w et ex)(hl:fs.length<=300)(e1:∀f∈fs,zt f.letter=true)(d6:∀f∈fs,vo f.ty)(N:∀g,P g->g<w.heap.size):Calls prog 118 #[.agg #[sv,rv],.agg #[Z_ p,fv]] w (yI w (.iface et ex) (kQ (zx ds) [] fs)):=by
 refine hq_ λe2 Q_=>?_;obtain⟨I,J,rfl⟩:=zh D.row;obtain⟨fa,fc,rfl⟩:=zh F.row;obtain⟨L,H⟩:=e_ ((w.alloc (.cells #[.slice I ds.length J,rv] 65)).alloc (.cells #[Z_ p,.slice fa fs.length fc] 210));have a6:L.heap.size=w.heap.size+2:=by rw[H];simp
 have b4:Fr w L N_:=by rw[H];exact((A_ w _).alloc _).alloc _
 have a9:Blk L w.heap.size [.slice I ds.length J,rv] 65:=by rw[H];exact(B_ w #[.slice I ds.length J,rv] 65).alloc _
 obtain⟨w0,C⟩:=e_ (L.alloc (.cells lV 287));have A:Fr w w0 N_:=by rw[C];exact b4.alloc _
 have X:Blk w0 w.heap.size [.slice I ds.length J,rv] 65:=by rw[C];exact a9.alloc _
 have a8:vd w0 (w.heap.size+2) []:=by rw[C,<- a6];exact iR L
 have e5:w0.heap.size=w.heap.size+3:=by rw[C];simp[a6]
 have D0:=zy (D.fr A u_);have F0:=zy (F.fr A u_);have d1:=zy (V.fr A id);have b9:H_ (GS w0 (w.heap.size+2) (zx ds) fs (fs.length+1) (O_) w0):=zy ⟨0,rfl,aj_ _,M_,A_ _ _,a8,rfl⟩;replace X:=zy X;replace A:=zy A;have hgE':1≠w.heap.size+2:=M_;have N:=zy N;go_in;go_wp2;rw[tz,<- H,<- C];go_loopg [12] (fs.length+1) (λm v W=>GS w0 (w.heap.size+2) (zx ds) fs m v W);case atStart=>exact b9
 case round=>
  obtain⟨q,rfl,hq,hm,k,G,he⟩:=hrel;have e4:=k.size;have hS:=k.bl X M_;by_cases a2:q<fs.length
  .have d9:(q:Int)<(fs.length:Int):=M_;have hd:fs[q]?=some fs[q]:=ak_ a2;have a3:fs[q]∈fs:=a9_ a2;generalize fs[q]=f at hd a3;have a0:=e1 f a3;obtain⟨g,cap,d8⟩:=zu F0.o.row M_;cases d8;have a4:∀g,P g->¬g=w.heap.size+2:=λg hg=>by have:=N.o g hg;omega
   obtain⟨T,x,d,c0,c1,c2,c3,Y,d0⟩:=(F0.o.fr k a4).cells hd;obtain⟨l,b5⟩:=x_ f.letter;obtain⟨pl,b6⟩:=x_ f.place;obtain⟨ty,b7⟩:=x_ f.ty;have O:=d6 f a3;rw[XE hd]at he;have Q:=nQ hd;rw[b5]at a0 c1 he Q;rw[b6]at c0 he;rw[b7]at Y he O;have n:=(A_ wr N_).alloc (.cells #[I_ pl,U_ l,.iface T x,.pointer d] 185);have N1:=B_ wr #[I_ pl,U_ l,.iface T x,.pointer d] 185;have b8:(wr.alloc (.cells #[I_ pl,U_ l,.iface T x,.pointer d] 185)).heap.size=wr.heap.size+1:=x8_
   have hCa:=zy (eu (p:=(pl:Int)) (G.fr n id) a0);have Z:=Y.fr n u_;have R:=(D0.o.fr k a4).fr n u_;have E1:=(d1.o.fr k hgE').fr n id;have M:=n.bl hS id;have hFw:=zy ((A.o.trans k (λy hy e=>M_)).trans n u_);have d2:=zy (k.trans n v_);replace Z:=zy Z;replace R:=zy R;replace E1:=zy E1;replace M:=zy M;replace N1:=zy N1;replace b8:=zy b8;replace O:=zy O;obtain⟨seen,G⟩:=x_ ((fs.take q).map PF.letter);rw[G]at he Q hCa;by_cases hdup:l∈seen
   .exact cwur1_
   .have hd1:=zy (show(!decide (l∈seen))=true by rw[decide_eq_false hdup];rfl);rw[n_ hdup,br_]at he;have a5:∀g,P g->¬g=w.heap.size+2:=λg hg=>by have:=N.o g hg;omega
    have a7:H_ (∀w2,Fr (wr.alloc (.cells #[I_ pl,U_ l,.iface T x,.pointer d] 185)) w2 (λg=>g=w.heap.size+2)->Calls prog 78 #[.agg #[.slice I ds.length J,rv],.iface T x] w2 (yI w2 (.iface et ex) (vq (zx ds) (zK ty)))):=zy (λw2 U=>ZI _ ty l_ O w2 P s ds _ rv _ xs et ex (R.o.fr U a5) (Z.o.fr U a5) (E1.o.fr U hgE'));cases hu:vq (zx ds) (zK ty) with
    |nil=>
     rw[hu,br_]at he;replace he:=zy he;replace hu:=zy hu;go_wp2_with (first
      |(go_at_call 152;apply hCa.o.mono;rintro e w2 ⟨rfl,hf2,hS2⟩;rw[hd1.o];have E:=hf2.bl N1 M_;have z:=hf2.bl M M_;have n2:=E.c2;have s0:=z.c0;have s1:=z.c1;replace hf2:=zy hf2;replace hS2:=zy hS2)
      |(go_at_call 78;apply(a7.o w2 hf2).mono;rintro e w3 ⟨v3,rfl,u,B⟩;rw[hu.o]at B;replace B:v3=.nilIface:=B;subst B;replace u:=zy u))
     go_roundg (fs.length+1-(q+1));case measure=>omega
     case rel=>exact⟨q+1,rfl,a2,l_,(d2.o.trans hf2 u_).trans u v_,by rw[Q];exact hS2.o.fr u id,by rw[Q];exact he⟩
    |cons y r=>
     rw[hu,bf_]at he;replace he:=zy he;replace hu:=zy hu;go_wp2_with (first
      |(go_at_call 152;apply hCa.o.mono;rintro e w2 ⟨rfl,hf2,hS2⟩;rw[hd1.o];have E:=hf2.bl N1 M_;have z:=hf2.bl M M_;have n2:=E.c2;have s0:=z.c0;have s1:=z.c1;replace hf2:=zy hf2;replace hS2:=zy hS2)
      |(go_at_call 78;apply(a7.o w2 hf2).mono;rintro e w3 ⟨v3,rfl,u,B⟩;rw[hu.o]at B;obtain⟨g3,e3,rfl,a1⟩:=B;replace u:=zy u;replace a1:=zy a1))
     try go_ret
     rw[Q_.o];have hF2:=hFw.o.trans hf2 (λy hy e=>M_);have hs2:=hF2.size;refine⟨_,rfl,hF2.trans u u_,?_⟩;rw[he.o];exact⟨g3,M_,rfl,a1⟩
  .have d9:¬((q:Int)<(fs.length:Int)):=M_;rw[bz_ M_,kQ]at he;replace he:=zy he;replace k:=zy k;go_wp2;try go_ret
   rw[Q_.o];refine⟨.nilIface,rfl,A.o.trans k (λy hy e=>M_),?_⟩;rw[he.o]
def xW:∀{q:Nat}{c p:Nat},l[q]?=some (c,p)->(yu l)[q*2]?=some (I_ p)/\(yu l)[q*2+1]?=some (U_ c):=by
 induction l with
 |nil=>intro q c p h;simp at h
 |cons x r ih=>
  intro q c p h;have hc:yu (x::r)=I_ x.2 :: U_ x.1::yu r:=by simp[yu]
  rw[hc];cases q with
  |zero=>
   simp only[aa_,ae_]at h;subst h;exact⟨rfl,rfl⟩
  |succ q=>
   rw[ab_]at h;have:=ih h;rw[show(q+1)*2=q*2+1+1 by omega];exact this
def Vz{c p:Nat}(h:l[q]?=some (c,p))(seen:Ai):qh seen (l.drop q)=(if c∈seen then [p] else [])++qh (seen++[c]) (l.drop (q+1)):=by
 have hl:=(am_.1 h).1;rw[bc_ hl,qh,(am_.1 h).2]
def iP{c p:Nat}(h:l[q]?=some (c,p)):(l.take (q+1)).map Prod.fst=(l.take q).map Prod.fst++[c]:=by
 rw[a8_,h];simp
def GN(w0:Aw)(bS:Nat)(l:Av)(m:Nat)(v:Ax)(W:Aw):Prop:=
 ∃q:Nat,v=I_ q/\q<=l.length/\l.length+1-q<=m/\Fr w0 W (λg=>g=bS)/\vd W bS ((l.take q).map Prod.fst)/\qh [] l=qh ((l.take q).map Prod.fst) (l.drop q)
def pO{u:Ax}{o:Ac}(ho:w.ownsRow 0 182 2 sv l.length (yu l))(T:∀g,sv.ownBlock=some g->P g)(A:qV w P o u)(N:vt 1 w et ex)(hl:l.length<=300)(a6:∀q∈l,zt q.1=true)(a7:∀c p,o=some (c,p)->zt c=true)(G:∀g,P g->g<w.heap.size):Calls prog 119 #[.agg #[Z_ p,sv,u]] w (yI w (.iface et ex) (qh [] l++pH l o)):=by
 refine hq_ λa8 Q_=>?_;obtain⟨J,L,rfl⟩:=zh ho;obtain⟨d,rfl⟩:∃d,u=.pointer d:=by
  unfold qV at A;split at A
  .exact⟨_,A⟩
  .obtain⟨g',_,e,_⟩:=A;exact⟨_,e⟩
 have a4:1<w.heap.size:=World.block_lt_of_cell? w ⟨1,0,none⟩ N;obtain⟨F,E⟩:=e_ (w.alloc (.cells #[Z_ p,.slice J l.length L,.pointer d] 215));have U:F.heap.size=w.heap.size+1:=by rw[E];simp
 have a0:Fr w F N_:=by rw[E];exact(A_ w _).alloc _
 have Z:Blk F w.heap.size [Z_ p,.slice J l.length L,.pointer d] 215:=by rw[E];exact B_ w #[Z_ p,.slice J l.length L,.pointer d] 215
 obtain⟨w0,B⟩:=e_ (F.alloc (.cells lV 287));have z:Fr w w0 N_:=by rw[B];exact a0.alloc _
 have O:Blk w0 w.heap.size [Z_ p,.slice J l.length L,.pointer d] 215:=by rw[B];exact Z.alloc _
 have Y:vd w0 (w.heap.size+1) []:=by rw[B,<- U];exact iR F
 have F:w0.heap.size=w.heap.size+2:=by rw[B];simp[U]
 have a1:=zy (zk ho z u_);have a3:=zy (A.fr z u_);have X:=zy (N.fr z id);have a2:H_ (GN w0 (w.heap.size+1) l (l.length+1) (O_) w0):=zy ⟨0,rfl,aj_ _,M_,A_ _ _,Y,rfl⟩;replace O:=zy O;replace z:=zy z;have hgE':1≠w.heap.size+1:=M_;replace G:=zy G;replace T:=zy T;go_in;go_wp2;rw[tz,<- E,<- B];go_loopg [9] (l.length+1) (λm v W=>GN w0 (w.heap.size+1) l m v W);case atStart=>exact a2
 case round=>
  obtain⟨q,rfl,A,hm,k,n,he⟩:=hrel;have A:=k.size;have D:=k.bl O M_;by_cases R:q<l.length
  .have a5:(q:Int)<(l.length:Int):=M_;have hd:l[q]?=some l[q]:=ak_ R;have M:l[q]∈l:=a9_ R;generalize l[q]=f at hd M;obtain⟨c,pl⟩:=f;have I:zt c=true:=a6 _ M;obtain⟨g,cap,A⟩:=zu a1 M_;cases A;have V:¬g=w.heap.size+1:=by have:=G.o g (T.o g rfl);omega
   have C:=zk a1 k (λg' e=>by simp only[Value.ownBlock,ae_]at e;subst e;exact V);have c0:=ze C rfl (xW hd).1;have c1:=ze C rfl (xW hd).2;rw[Vz hd]at he;have H:=iP hd;have A:=(A_ wr N_).alloc (.cells #[I_ pl,U_ c] 182);have N1:=B_ wr #[I_ pl,U_ c] 182;have hCa:=zy (eu (p:=(pl:Int)) (n.fr A id) I);have E1:=(X.o.fr k hgE').fr A id;have hFw:=zy ((z.o.trans k (λy hy e=>M_)).trans A u_);have Q:=zy (k.trans A v_);replace E1:=zy E1;replace N1:=zy N1;obtain⟨seen,n⟩:=x_ ((l.take q).map Prod.fst);rw[n]at he H hCa;by_cases hdup:c∈seen
   .have cc1:=Nat;exact cwur1_
   .have hd1:=zy (show(!decide (c∈seen))=true by rw[decide_eq_false hdup];rfl);rw[n_ hdup,br_]at he;replace he:=zy he;go_wp2_with (go_at_call 152;apply hCa.o.mono;rintro e w2 ⟨rfl,hf2,hS2⟩;rw[hd1.o];replace hf2:=zy hf2;replace hS2:=zy hS2);go_roundg (l.length+1-(q+1));case measure=>omega
    case rel=>exact⟨q+1,rfl,R,l_,Q.o.trans hf2 u_,by rw[H];exact hS2,by rw[H];exact he⟩
  .have a5:¬((q:Int)<(l.length:Int)):=M_;have A:q=l.length:=M_;rw[bz_ M_,qh]at he;rw[A,List.take_length]at n;have c2:=D.c2;have Q:=a3.o.fr k (λg hg e=>by have:=G.o g hg;omega);have M:=X.o.fr k hgE';have hFw:=zy (z.o.trans k (λy hy e=>M_));replace n:=zy n;replace D:=zy D;replace M:=zy M;cases o with
   |none=>
    have hn:d=none:=by
     have:Value.pointer d=.pointer none:=Q;cases this;rfl
    subst hn;have C:=zy (show qh [] l++pH l none=[] by rw[he];rfl);go_wp2;try go_ret
    rw[Q_.o];refine⟨.nilIface,rfl,hFw,?_⟩;rw[C.o]
   |some r=>
    obtain⟨c,pl⟩:=r;obtain⟨g,hg,k,hB⟩:∃g,P g/\Value.pointer d=P_ g/\Blk wr g [I_ pl,U_ c] 182:=Q;cases k;have b0:=hB.c0;have b1:=hB.c1;have V:=zy (ej (p:=(pl:Int)) n (a7 c pl rfl));replace hB:=zy hB;by_cases H:c∈l.map Prod.fst
    .have hd1:=zy (show decide (c∈l.map Prod.fst)=true from decide_eq_true H);have C:=zy (show qh [] l++pH l (some (c,pl))=[] by rw[he];simp only[pH];rw[i_ H];rfl);go_wp2_with (go_at_call 153;apply V.o.mono;rintro e w2 ⟨rfl,hf2⟩;rw[hd1.o];replace hf2:=zy hf2);try go_ret
     rw[Q_.o];refine⟨.nilIface,rfl,hFw.o.trans hf2 u_,?_⟩;rw[C.o]
    .have hd1:=zy (show decide (c∈l.map Prod.fst)=false from decide_eq_false H);have C:=zy (show qh [] l++pH l (some (c,pl))=[pl] by rw[he];simp only[pH];rw[n_ H];rfl);go_wp2_with (go_at_call 153;apply V.o.mono;rintro e w2 ⟨rfl,hf2⟩;rw[hd1.o];have n0:=(hf2.bl hB id).c0;have I:=(hf2.bl D id).c2;have e0:=M.o.fr hf2 id;replace hf2:=zy hf2;replace e0:_=_:=e0);refine tr_ 10 (λW=>z_ W w.heap.size 2 (P_ g)/\z_ W g 0 (I_ pl)/\z_ W 1 0 (.iface et ex)) ?_;refine tz_ 0 ?_;refine tz_ 1 ?_;refine tz_ 2 ?_;refine tz_ 3 ?_;refine tz_ 4 ?_;refine tz_ 6 ?_;refine yz 5 rfl K_ (λ_=>⟨I,n0,e0⟩) (λK hK=>?_);go_simp;apply(vV (pl:Int) _).mono;rintro e w' ⟨rfl,rfl⟩;refine hK _ _ ?_;refine tz_ 7 ?_;refine t1_ 8 ⟨I,n0,e0⟩ ?_;have hAL:∀{a:Addr} {x:Value},w2.cell? a=some x->(w2.drew.alloc (.cells #[I_ pl,.iface et ex] 177)).cell? a=some x:=@λa x h=>(World.cell?_alloc_lt (w2.drew) _ a (by exact World.block_lt_of_cell? w2 a h)).trans h;refine t1_ 9 ⟨hAL I,hAL n0,hAL e0⟩ ?_;refine t1_ 10 ⟨hAL I,hAL n0,hAL e0⟩ ?_;refine td_ ?_ _;go_wp2;try go_ret
     rw[Q_.o];have hF2:=hFw.o.trans hf2 (λy hy e=>e);have hs2:=hF2.size;refine⟨_,rfl,(hF2.alloc _).drew,?_⟩;rw[C.o];exact⟨w2.heap.size,hs2,rfl,(B_ w2 _ _).drew⟩
end Go.Proofs.YtahhhgbojlkjnaaGreatDoor
