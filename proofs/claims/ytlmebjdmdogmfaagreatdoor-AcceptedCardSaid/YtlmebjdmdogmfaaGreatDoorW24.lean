import Derived.Test.YtlmebjdmdogmfaaGreatDoorW23
import Derived.Maps.OwnSet
import Derived.Laws.OwnMore
set_option linter.unusedVariables false
set_option maxHeartbeats 16000000
set_option maxRecDepth 100000
set_option linter.defProp false
set_option linter.unusedSimpArgs false
open Go.Proofs.Tryz
namespace Go.Proofs.YtlmebjdmdogmfaaGreatDoor
open Go.RowKit
variable {w W1:Aw}{n m j b c q p v i k:Nat}{s bs sw sr:BA}{t:PT}{ns:Ao}{D:Ai}{S:Az}{pv kv:Ax}{ew:Au}{ds:Ar}
def ug(w:Aw)(j:Nat)(x:DT)(e:Ak)(w':Aw):Prop:=∃tx k ev,e=.returned (.tuple #[.string tx,Z_ k,ev])/\Fr w w' N_/\if ndT x > 300 then tx=noB/\k=0/\wQ w' ev 7 else k=(j:Int)/\wQ w' ev 0
def Kb{w1:Aw}{sv rv:Ax}{d:DT}(hp:ze s=.ok (ds,t))(l:wi w.heap.size w1 s sv rv)(hd:bs.size<=4000)(o:rdB bs (zx ds) 301 t 0 0=.ok (d,j,m)):∀V,Fr w1 V N_->Calls prog 27 #[.agg #[sv,rv],.string bs] V (Xl (zx ds) t V d j):=by
 intro V a;obtain⟨ds',t',xs,hs,h,hn,hu,D,f,_⟩:=l;rw[hp]at h;cases h;obtain⟨e,h,f3,f4,_⟩:=vZ hs hp hn hu;obtain⟨rT,rx,rfl⟩:=f.iface;have hz:=a.size;exact Vh (D.fr a u_) (f.fr a u_) (λg hg=>M_) hd f4 (jI t (xA hs hp).2.1) e (cI e) o
def Ku{w1:Aw}{sv rv sv' rv':Ax}{ds':Ar}{t':PT}{d x:DT}(hp:ze sw=.ok (ds,t))(e:ze sr=.ok (ds',t'))(h:wi w.heap.size w1 sw sv rv)(l:wi w.heap.size w1 sr sv' rv')(hd:Dat (zx ds) d t)(z:ndT d<=300)(hk:mkP (zx ds) (zx ds') (xD (zx ds') sr) 300 t t' d=some x):∀V v (L:Nat->Prop),Fr w1 V N_->DaV (zx ds) V L d t v->Calls prog 28 #[.agg #[sv,rv],.agg #[sv',rv'],v] V (ye (zx ds') t' V.heap.size V x):=by
 intro V v L a hv;obtain⟨f,f,xs,hs,f,hn,hu,D,r,_⟩:=h;rw[hp]at f;cases f;obtain⟨f,f,xs',hs',h,y,A,f,u,o⟩:=l;rw[e]at h;cases h;obtain⟨h,l,f3,f4,_⟩:=vZ hs hp hn hu;obtain⟨l,B,B,B,_⟩:=vZ hs' e y A;have M:MC _ _ sw sr ds ds' sv sv' xs xs' V.heap.size V:=
  ⟨D.fr a u_,f.fr a u_,(o.fr f a u_ u_).dfm,l_⟩
 exact Wg ⟨h,l,cI h,cI l⟩ M (r.fr a u_) (u.fr a u_) f4 B (jI t' (xA hs' e).2.1) hd (hv.mono (λg hg _=>hg)) z hk
def eO{A:Bb}{ds':Ar}{t':PT}{d x:DT}(K:Kit A w)(h0:(zu sw).1=0)(h1:(zu sr).1=0)(hp:ze sw=.ok (ds,t))(O:ze sr=.ok (ds',t'))(hd:bs.size<=4000)(hq:rdB bs (zx ds) 301 t 0 0=.ok (d,j,m))(Q:Dat (zx ds) d t)(a2:ndT d<=300)(hk:mkP (zx ds) (zx ds') (xD (zx ds') sr) 300 t t' d=some x):Calls prog 14 #[.string sw,.string sr,.string bs] w (ug w j x):=by
 obtain⟨S,X,Z,Y,R⟩:=K;refine hq_ λM E=>?_;have U:H_ (Calls prog 15 #[.string sw,.string sr] w λe w1=>∃sa sn sc rT rx sa' sn' sc' rT' rx',e=.returned (.tuple #[.agg #[.slice sa sn sc,.iface rT rx],.agg #[.slice sa' sn' sc',.iface rT' rx'],.nilIface])/\Fr w w1 N_/\wi w.heap.size w1 sw (.slice sa sn sc) (.iface rT rx)/\wi w.heap.size w1 sr (.slice sa' sn' sc') (.iface rT' rx')):=zy ((pR (sw:=sw) (sr:=sr) S X Z Y).mono (by
  rintro e w1 ⟨sv,rv,sv',rv',M,he,hf,hm⟩
  rcases hm with⟨_,_,rfl,hx,z⟩|⟨hn,_⟩
  .obtain⟨sa,sn,sc,rT,rx,rfl,rfl⟩:=hx.forms
   obtain⟨sa',sn',sc',rT',rx',rfl,rfl⟩:=z.forms
   exact⟨_,_,_,_,_,_,_,_,_,_,he,hf,hx,z⟩
  .exact absurd ⟨h0,h1⟩ hn))
 have a3:=zy (λw1 sv rv (M:wi w.heap.size w1 sw sv rv) (_:Fr w w1 N_)=>Kb hp M hd hq);have a1:=zy (λw1 sv rv sv' rv' (M:wi w.heap.size w1 sw sv rv) (a5:wi w.heap.size w1 sr sv' rv') (_:Fr w w1 N_)=>Ku hp O M a5 Q a2 hk);have M:=Jw (Py h1 O) 300 t t' d x hk;have a4:ndT x<=1000000000:=M_;replace S:=zy S;have a0:=zy (λ(W:World) (N:Fr w W N_)=>show vN 5 W _ _ from(S.o.fr N).var 5 D_);clear X Z Y h0 h1 hp O hq hk Q a2 M hd;unfold ug at E;by_cases B:ndT x > 300
 .simp only[i_ B]at E;replace B:=zy B;clear R;go_in;go_wp2_with (first
   |(go_at_call 15;apply U.o.mono;rintro e w1 ⟨sa,sn,sc,rT,rx,sa',sn',sc',rT',rx',rfl,l,hx,z⟩;have F:=zy (a3.o _ _ _ hx l);have G:=zy (a1.o _ _ _ _ _ hx z l);have b0:=zy (((B_ w1 #[.slice sa sn sc,.iface rT rx] 48).alloc (.cells #[.slice sa' sn' sc',.iface rT' rx'] 48)));have b1:=zy (show Blk ((w1.alloc (.cells #[.slice sa sn sc,.iface rT rx] 48)).alloc (.cells #[.slice sa' sn' sc',.iface rT' rx'] 48)) (w1.heap.size+1) [.slice sa' sn' sc',.iface rT' rx'] 48 from xe_);replace l:=zy l;clear hx z)
   |(go_at_call 27;apply(F.o _ (((A_ w1 _).alloc _).alloc _)).mono;rintro e P ⟨v2,rfl,a,hm⟩;have L:=zy (G.o P _ _ ((((A_ w1 _).alloc _).alloc _).trans a u_) hm);obtain⟨T2,x2,rfl⟩:=hm.iface;have c0:=(a.bl b0 id).c0;have c1:=(a.bl b0 id).c1;have c2:=(a.bl b1 id).c0;have c3:=(a.bl b1 id).c1;replace a:=zy (((l.o.alloc _).alloc _).trans a u_);clear hm F G b0 b1)
   |(go_at_call 28;apply L.o.mono;rintro e w3 ⟨v3,rfl,H,y⟩;have C:=zy (a.o.trans H u_);have r:=ji y.dat a4 (a0.o _ C);rw[i_ B.o]at r;replace r:=zy r;obtain⟨T3,x3,rfl⟩:=y.iface;clear H y)
   |(go_at_call 25;apply r.o.mono;rintro e w4 ⟨rfl,u⟩;replace u:=zy (C.o.trans u u_)))
  refine bodyPost_ret (v:=.tuple #[.string noB,O_,.iface 412 (.pointer (some (A 5)))]) (by simp[results,results14,go_sem];rfl) rfl ?_;rw[E.o];exact⟨_,_,_,rfl,u,rfl,rfl,λW N=>jd ((S.o.fr u).fr N) .leaf⟩
 .simp only[n_ B]at E;have h8:8022*ndT x<=90000000:=M_;replace B:=zy B;go_in;go_wp2_with (first
   |(go_at_call 15;apply U.o.mono;rintro e w1 ⟨sa,sn,sc,rT,rx,sa',sn',sc',rT',rx',rfl,l,hx,z⟩;have F:=zy (a3.o _ _ _ hx l);have G:=zy (a1.o _ _ _ _ _ hx z l);have b0:=zy (((B_ w1 #[.slice sa sn sc,.iface rT rx] 48).alloc (.cells #[.slice sa' sn' sc',.iface rT' rx'] 48)));have b1:=zy (show Blk ((w1.alloc (.cells #[.slice sa sn sc,.iface rT rx] 48)).alloc (.cells #[.slice sa' sn' sc',.iface rT' rx'] 48)) (w1.heap.size+1) [.slice sa' sn' sc',.iface rT' rx'] 48 from xe_);replace l:=zy l;clear hx z)
   |(go_at_call 27;apply(F.o _ (((A_ w1 _).alloc _).alloc _)).mono;rintro e P ⟨v2,rfl,a,hm⟩;have L:=zy (G.o P _ _ ((((A_ w1 _).alloc _).alloc _).trans a u_) hm);obtain⟨T2,x2,rfl⟩:=hm.iface;have c0:=(a.bl b0 id).c0;have c1:=(a.bl b0 id).c1;have c2:=(a.bl b1 id).c0;have c3:=(a.bl b1 id).c1;replace a:=zy (((l.o.alloc _).alloc _).trans a u_);clear hm F G b0 b1)
   |(go_at_call 28;apply L.o.mono;rintro e w3 ⟨v3,rfl,H,y⟩;have C:=zy (a.o.trans H u_);have r:=ji y.dat a4 (a0.o _ C);rw[n_ B.o]at r;replace r:=zy r;have a6:=zy (λV (a:Fr w3 V N_)=>lB (w0:=w) R (y.fr a u_) (C.o.trans a u_).size ((yu.refl w).fr (C.o.trans a u_) l_ (λ_ f=>f.elim)) h8);obtain⟨T3,x3,rfl⟩:=y.iface;clear H y)
   |(go_at_call 25;apply r.o.mono;rintro e w4 ⟨rfl,u⟩;have a:=zy (a6.o w4 u);replace u:=zy (C.o.trans u u_))
   |(go_at_call 17;apply a.o.mono;rintro e a ⟨tx,_,rfl,J⟩;replace J:=zy (u.o.trans J u_)))
  refine bodyPost_ret (v:=.tuple #[.string tx,I_ j,.nilIface]) (by simp[results,results14,go_sem]) rfl ?_;rw[E.o];exact⟨_,_,_,rfl,J,rfl,gI (S.o.fr J)⟩
def eJ(w:Aw)(j:Nat)(x:DT)(e:Ak)(w':Aw):Prop:=Fr w w' N_/\∃tx k n,e=.returned (.tuple #[.string tx,Z_ k,Z_ n])/\if ndT x > 300 then tx=noB/\k=0/\n=7 else k=(j:Int)/\n=0
def iV{x:DT}(d:Calls prog 14 #[.string sw,.string sr,.string bs] w (ug w j x)):Calls prog 9 #[.string sw,.string sr,.string bs] w (eJ w j x):=by
 refine hq_ λu r=>?_;replace d:=zy (d.mono (λe w' (h:ug w j x e w')=>show ∃tx k n a,e=.returned (.tuple #[.string tx,Z_ k,a])/\Fr w w' N_/\wQ w' a n/\if ndT x > 300 then tx=noB/\k=0/\n=7 else k=(j:Int)/\n=0 by
  obtain⟨tx,k,a,he,hf,hm⟩:=h
  split at hm
  .rename_i hx
   refine⟨_,_,7,_,he,hf,hm.2.2,?_⟩
   rw[i_ hx]
   exact⟨hm.1,hm.2.1,rfl⟩
  .rename_i hx
   refine⟨_,_,0,_,he,hf,hm.2,?_⟩
   rw[n_ hx]
   exact⟨hm.1,rfl⟩))
 go_in;go_wp2_with (first
  |(go_at_call 14;apply d.o.mono;rintro e w1 ⟨tx,k,n,a,rfl,f,l,hm⟩;replace f:=zy f;have hk:=zy (l w1 (A_ _ _));replace hm:=zy hm)
  |(go_at_call 11;apply hk.o.mono;rintro e y ⟨rfl,rfl⟩))
 refine bodyPost_ret (v:=.tuple #[.string tx,Z_ k,Z_ n]) (by simp[results,results9,go_sem]) rfl ?_;rw[r.o];exact⟨f,_,_,_,rfl,hm⟩
def KA{d:DT}:∀{ds:List DT},d∈ds->ndT d<=za ds
 | [],h=>by cases h
 |a::r,h=>by
  rw[za];rcases ao_.1 h with rfl|h
  .omega
  .have:=KA h;omega
def btr(n m:Nat):Bool:=decide (0<n)&&(m==0||decide (n<m))
def jnN(ns:Ao):Nat:=if 0∈ns then 0 else if 300<1+ns.sum then 301 else 1+ns.sum
def le0(n v:Nat):Prop:=v=0\/(n≠0/\n<=v)
def le0.trans{a:Nat}(h:le0 a b)(k:le0 b c):le0 a c:=by unfold le0 at *;omega
def le0.refl(a:Nat):le0 a a:=by unfold le0;omega
def pm(h:btr v n=false):le0 n v:=by
 unfold btr at h;unfold le0;simp only[Bool.and_eq_false_iff,decide_eq_false_iff_not,Bool.or_eq_false_iff,beq_eq_false_iff_ne]at h;omega
def Vj(h:btr v n=true):0<v/\(n=0\/v<n):=by
 unfold btr at h;simp only[az_,ax_,decide_eq_true_eq,beq_iff_eq]at h;exact h
def IfV.one{v:Ax}(h:IfV v):v.oneCell'=true:=by rcases h with rfl|⟨T,x,rfl⟩<;>rfl
structure Rw(α:Type) where
 a:α
 v:List Value
 n:Nat
 d:Value
abbrev Ah:=List (Rw (PT×PT))
def Rw.cells{α:Type}(r:Rw α):List Value:=r.v++[I_ r.n,r.d]
structure TI(α:Type) where
 TT:TypeId
 RT:TypeId
 KT:TypeId
 w:Nat
 kv:α->Value
 Q:α->Prop
 num:α->Nat
 N:Nat
structure TI.OK{α:Type}(I:TI α):Prop where
 tt:I.TT≠I.RT
 keyed:Maps.Keyed prog I.KT
 key:∀a,I.Q a->∃l,keyOf prog I.KT (I.kv a)=some l
 kinj:∀a b,I.Q a->I.Q b->I.kv a=I.kv b->a=b
 lt:∀a,I.Q a->I.num a<I.N
 inj:∀a b,I.Q a->I.Q b->I.num a=I.num b->a=b
section
variable {α:Type} {I:TI α}
def qO(I:TI α)(D:DataW Unit)(T:List (Rw α)):Prop:=
 ∀a l,I.Q a->keyOf prog I.KT (I.kv a)=some l->(∀(i:Nat) (r:Rw α),T[i]?=some r->r.a=a->Maps.has D l=true/\D.atKey l (.lit (.int .i64 0))=.lit (.int .i64 (i:Int)))/\((∀r∈T,r.a≠a)->Maps.has D l=false)
def qO.nil:qO I (.map []) []:=λa l _ _=>⟨λi r h=>by simp at h,λ_=>rfl⟩
def qO.put(d:I.OK){D:DataW Unit}{T:List (Rw α)}(h:qO I D T)(u:Maps.IsMap D){r:Rw α}{l:Lit}(hr:I.Q r.a)(hl:keyOf prog I.KT (I.kv r.a)=some l)(hn:∀x∈T,x.a≠r.a):qO I (D.put l (.lit (.int .i64 (T.length:Int)))) (T++[r]):=by
 intro a m ha hm;by_cases e:a=r.a
 .subst e;rw[hl]at hm;cases hm;refine⟨λi x hx f=>?_,λk=>absurd rfl (k r x7_)⟩;have hi:i=T.length:=by
   by_cases o:i<T.length
   .rw[ar_ o]at hx;exact absurd f (hn x (ah_ hx))
   .have:=(aj_.1 hx).1;simp at this;omega
  subst hi;exact⟨Maps.has_put_same u (d.keyed.key hl) _,Maps.atKey_put_same u (d.keyed.key hl) _ _⟩
 .have z:m≠l:=λe'=>by
   subst e';exact e (d.kinj a r.a ha hr (d.keyed.inj hm hl))
  obtain⟨h1,d⟩:=h a m ha hm;rw[Maps.has_put_other z,Maps.atKey_put_other z];refine⟨λi x hx f=>?_,λk=>d (λy hy=>k y (b1_ _ hy))⟩;by_cases o:i<T.length
  .rw[ar_ o]at hx;exact h1 i x hx f
  .have:=(aj_.1 hx).1;simp at this;obtain rfl:i=T.length:=M_;rw[as_ l_,Nat.sub_self]at hx;simp only[aa_,af_]at hx;subst hx;exact absurd f.symm e
def qO.re{D:DataW Unit}{T T':List (Rw α)}(h:qO I D T)(f:T'.map Rw.a=T.map Rw.a):qO I D T':=λa l ha hl=>by
 have g:∀(d:List (Rw α)) (i:Nat) (r:Rw α),d[i]?=some r->(d.map Rw.a)[i]?=some r.a:=λd i r h=>by rw[av_,h];rfl
 have m:∀(d V:List (Rw α)),d.map Rw.a=V.map Rw.a->∀(i:Nat) (r:Rw α),d[i]?=some r->∃x,V[i]?=some x/\x.a=r.a:=λd V e i r h=>by
  have:=g d i r h;rw[e,av_]at this;cases hx:V[i]? with
  |none=>rw[hx]at this;cases this
  |some x=>rw[hx]at this;exact⟨x,rfl,by simpa using this⟩
 obtain⟨h1,d⟩:=h a l ha hl;refine⟨λi r hr e=>?_,λk=>d (λx hx e=>?_)⟩
 .obtain⟨x,hx,d⟩:=m T' T f i r hr;exact h1 i x hx (d.trans e)
 .obtain⟨i,hi⟩:=bw_ hx;obtain⟨y,hy,d⟩:=m T T' f.symm i x hi;exact k y (ah_ hy) (d.trans e)
structure TbW(I:TI α)(fb tb mb:Nat)(kf ff:Ax)(W:Aw)(rv:Ax)(g:Aq)(T:List (Rw α)):Prop where
 b:Blk W tb [kf,ff,rv,.map (some mb),.bool g] I.TT
 row:W.ownsRow (fb+1) I.RT (I.w+2) rv T.length (T.flatMap Rw.cells)
 map:∃D:DataW Unit,W.ownsMap prog I.KT (plainElem prog 3) mb T.length D/\qO I D T
 ft:fb<tb
 fm:fb<mb
 nd:(T.map Rw.a).Nodup
 q:∀r∈T,I.Q r.a/\r.v.length=I.w/\r.n<=301/\IfV r.d
def TbS(tb mb:Nat)(rv:Ax)(g:Nat):Prop:=g=tb\/g=mb\/rv.ownBlock=some g
def jy{W W':Aw}{k:Av}{R:Value->Option (DataW Unit×List MemPlace)}{D:DataW Unit}(h:W.ownsMap prog k R b n D)(hf:Fr W W' S)(hb:¬S b):W'.ownsMap prog k R b n D:=by
 have d:=h.lt;obtain⟨es,c,h1,a⟩:=h;exact⟨es,c,by rw[hf.block b d hb];exact h1,a⟩
section
variable {fb tb mb:Nat} {kf ff rv:Ax} {W W':Aw} {g:Aq} {T:List (Rw α)}
def TbW.fr(h:TbW I fb tb mb kf ff W rv g T)(hf:Fr W W' S)(a:∀x,TbS tb mb rv x->¬S x):TbW I fb tb mb kf ff W' rv g T:=by
 obtain⟨D,h1,d⟩:=h.map;exact⟨hf.bl h.b (a _ (.inl rfl)),zj h.row hf (λx e=>a x (.inr (.inr e))),⟨D,jy h1 hf (a _ (.inr (.inl rfl))),d⟩,h.ft,h.fm,h.nd,h.q⟩
def TbW.new(h:TbW I fb tb mb kf ff W rv g T)(hf:Fr W W' N_):TbW I fb tb mb kf ff W' rv g T:=h.fr hf u_
def TbW.li(h:TbW I fb tb mb kf ff W rv g T){x:Nat}(hx:TbS tb mb rv x):fb<x/\x<W.heap.size:=by
 obtain⟨D,h1,_⟩:=h.map;rcases hx with rfl|rfl|e
 .exact⟨h.ft,h.b.lt⟩
 .exact⟨h.fm,h1.lt⟩
 .have:=h.row.lt x e;omega
def TbW.ot(h:TbW I fb tb mb kf ff W rv g T){x:Nat}{cs:Dy}{t:Av}{p:Nat×Nat}(hb:W.heap[x]?=some (.cells cs t p))(h1:t≠I.TT)(d:t≠I.RT):¬TbS tb mb rv x:=by
 obtain⟨D,⟨es,c,a,_⟩,_⟩:=h.map;rintro(rfl|rfl|e)
 .have:=h.b;unfold Blk at this;rw[hb]at this;simp only[af_,Obj.cells.injEq]at this;exact h1 this.2.1
 .rw[hb]at a;cases a
 .rcases h.row.2 with⟨e',_⟩|⟨g',a,a,e',_,hg,_⟩
  .subst e';simp[Value.ownBlock]at e
  .subst e';simp only[Value.ownBlock,af_]at e;subst e;rw[hb]at hg;simp only[af_,Obj.cells.injEq]at hg;exact d hg.2.1
def gY{β:Type}{f:β->List Value}{w:Nat}:∀{l:List β},(∀x∈l,(f x).length=w)->∀{i:Nat}{r:β}{j:Nat},l[i]?=some r->j<w->(l.flatMap f)[i*w+j]?=(f r)[j]?
 | [],_,i,r,j,h,_=>by simp at h
 |x::l,hl,0,r,j,h,hj=>by
  simp only[aa_,af_]at h;subst h;rw[a8_,ar_ (by rw[hl x (by simp)];omega)]
  congr 1
  omega
 |x::l,hl,i+1,r,j,h,hj=>by
  have h0:=hl x x7_;rw[a8_,as_ (by rw[h0,Nat.add_one_mul];omega),h0,show(i+1)*w+j-w=i*w+j by rw[Nat.add_one_mul];omega];exact gY (λy hy=>hl y (by simp[hy])) za_ hj
def rp{β:Type}{f:β->List Value}{w:Nat}:∀{l:List β},(∀x∈l,(f x).length=w)->∀{i:Nat}{r r':β}{j:Nat}{u:Value},l[i]?=some r->j<w->f r'=(f r).set j u->(l.set i r').flatMap f=(l.flatMap f).set (i*w+j) u
 | [],_,i,r,r',j,u,h,_,_=>by simp at h
 |x::l,hl,0,r,r',j,u,h,hj,e=>by
  simp only[aa_,af_]at h;subst h;rw[am_,a8_,a8_,e,List.set_append_left _ _ (by rw[hl x (by simp)];omega)]
  congr 2
  omega
 |x::l,hl,i+1,r,r',j,u,h,hj,e=>by
  have h0:=hl x x7_;rw[an_,a8_,a8_,rp (λy hy=>hl y (by simp[hy])) za_ hj e,List.set_append_right _ _ (by rw[h0,Nat.add_one_mul];omega),h0,show(i+1)*w+j-w=i*w+j by rw[Nat.add_one_mul];omega]
def TbW.len(h:TbW I fb tb mb kf ff W rv g T):∀r∈T,r.cells.length=I.w+2:=λr hr=>by
 have:=(h.q r hr).2.1;simp[Rw.cells,this]
def TbW.cell(h:TbW I fb tb mb kf ff W rv g T){r:Rw α}(hr:T[i]?=some r):∃b a,rv=S_ b T.length a/\∀j,j<I.w+2->W.cell? ⟨b,i*(I.w+2)+j,none⟩=r.cells[j]?/\W.frozen? ⟨b,i*(I.w+2)+j,none⟩=false:=by
 have hi:=(aj_.1 hr).1;obtain⟨b,a,rfl⟩:=zg h.row M_;refine⟨b,a,rfl,λj a=>⟨?_,h.row.frozenAt _⟩⟩;rw[h.row.cellAt _ (by have:=b2_ (I.w+2) (Nat.succ_le_of_lt hi);rw[Nat.succ_mul]at this;omega)];exact gY h.len hr a
def TbW.apart(d:I.OK)(h:TbW I fb tb mb kf ff W rv g T):tb≠mb/\rv.ownBlock≠some tb/\rv.ownBlock≠some mb:=by
 obtain⟨D,⟨es,c,a,_⟩,_⟩:=h.map;have hb:=h.b;unfold Blk at hb;refine⟨λe=>(by rw[e,a]at hb;cases hb),λe=>?_,λe=>?_⟩;all_goals
  rcases h.row.2 with⟨e',_⟩|⟨g',f,f,e',_,hg,_⟩
  .subst e';simp[Value.ownBlock]at e
  .subst e';simp only[Value.ownBlock,af_]at e;subst e;first
    |(rw[a]at hg;cases hg;done)
    |(rw[hb]at hg;simp only[af_,Obj.cells.injEq]at hg;exact d.tt hg.2.1)
def TbW.set(B:I.OK){cap:Nat}{r:Rw α}{d:Ax}(h:TbW I fb tb mb kf ff W (S_ b T.length cap) g T)(hr:T[i]?=some r)(hn:n<=301)(hd:IfV d):TbW I fb tb mb kf ff ((W.setCell ⟨b,i*(I.w+2)+I.w,none⟩ (I_ n)).setCell ⟨b,i*(I.w+2)+(I.w+1),none⟩ d) (S_ b T.length cap) g (T.set i ⟨r.a,r.v,n,d⟩):=by
 have y:=ah_ hr;have f:=(h.q r y).2.1;have hi:=(aj_.1 hr).1;obtain⟨D,h1,G⟩:=h.map;obtain⟨_,C,E⟩:=h.apart B;have o:Fr W ((W.setCell ⟨b,i*(I.w+2)+I.w,none⟩ (I_ n)).setCell ⟨b,i*(I.w+2)+(I.w+1),none⟩ d) (λx=>x=b):=J_ W b _ _ _ _;have u:(T.set i ⟨r.a,r.v,n,d⟩).map Rw.a=T.map Rw.a:=by
  rw[List.map_set];apply List.ext_getElem?;intro k;rw[by_];split
  .rename_i e;subst e;rw[av_,hr];simp[hi]
  .rfl
 have F:(T.set i ⟨r.a,r.v,n,r.d⟩).flatMap Rw.cells=(T.flatMap Rw.cells).set (i*(I.w+2)+I.w) (I_ n):=rp h.len hr M_ (by
  simp only[Rw.cells]
  rw[List.set_append_right _ _ M_,f,Nat.sub_self]
  rfl)
 have H:∀x∈T.set i ⟨r.a,r.v,n,r.d⟩,x.cells.length=I.w+2:=λx hx=>by
  rcases List.mem_or_eq_of_mem_set hx with hx|rfl
  .exact h.len x hx
  .simp[Rw.cells,f]
 have l:((T.set i ⟨r.a,r.v,n,r.d⟩).set i ⟨r.a,r.v,n,d⟩).flatMap Rw.cells=((T.set i ⟨r.a,r.v,n,r.d⟩).flatMap Rw.cells).set (i*(I.w+2)+(I.w+1)) d:=rp H (r:=⟨r.a,r.v,n,r.d⟩) (by rw[by_,i_ rfl,i_ hi]) M_ (by
  simp only[Rw.cells]
  rw[List.set_append_right _ _ M_,f,show I.w+1-I.w=1 by omega]
  rfl)
 rw[List.set_set]at l;have z:=(h.row.stored (i*(I.w+2)+I.w) (I_ n)).1;rw[<- F]at z;have A:=(z.stored (i*(I.w+2)+(I.w+1)) d).1;rw[<- l]at A;have hs:(T.set i ⟨r.a,r.v,n,d⟩).length=T.length:=bn_;refine⟨o.bl h.b (λe=>C zo_),by rw[hs];exact A,⟨D,by rw[hs];exact jy h1 o (λe=>E zo_),G.re u⟩,h.ft,h.fm,by rw[u];exact h.nd,λx hx=>?_⟩;rcases List.mem_or_eq_of_mem_set hx with hx|rfl
 .exact h.q x hx
 .exact⟨(h.q r y).1,f,hn,hd⟩
def TbW.flag(a:I.OK)(h:TbW I fb tb mb kf ff W rv g T)(u:Aq):TbW I fb tb mb kf ff (W.setCell ⟨tb,4,none⟩ (.bool u)) rv u T:=by
 obtain⟨d,f,_⟩:=h.apart a;obtain⟨D,h1,l⟩:=h.map;have a:=X_ W ⟨tb,4,none⟩ (.bool u);exact⟨h.b.set 4 _,zj h.row a (λx e k=>f (by rw[e,show x=tb from k])),⟨D,jy h1 a (λe=>d e.symm),l⟩,h.ft,h.fm,h.nd,h.q⟩
end
def Stp(W W':Aw)(S S':Az):Prop:=Fr W W' S/\∀x,x<W.heap.size->S' x->S x
def Stp.trans{W f:Aw}{a d:Az}(h:Stp W W1 S a)(k:Stp W1 f a d):Stp W f S d:=
 ⟨h.1.trans k.1 (λx hx e=>h.2 x hx e),λx hx e=>h.2 x hx (k.2 x (bi_ hx h.1.size) e)⟩
def Stp.fr{W:Aw}{S':Az}(h:Fr W W1 N_)(a:∀x,S' x->S x):Stp W W1 S S':=⟨h.mono v_,λx _ e=>a x e⟩
def C_:=@Stp.fr
section
variable {fb tb mb:Nat} {kf ff rv:Ax} {W W':Aw} {g:Aq} {T:List (Rw α)}
def TbW.push(B:I.OK)(h:TbW I fb tb mb kf ff W rv g T){r:Rw α}{l:Lit}{D:DataW Unit}{u o:Aw}{f:Ax}(G:I.Q r.a/\r.v.length=I.w/\r.n<=301/\IfV r.d)(hn:∀x∈T,x.a≠r.a)(hl:keyOf prog I.KT (I.kv r.a)=some l)(N:qO I D T)(hm:Maps.IsMap D)(h1:W1.ownsMap prog I.KT (plainElem prog 3) mb (T.length+1) (D.put l (.lit (.int .i64 (T.length:Int)))))(K:W.grownBy W1 (some mb))(F:Fr W1 u N_)(L:u.grownBy o rv.ownBlock)(M:o.ownsRow (fb+1) I.RT (I.w+2) f (T.length+1) (T.flatMap Rw.cells++r.cells))(hv:f.ownBlock=rv.ownBlock\/∃x,f.ownBlock=some x/\u.heap.size<=x):TbW I fb tb mb kf ff (o.setCell ⟨tb,2,none⟩ f) f g (T++[r])/\Stp W (o.setCell ⟨tb,2,none⟩ f) (TbS tb mb rv) (TbS tb mb f):=by
 obtain⟨C,E,H⟩:=h.apart B;have J:Fr W W1 (λx=>x=mb):=(A_ W _).gw K (λk e _=>by simpa using e.symm);have A:Fr W u (λx=>x=mb):=J.trans F v_;have f3:Fr u o (λx=>rv.ownBlock=some x):=(A_ u _).gw L (λk e _=>e);have f4:Fr o (o.setCell ⟨tb,2,none⟩ f) (λx=>x=tb):=X_ _ _ _;have o:=f3.bl (A.bl h.b C) E;have u:=h1.lt;have u:=A.size;have u:=h.b.lt;have u:f.ownBlock≠some tb:=λe=>by
  rcases hv with hv|⟨x,hv,hx⟩
  .exact E (hv▸e)
  .rw[hv]at e;simp only[af_]at e;omega
 refine⟨⟨o.set 2 f,?_,⟨_,?_,N.put B hm G.1 hl hn⟩,h.ft,h.fm,?_,λx hx=>?_⟩,?_,λx hx e=>?_⟩
 .rw[ag_,ap_,ba_];simpa using zj M f4 (λx e k=>u (by rw[e,k]))
 .rw[ag_,ap_];exact jy (jy (jy h1 F id) f3 H) f4 (λe=>C e.symm)
 .rw[bd_,List.nodup_append];refine⟨h.nd,by simp,λx hx y hy e=>?_⟩;simp only[aw_,be_,a0_]at hy;obtain⟨z,hz,rfl⟩:=a5_.1 hx;exact hn z hz (e.trans hy)
 .rcases a1_.1 hx with hx|hx
  .exact h.q x hx
  .simp only[a0_]at hx;subst hx;exact G
 .refine((A.mono (T:=TbS tb mb rv) (λx _ e=>.inr (.inl e))).trans f3 (λx _ e=>.inr (.inr e))).trans f4 (λx _ e=>.inl e)
 .rcases e with e|e|e
  .exact .inl e
  .exact .inr (.inl e)
  .rcases hv with hv|⟨y,hv,hy⟩
   .exact .inr (.inr (hv▸e))
   .rw[hv]at e;simp only[af_]at e;omega
end
def Stb(Cl:List (Rw α)->α->Nat->Prop)(T:List (Rw α))(r:Rw α):Prop:=∃v,Cl T r.a v/\btr v r.n=false
def Grw(Cl:List (Rw α)->α->Nat->Prop)(T T':List (Rw α))(g g':Aq):Prop:=
 ∃R,T'=T++R/\(g=true->g'=true)/\(g'=true->g=true\/R≠[])/\(g'=false->∀r∈R,Stb Cl T' r)
def Qi(Cl:List (Rw α)->α->Nat->Prop):Prop:=∀T R a v,Cl T a v->Cl (T++R) a v
section
variable {Cl:List (Rw α)->α->Nat->Prop} {T T' T'':List (Rw α)} {g g' g'':Aq}
def Stb.more(M:Qi Cl){r:Rw α}(h:Stb Cl T r)(R:List (Rw α)):Stb Cl (T++R) r:=by
 obtain⟨v,h1,a⟩:=h;exact⟨v,M _ _ _ _ h1,a⟩
def Grw.refl(T:List (Rw α))(g:Aq):Grw Cl T T g g:=⟨[],by simp,id,.inl,λ_ r h=>by simp at h⟩
def Grw.trans(M:Qi Cl)(h:Grw Cl T T' g g')(k:Grw Cl T' T'' g' g''):Grw Cl T T'' g g'':=by
 obtain⟨R,rfl,h1,f,l⟩:=h;obtain⟨a,rfl,d,o,u⟩:=k;refine⟨R++a,by simp,λe=>d (h1 e),λe=>?_,λe r hr=>?_⟩
 .rcases o e with e|e
  .rcases f e with e|e
   .exact .inl e
   .exact .inr (by simp[e])
  .exact .inr (by simp[e])
 .have e':g'=false:=by
   cases g' with
   |false=>rfl
   |true=>rw[d rfl]at e;cases e
  rcases a1_.1 hr with hr|hr
  .exact(l e' r hr).more M a
  .exact u e r hr
def phi(N:Nat)(T:List (Rw α)):Nat:=303*(N-T.length)+(T.map λr=>if r.n=0 then 302 else r.n).sum
def au{N:Nat}{T:List (Rw α)}:∀{R:List (Rw α)},(T++R).length<=N->(∀r∈R,r.n<=301)->phi N (T++R)+R.length<=phi N T:=by
 intro R hl d;have a:∀l:List (Rw α),(∀r∈l,r.n<=301)->(l.map λr=>if r.n=0 then 302 else r.n).sum<=302*l.length:=by
  intro l;induction l with
  |nil=>intro _;simp
  |cons x l ih=>
   intro h;have h0:=h x x7_;have:=ih (λr hr=>h r (by simp[hr]));simp only[aw_,List.sum_cons,a3_];split<;>omega
 have e:=a R d;unfold phi;rw[ag_]at hl⊢;rw[bd_,List.sum_append];omega
def Fp{N:Nat}:∀{T:List (Rw α)}{i:Nat}{r r':Rw α},T[i]?=some r->r.n<=301->btr r'.n r.n=true->r'.n<=301->phi N (T.set i r')+1<=phi N T:=by
 intro T i r r' hr h1 hb a;have a:=Vj hb;have:∀(T:List (Rw α)) (i:Nat),T[i]?=some r->((T.set i r').map λr=>if r.n=0 then 302 else r.n).sum+1<=(T.map λr=>if r.n=0 then 302 else r.n).sum:=by
  intro T;induction T with
  |nil=>intro i h;simp at h
  |cons x l ih=>
   intro i h;cases i with
   |zero=>
    simp only[aa_,af_]at h;subst h;simp only[am_,aw_,List.sum_cons];split<;>split<;>omega
   |succ i=>
    have:=ih i za_;simp only[an_,aw_,List.sum_cons];omega
 have a:=this T i hr;unfold phi;rw[bn_];omega
def KJ:∀(N:Nat) (l:List Nat),l.Nodup->(∀x∈l,x<N)->l.length<=N
 | 0,l,_,h=>by
  cases l with
  |nil=>simp
  |cons x r=>exact absurd (h x (by simp)) M_
 | N+1,l,hd,h=>by
  have h1:=KJ N (l.filter λx=>decide (x<N)) (hd.sublist List.filter_sublist) (λx hx=>by simpa using(List.mem_filter.1 hx).2);have a:l.length<=(l.filter λx=>decide (x<N)).length+1:=by
   clear h1;induction l with
   |nil=>simp
   |cons x r ih=>
    rw[List.nodup_cons]at hd;have h0:=h x x7_;by_cases hx:x<N
    .have:=ih hd.2 (λy hy=>h y (by simp[hy]));rw[List.filter_cons,i_ (by simpa using hx)];simp only[a3_];omega
    .have he:r.filter (λx=>decide (x<N))=r:=List.filter_eq_self.2 (λy hy=>by
      have a:=h y (by simp[hy])
      have:y≠x:=λe=>hd.1 (e▸hy)
      simp only[decide_eq_true_eq]
      omega)
     rw[List.filter_cons,n_ (by simpa using hx),he];simp
  omega
end
def wL(f:I.OK){T:List (Rw α)}(hd:(T.map Rw.a).Nodup)(d:∀r∈T,I.Q r.a):T.length<=I.N:=by
 have h:=KJ I.N (T.map λr=>I.num r.a) (by
  have:(T.map λr=>I.num r.a)=(T.map Rw.a).map I.num:=x7_
  rw[this]
  refine List.Pairwise.map I.num (R:=λa b=>a≠b/\I.Q a/\I.Q b) (λa b h e=>h.1 (f.inj a b h.2.1 h.2.2 e)) ?_
  refine List.Pairwise.imp_of_mem (R:=(·≠·)) (λ{a b} ha hb hne=>⟨hne,?_,?_⟩) hd
  .obtain⟨r,hr,rfl⟩:=a5_.1 ha
   exact d r hr
  .obtain⟨r,hr,rfl⟩:=a5_.1 hb
   exact d r hr) (λx hx=>by
  obtain⟨r,hr,rfl⟩:=a5_.1 hx
  exact f.lt _ (d r hr))
 simpa using h
def lh(d:I.OK){T:List (Rw α)}{a:α}(hd:(T.map Rw.a).Nodup)(f:∀r∈T,I.Q r.a)(ha:I.Q a)(hn:∀r∈T,r.a≠a):T.length<I.N:=by
 have:=wL d (T:=⟨a,[],0,.nilIface⟩::T) (by
  rw[aw_,List.nodup_cons]
  exact⟨λh=>by obtain⟨r,hr,e⟩:=a5_.1 h;exact hn r hr e,hd⟩) (λr hr=>by
  rcases ao_.1 hr with rfl|hr
  .exact ha
  .exact f r hr)
 have h:T.length+1<=I.N:=by simpa using this
 omega
end
def jA{dv:Ax}:Calls prog 202 #[.agg #[I_ n,dv],.agg #[I_ m,kv]] w λe w'=>e=.returned (.bool (btr n m))/\Fr w w' N_:=by
 refine hq_ λr d=>?_;have a:=zy (λo r=>((A_ w N_).alloc o).alloc r);by_cases h0:0<n
 .have f:(n:Int) > 0:=M_;by_cases h1:m=0
  .have h:((m:Int)==0)=true:=by rw[beq_iff_eq];omega
   have hb:=zy (show btr n m=true by unfold btr;simp[h0,h1]);go_in;go_wp2;try go_ret
   rw[d.o,hb.o];exact⟨rfl,a.o _ _⟩
  .have h:((m:Int)==0)=false:=xi_
   by_cases h:n<m
   .have l:(n:Int)<(m:Int):=M_;have hb:=zy (show btr n m=true by unfold btr;simp[h0,h]);go_in;go_wp2;try go_ret
    rw[d.o,hb.o];exact⟨rfl,a.o _ _⟩
   .have l:¬((n:Int)<(m:Int)):=M_;have hb:=zy (show btr n m=false by unfold btr;simp[h1];omega);go_in;go_wp2;try go_ret
    rw[d.o,hb.o];exact⟨rfl,a.o _ _⟩
 .have f:¬((n:Int) > 0):=M_;have hb:=zy (show btr n m=false by unfold btr;simp[h0]);go_in;go_wp2;try go_ret
  rw[d.o,hb.o];exact⟨rfl,a.o _ _⟩
def pn{dv:Ax}(hd:IfV dv)(hk:IfV kv):Calls prog 148 #[.agg #[I_ n,dv],.agg #[I_ m,kv]] w λe w'=>e=.returned (if btr m n=true then .agg #[I_ m,kv] else .agg #[I_ n,dv])/\Fr w w' N_:=by
 refine hq_ λf y=>?_;have hB:=zy (λW=>jA (w:=W) (n:=m) (m:=n) (dv:=kv) (kv:=dv));have l:Blk (((w.alloc (.cells #[I_ n,dv] 85)).alloc (.cells #[I_ m,kv] 85)).alloc (.cells #[O_,.nilIface] 85)) w.heap.size [I_ n,dv] 85:=((B_ w #[I_ n,dv] 85).alloc _).alloc _;have r:Blk (((w.alloc (.cells #[I_ n,dv] 85)).alloc (.cells #[I_ m,kv] 85)).alloc (.cells #[O_,.nilIface] 85)) (w.heap.size+1) [I_ m,kv] 85:=by
  have h:=(B_ (w.alloc (.cells #[I_ n,dv] 85)) #[I_ m,kv] 85).alloc (.cells #[O_,.nilIface] 85);rw[zm]at h;exact h
 have u:Blk (((w.alloc (.cells #[I_ n,dv] 85)).alloc (.cells #[I_ m,kv] 85)).alloc (.cells #[O_,.nilIface] 85)) (w.heap.size+1+1) [O_,.nilIface] 85:=by
  have h:=B_ ((w.alloc (.cells #[I_ n,dv] 85)).alloc (.cells #[I_ m,kv] 85)) #[O_,.nilIface] 85;rw[zm,zm]at h;exact h
 have A:=zy (λo f B=>(((A_ w N_).alloc o).alloc f).alloc B);revert l r u;refine h_ λl r u=>?_;have fin:H_ (∀(w1:World) (a b:Value),Fr w w1 N_->Fr w ((w1.setCell ⟨w.heap.size+1+1,0,none⟩ a).setCell ⟨w.heap.size+1+1,1,none⟩ b) N_):=zy (λw1 a b h=>h.trans (Fr.pa w1 (w.heap.size+1+1) a b) (λx hx e=>M_));have f:=λW a m=>run_store prog W a dv m hd.one;have f:=λW a m=>run_store prog W a kv m hk.one;cases hb:btr m n;all_goals
  rw[hb]at y hB;go_in;go_wp2_with (go_at_call 202;apply(hB.o _).mono;rintro e w1 ⟨rfl,f⟩;have B:=(f.bl l id).c0;have B:=(f.bl l id).c1;have b0:=(f.bl r id).c0;have b1:=(f.bl r id).c1;have d:=f.bl u id;have r0:=d.c0;have r1:=d.c1;have l:=d.th 0;have l:=d.th 1;have z:=zy ((A.o _ _ _).trans f u_);have d:=zy d)
 .have P:=V_ d (I_ n) dv;have q0:=P.c0;have q1:=P.c1;refine bodyPost_ret (v:=.agg #[I_ n,dv]) z4_ rfl ?_;rw[y.o];exact⟨rfl,fin.o _ _ _ z⟩
 .have P:=V_ d (I_ m) kv;have q0:=P.c0;have q1:=P.c1;refine bodyPost_ret (v:=.agg #[I_ m,kv]) z4_ rfl ?_;rw[y.o];exact⟨rfl,fin.o _ _ _ z⟩
def kR(w:Aw)(lv:Ax)(ns:Ao)(D:Ai):Prop:=
 w.ownsRow 0 85 2 lv ns.length ((List.range ns.length).flatMap λi=>[Z_ ((ns.getD i 0:Nat):Int),D i])
def kR.cells{g:Nat}(h:kR w (S_ g ns.length c) ns D)(a:ns[q]?=some n):w.cell? ⟨g,q*2,none⟩=some (I_ n)/\w.cell? ⟨g,q*2+1,none⟩=some (D q):=by
 have f:=(aj_.1 a).1;have hg:∀(m:Nat) (k:Nat),k<m->((List.range m).flatMap λi=>[Value.int .i64 ((ns.getD i 0:Nat):Int),D i])[k*2]?=some (Value.int .i64 ((ns.getD k 0:Nat):Int))/\((List.range m).flatMap λi=>[Value.int .i64 ((ns.getD i 0:Nat):Int),D i])[k*2+1]?=some (D k):=by
  intro m;induction m with
  |zero=>intro k h;omega
  |succ m ih=>
   intro k hk;have hl:((List.range m).flatMap λi=>[Value.int .i64 ((ns.getD i 0:Nat):Int),D i]).length=m*2:=by
    clear ih hk;induction m with
    |zero=>rfl
    |succ m ih=>rw[bs_,ba_,ag_,ih];simp;omega
   rw[bs_,ba_];by_cases d:k<m
   .rw[ar_ M_,ar_ M_];exact ih k d
   .obtain rfl:k=m:=M_;rw[as_ M_,as_ M_,hl];simp[show k*2+1-k*2=1 by omega]
 obtain⟨h1,d⟩:=hg ns.length q f;have e:ns.getD q 0=n:=by rw[au_,a];rfl
 rw[e]at h1;exact⟨zr h rfl h1,zr h rfl d⟩
def dY(h:ns[q]?=some n):(ns.take (q+1)).sum=(ns.take q).sum+n:=by
 rw[a7_,h];simp
def QS:Tryz.prog.underlying 143=some (.slice 52):=K_
structure JnM(w:Aw)(ns:Ao)(D:Ai)(q:Nat)(pv:Ax)(W:Aw):Prop where
 fr:Fr w W N_
 b:Blk W w.heap.size [O_,.nilIface] 85
 bB:w.heap.size+1<=W.heap.size
 nz:0∉ns.take q
 row:W.ownsRow (w.heap.size+1) 52 1 pv q ((List.range q).flatMap λi=>[D i])
def JnM.call{W W':Aw}(h:JnM w ns D q pv W)(hf:Fr W W' N_):JnM w ns D q pv W':=
 ⟨h.fr.trans hf u_,hf.bl h.b id,ak_ h.bB hf.size,h.nz,zj h.row hf u_⟩
def JnM.item{W a:Aw}{d:Ax}{o:Obj}(h:JnM w ns D q pv W)(f:ns[q]?=some n)(hn:n≠0)(hg:(W.alloc o).grownBy a pv.ownBlock)(ho:a.ownsRow (w.heap.size+1) 52 1 d (q+1) (((List.range q).flatMap λi=>[D i])++[D q])):JnM w ns D (q+1) d a:=by
 have d:Fr W a (λg=>pv.ownBlock=some g):=((A_ W _).alloc o).gw hg (λk e _=>e);have a:∀g,pv.ownBlock=some g->w.heap.size+1<=g:=λg e=>(h.row.lt g e).1;refine⟨h.fr.trans d (λx hx e=>absurd (a x e) M_),d.bl h.b (λe=>o1_ (a _ e)),ak_ h.bB d.size,?_,?_⟩
 .rw[a7_,f];simp only[Option.toList_some,a1_,a0_,not_or];exact⟨h.nz,λe=>hn e.symm⟩
 .rw[bs_,ba_];simpa using ho
def wu{lv:Ax}{fn:Et}{caps:Dy}{R:Ex}(ho:kR w lv ns D)(B:∀i,IfV (D i))(hn:∀n∈ns,n<=301)(hl:ns.length<=300)(H:∀H W,(callFunc fn H).run prog W=.ok (.enter fn H) W)(hB:∀W pv,Fr w W N_->W.ownsRow (w.heap.size+1) 52 1 pv ns.length ((List.range ns.length).flatMap λi=>[D i])->Calls prog fn (#[pv]++caps) W (λe w'=>∃v,e=.returned v/\IfV v/\Fr W w' N_/\R v w'))(z:∀v W W',R v W->Fr W W' (λg=>g=w.heap.size)->R v W'):Calls prog 146 #[lv,.func (.func fn) #[] caps] w λe w'=>∃v,e=.returned (.agg #[Z_ (jnN ns:Int),v])/\IfV v/\Fr w w' N_/\(jnN ns=0\/jnN ns=301->v=.nilIface)/\(1<=jnN ns->jnN ns<=300->R v w'):=by
 refine hq_ λH y=>?_;obtain⟨H,H,rfl⟩:=zw ho;have start:JnM w ns D 0 (L_) (w.alloc (.cells #[O_,.nilIface] 85)):=⟨(A_ w _).alloc _,B_ w _ _,by rw[zm];exact l_,by simp,World.ownsRow_nil _ _ _ _⟩;replace start:=zy start;replace ho:=zy ho;replace hB:=zy hB;replace z:=zy z;replace B:=zy B;replace hn:=zy hn;go_in;go_wp2;go_loopg [5,6,11] (ns.length+1) (λm O H v W=>∃q:Nat,O=Z_ ((1+(ns.take q).sum:Nat):Int)/\v=I_ q/\q<=ns.length/\ns.length+1-q<=m/\(ns.take q).sum<=301*q/\H_ (JnM w ns D q H W));case atStart=>exact⟨0,by simp,rfl,al_ _,M_,by simp,start⟩
 case round=>
  obtain⟨q,rfl,rfl,H,hm,F,d⟩:=hrel;obtain⟨pa,N,rfl⟩:=zw d.o.row;by_cases M:q<ns.length
  .have C:(q:Int)<(ns.length:Int):=M_;have r:ns[q]?=some ns[q]:=ai_ M;generalize ns[q]=n at r;have H:=hn.o n (ah_ r);have u:=dY r;obtain⟨g,H,H⟩:=zg ho M_;cases H;obtain⟨J,Q⟩:=kR.cells (zj ho d.o.fr u_) r;have K:=B.o q;have Z:=λW a m=>run_store prog W a (D q) m K.one;have b0:=d.o.b.c0;have b1:=d.o.b.c1;have t0:=d.o.b.th 0;have t1:=d.o.b.th 1;have U:=d.o.bB;have G:=(A_ wr N_).alloc (.cells #[I_ n,D q] 85);have f:=zy (d.o.call G);have X:=zy (ah_ r);obtain⟨S,l⟩:=x_ ((ns.take q).sum);rw[l]at u F;rw[l];replace r:=zy r;replace u:=zy u;replace l:=zy l;by_cases hz:n=0
   .subst hz;have hr:=zy (show jnN ns=0 by unfold jnN;rw[i_ X.o]);replace f:H_ (JnM w ns D q (.slice pa q N) (wr.alloc (.cells #[O_,D q] 85))):=f;replace J:wr.cell? ⟨g,q*2,none⟩=some (O_):=J;have c0:=f.o.b.c0;have c1:=f.o.b.c1;have u0:=f.o.b.th 0;have u1:=f.o.b.th 1;go_wp2;have P:=V_ f.o.b (O_) .nilIface;have q0:=P.c0;have q1:=P.c1;refine bodyPost_ret (v:=.agg #[O_,.nilIface]) xv_ rfl ?_;rw[y.o,hr.o];exact⟨_,rfl,.inl rfl,f.o.fr.trans (Fr.pa _ _ _ _) (λx hx e=>M_),λ_=>rfl,λh=>M_⟩
   .have B:((n:Int)==0)=false:=xi_
    obtain⟨ti,B,G,H,J⟩:=info_parts qP;have X:=zy hz;rcases K with hv|⟨dT,K,hv⟩;all_goals
     rw[hv]at Q f;have hv:=zy hv;have K:=zy f.o.row;have c0:=f.o.b.c0;have c1:=f.o.b.c1;have u0:=f.o.b.th 0;have u1:=f.o.b.th 1
     go_wp2_with (at_builtin;go_must (refine wpList_append_own_at _ rfl _ _ 143 rfl (w.heap.size+1) 52 ti _ 1 16 QS B G H J rfl D_ (.slice pa q N) q ((List.range q).flatMap λi=>[D i]) rfl ?hown _ 1 1 [_] rfl rfl (zK _ #[_] _ _ ?nn) ?one ?b1 ?b2 ?b3 ?_)
                  case hown=>exact World.ownsRow.alloc K _
                  case nn=>simp
                  case one=>simp[Value.oneCell']
                  case b1=>unfold maxLen;omega
                  case b2=>omega
                  case b3=>simp;omega
                  intro O B E L Y V
                  have A:=f.o.item r X L (by rw[hv.o];exact E)
                  obtain⟨f,f,rfl⟩:=zg E M_
                  replace A:=zy A)
     go_roundg (ns.length+1-(q+1));case measure=>omega
     case rel=>exact⟨q+1,by rw[u.o];simp;omega,by simp,M,l_,by rw[u.o];omega,A⟩
  .have C:¬((q:Int)<(ns.length:Int)):=M_;obtain rfl:q=ns.length:=M_;have f:=d.o.nz;rw[List.take_length]at f F⊢;obtain⟨S,l⟩:=x_ (1+ns.sum);rw[l];have B:S<=1+301*ns.length:=M_;have l:=zy l;have b0:=d.o.b.c0;have b1:=d.o.b.c1;have t0:=d.o.b.th 0;have t1:=d.o.b.th 1;have U:=d.o.bB;by_cases hb:300<S
   .have G:(S:Int) > 300:=M_;have hr:=zy (show jnN ns=301 by unfold jnN;rw[n_ f,l.o,i_ hb]);go_wp2;have P:=V_ d.o.b (Z_ 301) .nilIface;have q0:=P.c0;have q1:=P.c1;refine bodyPost_ret (v:=.agg #[Z_ 301,.nilIface]) xv_ rfl ?_;rw[y.o,hr.o];exact⟨_,rfl,.inl rfl,d.o.fr.trans (Fr.pa _ _ _ _) (λx hx e=>M_),λ_=>rfl,λ_ h=>M_⟩
   .have G:¬((S:Int) > 300):=M_;have hr:=zy (show jnN ns=S by unfold jnN;rw[n_ f,l.o,n_ hb]);have l:=zy (hB.o wr _ d.o.fr d.o.row);go_wp2_with (apply l.o.mono;rintro e f ⟨f,rfl,l,f,r⟩;have P2:=f.bl d.o.b id;have k0:=P2.c0;have B:=P2.c1;have B:=P2.th 0;have l1:=P2.th 1;have A:=zy (d.o.fr.trans f u_);have P2:=zy P2;have r:=zy r;rcases l with rfl|⟨u,E,rfl⟩)
    .have P:=V_ P2 (I_ S) .nilIface;have q0:=P.c0;have q1:=P.c1;refine bodyPost_ret (v:=.agg #[I_ S,.nilIface]) xv_ rfl ?_;rw[y.o,hr.o];exact⟨_,rfl,.inl rfl,A.o.trans (Fr.pa _ _ _ _) (λx hx e=>M_),λ_=>rfl,λ_ _=>z.o _ _ _ r (Fr.pa _ _ _ _)⟩
    .have P:=V_ P2 (I_ S) (.iface u E);have q0:=P.c0;have q1:=P.c1;refine bodyPost_ret (v:=.agg #[I_ S,.iface u E]) xv_ rfl ?_;rw[y.o,hr.o];exact⟨_,rfl,.inr ⟨_,_,rfl⟩,A.o.trans (Fr.pa _ _ _ _) (λx hx e=>M_),λh=>M_,λ_ _=>z.o _ _ _ r (Fr.pa _ _ _ _)⟩
def qZ{f:Et}{fn:Func}{c:Code}(hf:Tryz.prog.funcs[f]?=some fn)(d:(fn.name == "runtime.NumGoroutine")=false)(hb:fn.body=some c):∀a W,(callFunc f a).run prog W=.ok (.enter f a) W:=by
 intro a w
 have h1:fn.name≠ "runtime.NumGoroutine":=by simpa using d
 simp[callFunc,hf,h1,hb,mark]
def cU{B g:Nat}{e:Av}{cs:Ay}(h:Blk w g cs e)(hb:B<=g)(hl:cs.length=n*k)(hn:n<=maxLen):w.ownsRow B e k (S_ g n n) n cs:=
 ⟨hl,.inr ⟨g,n,cs.toArray,rfl,hb,h,l_,hn,by simp[hl],by simp[<- hl]⟩⟩
def Xp{dv:Ax}{T:Av}(h:Blk w b [dv] T):Calls prog 147 #[pv,P_ b] w λe w'=>e=.returned dv/\Fr w w' N_:=by
 refine hq_ λa a=>?_;have c0:=h.c0;go_in;go_wp2;try go_ret
 rw[a.o];exact⟨rfl,A_ _ _⟩
def nR{T:Av}{x:Ax}:Calls prog 87 #[.iface T x] w λe w'=>e=.returned (.agg #[Z_ 1,.iface T x])/\Fr w w' N_:=by
 refine hq_ λy l=>?_;obtain⟨w1,hw1⟩:=e_ ((w.alloc (.cells #[.iface T x] 52)).alloc (.cells #[O_,.nilIface] 85));have d:Fr w w1 N_:=xz_
 have f:Blk w1 w.heap.size [.iface T x] 52:=by rw[hw1];exact(B_ w #[.iface T x] 52).alloc _
 have a:Blk w1 (w.heap.size+1) [O_,.nilIface] 85:=by
  rw[hw1];have h:=B_ (w.alloc (.cells #[.iface T x] 52)) #[O_,.nilIface] 85;rw[zm]at h;exact h
 have hz:w1.heap.size=w.heap.size+2:=by rw[hw1,zm,zm]
 have r:=zy (wu (w:=w1) (lv:=L_) (ns:=[]) (D:=λ_=>.iface T x) (fn:=147) (caps:=#[P_ w.heap.size]) (R:=λv _=>v=.iface T x) (World.ownsRow_nil _ _ _ _) (λ_=>.inr ⟨_,_,rfl⟩) (λn h=>by cases h) x7_ (qZ func147 K_ rfl)
  (λW pv y _=>(Xp (pv:=pv) (y.bl f id)).mono (λe w' q=>⟨_,q.1,.inr ⟨_,_,rfl⟩,q.2,rfl⟩)) (λv W W' h _=>h))
 replace hw1:=zy hw1;replace d:=zy d;replace a:=zy a;replace hz:=zy hz;go_in;go_wp2_with (go_at_call 146;rw[<- hw1.o];apply r.o.mono;rintro e f ⟨v,rfl,_,f,_,hv⟩;obtain rfl:=hv D_ D_;rw[show((jnN []:Nat):Int)=1 from rfl];have P2:=f.bl a id;have k0:=P2.c0;have a:=P2.c1;have a:=P2.th 0;have l1:=P2.th 1;have u:=zy (d.o.trans f u_);have P2:=zy P2);have P:=V_ P2 (Z_ 1) (.iface T x);have a:=P.c0;have d:=P.c1;refine bodyPost_ret (v:=.agg #[Z_ 1,.iface T x]) (by simp[results,results87,go_sem,a,d]) rfl ?_;rw[l.o];exact⟨rfl,u.o.trans (Fr.pa _ _ _ _) (λx hx e=>M_)⟩
def tq{dT:Ax}{T:Av}{B:Nat}(a:IfV (D 0))(h:Blk w b [I_ n] T)(ho:w.ownsRow B 52 1 pv 1 ((List.range 1).flatMap λi=>[D i]))(d:dT=D 0):Calls prog 203 #[pv,P_ b] w λe w'=>e=.returned (.iface 150 (.agg #[I_ n,dT]))/\Fr w w' N_:=by
 refine hq_ λl f=>?_;have c0:=h.c0;obtain⟨g,l,rfl⟩:=zg ho M_;have l:w.cell? ⟨g,0,none⟩=some (D 0):=qQ (yl ho) (Nat.lt_add_one 0);rw[<- d]at l a;clear h ho d;rcases a with rfl|⟨dT,a,rfl⟩;all_goals
  go_in;go_wp2;go_quiet (fail);go_wp2;try go_ret
  rw[f.o];exact⟨rfl,(A_ _ _).si (zq.drewN _ _)⟩
def BrR(n:Nat)(kv v:Ax):Prop:=v=.iface 150 (.agg #[I_ n,kv])
def mU(hk:IfV kv)(hm:m<=301):Calls prog 149 #[I_ n,.agg #[I_ m,kv]] w λe w'=>∃v,e=.returned (.agg #[Z_ (jnN [m]:Int),v])/\IfV v/\Fr w w' N_/\(jnN [m]=0\/jnN [m]=301->v=.nilIface)/\(1<=jnN [m]->jnN [m]<=300->BrR n kv v):=by
 refine hq_ λE A=>?_;obtain⟨w1,d⟩:=e_ ((((w.alloc (.cells #[I_ n] 3)).alloc (.cells #[I_ m,kv] 85)).alloc (.cells #[O_,.nilIface] 85)).alloc (.cells #[I_ m,kv] 85));have r:Fr w w1 N_:=by rw[d];exact((((A_ w _).alloc _).alloc _).alloc _).alloc _
 have z:Blk w1 w.heap.size [I_ n] 3:=by rw[d];exact(((B_ w #[I_ n] 3).alloc _).alloc _).alloc _
 have l:Blk w1 (w.heap.size+1+1) [O_,.nilIface] 85:=by
  rw[d];have h:=(B_ ((w.alloc (.cells #[I_ n] 3)).alloc (.cells #[I_ m,kv] 85)) #[O_,.nilIface] 85).alloc (.cells #[I_ m,kv] 85);rw[zm,zm]at h;exact h
 have ho:kR w1 (S_ (w.heap.size+1+1+1) 1 1) [m] (λ_=>kv):=by
  have h:=B_ (((w.alloc (.cells #[I_ n] 3)).alloc (.cells #[I_ m,kv] 85)).alloc (.cells #[O_,.nilIface] 85)) #[I_ m,kv] 85;rw[zm,zm,zm,<- d]at h;exact cU h o_ rfl xt_
 have B:=zy (wu (w:=w1) (ns:=[m]) (D:=λ_=>kv) (fn:=203) (caps:=#[P_ w.heap.size]) (R:=λv _=>BrR n kv v) ho (λ_=>hk) (λn h=>by simp only[a0_]at h;omega) x7_ (qZ func203 K_ rfl)
  (λW pv E hr=>(tq (D:=λ_=>kv) hk (E.bl z id) hr rfl).mono (λe w' q=>⟨_,q.1,.inr ⟨_,_,rfl⟩,q.2,rfl⟩)) (λv W W' h _=>h))
 have E:=λW a m=>run_store prog W a kv m hk.one;replace d:=zy d;replace r:=zy r;replace l:=zy l;generalize jnN [m]=j at B A;go_in;go_wp2_with (go_at_call 146;rw[<- d.o];apply B.o.mono;rintro e d ⟨v,rfl,f,d,u,y⟩;have P2:=d.bl l id;have k0:=P2.c0;have l:=P2.c1;have l:=P2.th 0;have l1:=P2.th 1;have C:=zy (r.o.trans d u_);have P2:=zy P2;have l:=λW a m=>run_store prog W a v m f.one;replace u:=zy u;replace y:=zy y;have f:=zy f);have P:=V_ P2 (I_ j) v;have d:=P.c0;have l:=P.c1;refine bodyPost_ret (v:=.agg #[I_ j,v]) (by simp[results,results149,go_sem,d,l]) rfl ?_;rw[A.o];exact⟨_,rfl,f,C.o.trans (Fr.pa _ _ _ _) (λx hx e=>M_),u,y⟩
def tj{la:Am}{ln lc:Nat}:Calls prog 204 #[.slice la ln lc] w λe w'=>e=.returned (.iface 152 (.slice la ln lc))/\Fr w w' N_:=by
 refine hq_ λa a=>?_;go_in;go_wp2;try go_ret
 rw[a.o];exact⟨rfl,A_ _ _⟩
def RcR(B n:Nat)(D:Ai)(v:Ax)(W:Aw):Prop:=∃pv,v=.iface 152 pv/\W.ownsRow B 52 1 pv n ((List.range n).flatMap λi=>[D i])
def bC{lv:Ax}(ho:kR w lv ns D)(E:∀i,IfV (D i))(hn:∀n∈ns,n<=301)(hl:ns.length<=300):Calls prog 151 #[lv] w λe w'=>∃v,e=.returned (.agg #[Z_ (jnN ns:Int),v])/\IfV v/\Fr w w' N_/\(jnN ns=0\/jnN ns=301->v=.nilIface)/\(1<=jnN ns->jnN ns<=300->RcR (w.heap.size+2) ns.length D v w'):=by
 refine hq_ λf C=>?_;obtain⟨w1,d⟩:=e_ (w.alloc (.cells #[O_,.nilIface] 85));have r:Fr w w1 N_:=by rw[d];exact(A_ w _).alloc _
 have z:Blk w1 w.heap.size [O_,.nilIface] 85:=by rw[d];exact B_ w #[O_,.nilIface] 85
 have hz:w1.heap.size=w.heap.size+1:=by rw[d,zm]
 obtain⟨f,f,rfl⟩:=zw ho;have u:=wu (w:=w1) (ns:=ns) (D:=D) (fn:=204) (caps:=#[]) (R:=λv W=>RcR (w.heap.size+2) ns.length D v W) (zj ho r u_) E hn hl (qZ func204 K_ rfl)
  (λW pv f hr=>by
   obtain⟨pa,f,rfl⟩:=zw hr
   refine tj.mono (λe w' q=>⟨_,q.1,.inr ⟨_,_,rfl⟩,q.2,_,rfl,zj (by rw[hz]at hr;exact hr) q.2 u_⟩))
  (λv W W' h hf=>by
   obtain⟨pv,h1,f⟩:=h
   exact⟨pv,h1,zj f hf (λg e h=>o1_ ((f.lt g e).1))⟩)
 replace u:=zy u;replace d:=zy d;replace r:=zy r;replace z:=zy z;have G:H_ (∀v (l:World) a b,RcR (w.heap.size+2) ns.length D v l->RcR (w.heap.size+2) ns.length D v ((l.setCell ⟨w.heap.size,0,none⟩ a).setCell ⟨w.heap.size,1,none⟩ b)):=zy (λv l a b h=>by
  obtain⟨pv,h1,f⟩:=h
  exact⟨pv,h1,zj f (Fr.pa l w.heap.size a b) (λg e h=>o1_ ((f.lt g e).1))⟩)
 generalize jnN ns=j at u C;go_in;go_wp2_with (go_at_call 146;rw[<- d.o];apply u.o.mono;rintro e l ⟨v,rfl,y,d,A,B⟩;have P2:=d.bl z id;have k0:=P2.c0;have f:=P2.c1;have f:=P2.th 0;have l1:=P2.th 1;have F:=zy (r.o.trans d u_);have P2:=zy P2;have f:=λW a m=>run_store prog W a v m y.one;replace A:=zy A;replace B:=zy B;have y:=zy y);have P:=V_ P2 (I_ j) v;have d:=P.c0;have f:=P.c1;refine bodyPost_ret (v:=.agg #[I_ j,v]) (by simp[results,results151,go_sem,d,f]) rfl ?_;rw[C.o];exact⟨_,rfl,y,F.o.trans (Fr.pa _ _ _ _) (λx hx e=>M_),A,λa b=>G.o _ _ _ _ (B.o a b)⟩
def kn(n m:Nat):Prop:=n≠0/\n<=m/\n<=301
def le0.to(h:le0 n v)(k:kn v m):kn n m:=by unfold le0 at h;unfold kn at *;omega
def le0.one(h:le0 n 1)(k:0<m):kn n m:=by unfold le0 at h;unfold kn;omega
def Wr:∀{ks:List Nat}{ds:List DT},ks.length=ds.length->(∀(i k:Nat) (d:DT),ks[i]?=some k->ds[i]?=some d->kn k (ndT d))->0∉ks/\ks.sum<=za ds
 | [],[],_,_=>⟨by simp,by simp⟩
 | [],_::_,h,_=>by simp at h
 | _::_,[],h,_=>by simp at h
 |k::ks,d::ds,hl,h=>by
  obtain⟨h1,a⟩:=Wr (ks:=ks) (ds:=ds) z8_ (λi k d e e'=>h (i+1) k d (by simpa using e) (by simpa using e'));have h0:=h 0 k d rfl rfl;unfold kn at h0;simp only[ao_,not_or,List.sum_cons,za];exact⟨⟨λe=>h0.1 e.symm,h1⟩,M_⟩
def cD{ks:Ao}{ds:Ae}(hl:ks.length=ds.length)(h:∀(i k:Nat) (d:DT),ks[i]?=some k->ds[i]?=some d->kn k (ndT d)):kn (jnN ks) (1+za ds):=by
 obtain⟨h1,a⟩:=Wr hl h;unfold jnN kn;rw[n_ h1];split<;>omega
def XM{d:DT}:∀{ds:List DT},d∈ds->ndT d<=za ds
 |e::r,h=>by
  simp only[za];rcases ao_.1 h with rfl|h
  .omega
  .have:=XM h;omega
def DT.subs:DT->List DT | .mk _ _ _ _ ds=>ds
def jS(d:DT):ndT d=1+za d.subs:=by obtain⟨k,n,tx,ks,ds⟩:=d;unfold ndT;rfl
def iJ{d d1:DT}(h:kn k (ndT d1))(hd:d1∈d.subs):kn (jnN [k]) (ndT d):=by
 have:=cD (ks:=[k]) (ds:=[d1]) rfl (λi a a e e'=>by
  cases i with
  |zero=>simp at e e';subst e e';exact h
  |succ i=>simp at e)
 have a:=XM hd;have a:=jS d;unfold kn at *;simp only[za]at this;omega
structure ClT(ew:Au)(K:PT->Nat->Prop):Prop where
 one:∀t n,K t n->t.isAlts=false->(∀c p fs,t=.leaf c p->zi c=false->ew c≠some (.recd fs))->le0 n 1
 recd:∀c p n fs,K (.leaf c p) n->zi c=false->ew c=some (.recd fs)->∃ks:List Nat,ks.length=fs.length/\(∀(q:Nat) (f:PF) (k:Nat),fs[q]?=some f->ks[q]?=some k->K f.ty k)/\le0 n (jnN ks)
 alts:∀p l n,K (.alts p l) n->∀t∈l,∃k,K t k/\le0 n (jnN [k])
def ClT.all{K:PT->Nat->Prop}(C:ClT ew K){d:DT}(h:Dat ew d t):∀n,K t n->kn n (ndT d):=by
 have f:∀d:DT,0<ndT d:=λd=>by rw[jS];omega
 have bs:∀{c p:Nat},zi c=true->∀n,K (.leaf c p) n->∀d,kn n (ndT d):=λ{c p} hb n hk d=>(C.one _ n hk rfl (λl p' fs e o=>by cases e;rw[hb]at o;cases o)).one (f d);have r:∀{c p:Nat} {X:PB},ew c=some X->(∀fs,X≠.recd fs)->∀n,K (.leaf c p) n->∀d,kn n (ndT d):=λ{c p X} hx hX n hk d=>(C.one _ n hk rfl (λl p' fs e _ he=>by cases e;rw[hx]at he;cases he;exact hX _ rfl)).one (f d);have wr:∀{c p:Nat} {u:PT},∀n,K (.wrap c p u) n->∀d,kn n (ndT d):=λ{c p u} n hk d=>(C.one _ n hk rfl (λl p' fs e=>by cases e)).one (f d);induction h with
 |null=>exact λn hk=>bs rfl n hk _
 |bool=>exact λn hk=>bs rfl n hk _
 |num=>exact λn hk=>bs rfl n hk _
 |long=>exact λn hk=>bs rfl n hk _
 |text=>exact λn hk=>bs rfl n hk _
 |bytes he hb=>exact λn hk=>r he (λ_ e=>by cases e) n hk _
 |sym he hb=>exact λn hk=>r he (λ_ e=>by cases e) n hk _
 |list=>exact λn hk=>wr n hk _
 |map=>exact λn hk=>wr n hk _
 |recd he hb hl h ih=>
  rename_i c p fs ds;intro n hk;obtain⟨ks,h1,a,x⟩:=C.recd c p n fs hk hb he;refine x.to ?_;rw[jS];exact cD (ds:=ds) M_ (λi k d e e'=>by
   have hi:i<fs.length:=by have:=(aj_.1 e).1;omega
   have hf:=ai_ hi
   exact ih i d fs[i].ty e' zn_ k (a i _ k hf e))
 |alts hn hl h ih=>
  intro n hk;obtain⟨k,h1,a⟩:=C.alts _ _ n hk _ (ah_ hl);exact a.to (iJ (ih k h1) zq_)
def Via(ew er:Au)(x y r:PT):Prop:=(y.isAlts=false/\r=y)\/∃p rs k,y=.alts p rs/\xZ ew er x rs 0 none=some k/\rs[k]?=some r
def Nev(ew er:Au)(x y:PT):Prop:=(y.isAlts=false/\xi ew er x y=false)\/∃p rs,y=.alts p rs/\xZ ew er x rs 0 none=none
inductive Un (ew er:Au):PT->PT->DT->Prop
 |alts0 {p n:Nat} {ws:List PT} {w1 y:PT} {d1:DT} (hn:n<=9223372036854775807) (hw:ws[n]?=some w1) (h:Un ew er w1 y d1):Un ew er (.alts p ws) y (.mk 40 (n:Int) noB [] [d1])
 |never {x y:PT} {d:DT} (hx:x.isAlts=false) (hv:Nev ew er x y) (hd:Dat ew d x):Un ew er x y d
 |items {c p p':Nat} {u u' y:PT} {d d1:DT} (hv:Via ew er (.wrap c p u) y (.wrap c p' u')) (hd:Dat ew d (.wrap c p u)) (hm:d1∈d.subs) (h:Un ew er u u' d1):Un ew er (.wrap c p u) y d
 |sym {c p p' n:Nat} {y:PT} {lw lr:List (Nat×Nat)} {ow o:Option (Nat×Nat)} (hv:Via ew er (.leaf c p) y (.leaf c p')) (hb:zi c=false) (hw:ew c=some (.enum lw ow)) (hr:er c=some (.enum lr o)) (hn:n<lw.length) (h:qh lr o ((lw.map Prod.fst).getD n 0)=none):Un ew er (.leaf c p) y (.mk 101 (n:Int) noB [] [])
 |field {c p p' i:Nat} {y:PT} {fw fr:List PF} {g h:PF} {ds:List DT} {d1:DT} (hv:Via ew er (.leaf c p) y (.leaf c p')) (hb:zi c=false) (hw:ew c=some (.recd fw)) (hr:er c=some (.recd fr)) (hd:Dat ew (.mk 114 0 noB [] ds) (.leaf c p)) (hg:g∈fr) (hi:vV fw g.letter=some i) (hf:fw[i]?=some h) (he:ds[i]?=some d1) (hu:Un ew er h.ty g.ty d1):Un ew er (.leaf c p) y (.mk 114 0 noB [] ds)
 |lack {c p p':Nat} {y:PT} {fw fr:List PF} {g:PF} {d:DT} (hv:Via ew er (.leaf c p) y (.leaf c p')) (hb:zi c=false) (hw:ew c=some (.recd fw)) (hr:er c=some (.recd fr)) (hd:Dat ew d (.leaf c p)) (hg:g∈fr) (hi:vV fw g.letter=none) (hf:g.dflt=none):Un ew er (.leaf c p) y d
def Un.dat{er:Au}{x y:PT}{d:DT}(h:Un ew er x y d):Dat ew d x:=by
 induction h with
 |alts0 hn hw h ih=>exact .alts hn hw ih
 |never hx hv hd=>exact hd
 |items hv hd=>exact hd
 |sym hv hb hw hr hn h=>exact .sym hw hb hn
 |field hv hb hw hr hd=>exact hd
 |lack hv hb hw hr hd=>exact hd
structure ClP(ew er:Au)(L:PT->Nat->Prop)(K:PT->PT->Nat->Prop):Prop where
 alts0:∀p ws y n,K (.alts p ws) y n->∀w1∈ws,∃k,K w1 y k/\le0 n (jnN [k])
 never:∀x y n,K x y n->x.isAlts=false->Nev ew er x y->∃k,L x k/\le0 n k
 items:∀c p p' u u' y n,K (.wrap c p u) y n->Via ew er (.wrap c p u) y (.wrap c p' u')->∃k,K u u' k/\le0 n (jnN [k])
 sym:∀c p p' y n lw lr ow o q,K (.leaf c p) y n->Via ew er (.leaf c p) y (.leaf c p')->zi c=false->ew c=some (.enum lw ow)->er c=some (.enum lr o)->q<lw.length->qh lr o ((lw.map Prod.fst).getD q 0)=none->le0 n 1
 field:∀c p p' y n fw fr g i h,K (.leaf c p) y n->Via ew er (.leaf c p) y (.leaf c p')->zi c=false->ew c=some (.recd fw)->er c=some (.recd fr)->g∈fr->vV fw g.letter=some i->fw[i]?=some h->∃(ks:List Nat),ks.length=fw.length/\(∀(q:Nat) (f:PF) (k:Nat),fw[q]?=some f->ks[q]?=some k->if q=i then K h.ty g.ty k else L f.ty k)/\le0 n (jnN ks)
 lack:∀c p p' y n fw fr g,K (.leaf c p) y n->Via ew er (.leaf c p) y (.leaf c p')->zi c=false->ew c=some (.recd fw)->er c=some (.recd fr)->g∈fr->vV fw g.letter=none->g.dflt=none->∃(ks:List Nat),ks.length=fw.length/\(∀(q:Nat) (f:PF) (k:Nat),fw[q]?=some f->ks[q]?=some k->L f.ty k)/\le0 n (jnN ks)
def XQ{fw:An}{d:DT}(hw:ew c=some (.recd fw))(hb:zi c=false)(hd:Dat ew d (.leaf c p)):∃ds,d=.mk 114 0 noB [] ds/\ds.length=fw.length/\∀(i:Nat) (d:DT) (f:PF),ds[i]?=some d->fw[i]?=some f->Dat ew d f.ty:=by
 have a:=xg hb;cases hd with
 |null=>exact absurd rfl a.1
 |bool=>exact absurd rfl a.2.1
 |num=>exact absurd rfl a.2.2.1
 |long=>exact absurd rfl a.2.2.2.1
 |text=>exact absurd rfl a.2.2.2.2
 |bytes he=>rw[hw]at he;cases he
 |sym he=>rw[hw]at he;cases he
 |recd he hb hl h=>
  rw[hw]at he;cases he;exact⟨_,rfl,hl,λi d f e e'=>h i d f.ty e (by rw[av_,e'];rfl)⟩
def ClP.all{er:Au}{L:PT->Nat->Prop}{K:PT->PT->Nat->Prop}(C:ClP ew er L K)(o:∀t n,L t n->∀d,Dat ew d t->kn n (ndT d)){x y:PT}{d:DT}(h:Un ew er x y d):∀n,K x y n->kn n (ndT d):=by
 induction h with
 |alts0 hn hw h ih=>
  intro n hk;obtain⟨k,h1,a⟩:=C.alts0 _ _ _ n hk _ (ah_ hw);exact a.to (iJ (ih k h1) zq_)
 |never hx hv hd=>
  intro n hk;obtain⟨k,h1,a⟩:=C.never _ _ n hk hx hv;exact a.to (o _ k h1 _ hd)
 |items hv hd hm h ih=>
  intro n hk;obtain⟨k,h1,a⟩:=C.items _ _ _ _ _ _ n hk hv;exact a.to (iJ (ih k h1) hm)
 |sym hv hb hw hr hn h=>
  intro n hk;exact(C.sym _ _ _ _ n _ _ _ _ _ hk hv hb hw hr hn h).one (by rw[jS];omega)
 |field hv hb hw hr hd hg hi hf he hu ih=>
  rename_i ds d1;intro n hk;obtain⟨ks,h1,a,l⟩:=C.field _ _ _ _ n _ _ _ _ _ hk hv hb hw hr hg hi hf;obtain⟨ds',e,hl,r⟩:=XQ hw hb hd;cases e;refine l.to ?_;rw[jS];exact cD (ds:=ds) M_ (λq k d e e'=>by
   have u:q<_:=(aj_.1 e).1
   have f:=ai_ (show q<_ from h1▸u)
   have:=a q _ k f e
   split at this
   .rename_i A
    subst A
    have z:ds[q]?=some d:=e'
    rw[he]at z
    cases z
    exact ih k this
   .exact o _ k this _ (r q d _ e' f))
 |lack hv hb hw hr hd hg hi hf=>
  intro n hk;obtain⟨ks,h1,a,l⟩:=C.lack _ _ _ _ n _ _ _ hk hv hb hw hr hg hi hf;obtain⟨ds',rfl,hl,r⟩:=XQ hw hb hd;refine l.to ?_;rw[jS];exact cD (ds:=ds') M_ (λq k d e e'=>by
   have u:q<_:=(aj_.1 e).1
   have f:=ai_ (show q<_ from h1▸u)
   exact o _ k (a q _ k f e) _ (r q d _ e' f))
def nd3(d:DT):Nat:=if 300<ndT d then 301 else ndT d
def Lo(D:Dg)(n:Nat):Prop:=n=0\/∃d,D d/\nd3 d=n
def Wh:∀{ds:List DT}{ks:List Nat},ks=ds.map nd3->0∉ks/\(300<1+ks.sum↔300<1+za ds)/\(za ds<=300->ks.sum=za ds)
 | [],_,rfl=>⟨by simp,by simp[za],by simp[za]⟩
 |d::ds,_,rfl=>by
  obtain⟨h1,a,f⟩:=Wh (ds:=ds) rfl;have hd:0<ndT d:=by rw[jS];omega
  have hs:(∀k∈ds.map nd3,True):=λ_ _=>trivial;have h:(ds.map nd3).sum<=za ds:=by
   clear h1 a f hs hd;induction ds with
   |nil=>simp[za]
   |cons e r ih=>
    simp only[aw_,List.sum_cons,za];have:nd3 e<=ndT e:=by unfold nd3;split<;>omega
    omega
  simp only[aw_,ao_,not_or,List.sum_cons,za];unfold nd3 at *;refine⟨⟨?_,h1⟩,?_,?_⟩
  .split<;>omega
  .split<;>omega
  .split<;>omega
def iK{ds:Ae}{n:Int}{x:BA}{ks:Dq}:jnN (ds.map nd3)=nd3 (.mk k n x ks ds):=by
 obtain⟨h1,a,d⟩:=Wh (ds:=ds) rfl;unfold jnN;rw[n_ h1];show _=if 300<ndT (.mk k n x ks ds) then _ else ndT (.mk k n x ks ds);rw[jS];show _=if 300<1+za ds then _ else 1+za ds;by_cases h:300<1+za ds
 .rw[i_ h,i_ (a.2 h)]
 .rw[n_ h,n_ (λe=>h (a.1 e)),d M_]
def wK(s:BA)(t:PT):Prop:=∃j,pT s t.place=.ok (t,j)
def gH(h:pT s i=.ok (t,j)):wK s t:=⟨j,by rw[ao h];exact h⟩
def wK.wrap(h:wK s (.wrap c p t)):wK s t:=by
 obtain⟨j,h⟩:=h;rw[wY]at h;unfold vR at h;split at h
 .cases h
 .split at h
  .split at h
   .cases h
   .rename_i hp;split at h
    .simp only[ae_,ad_,PT.wrap.injEq]at h;obtain⟨⟨_,_,rfl⟩,_⟩:=h;exact gH hp
    .cases h
  .split at h
   .split at h
    .cases h
    .split at h<;>cases h
   .split at h<;>cases h
def Vg:∀(l:List PT) (i j:Nat),i<=s.size->pA s i=.ok (l,j)->∀t∈l,wK s t
 | [],i,j,hi,h,t,a=>by simp at a
 |x::l,i,j,hi,h,t,a=>by
  rw[PN s i hi]at h;unfold wC at h;split at h
  .cases h
  .rename_i f e hp;have hb:=(xV hi).1 _ _ hp;split at h
   .rename_i hc;have hl:=zp (s:=s) (i:=e) M_;split at h
    .cases h
    .rename_i ts k d;simp only[ae_,ad_,List.cons.injEq]at h;obtain⟨⟨rfl,rfl⟩,rfl⟩:=h;rcases ao_.1 a with rfl|a
     .exact gH hp
     .exact Vg _ _ _ M_ d t a
   .simp only[ae_,ad_,List.cons.injEq]at h;obtain⟨⟨rfl,rfl⟩,rfl⟩:=h;simp only[a0_]at a;subst a;exact gH hp
def wK.alts{l:Af}(h:wK s (.alts p l)):∀t∈l,wK s t:=by
 obtain⟨j,h⟩:=h;rw[wY]at h;unfold vR at h;split at h
 .cases h
 .split at h
  .split at h
   .cases h
   .split at h<;>cases h
  .split at h
   .rename_i hb;have hl:=zp (s:=s) (i:=PT.place (.alts p l)) M_;split at h
    .cases h
    .rename_i ts k hp;split at h
     .simp only[ae_,ad_,PT.alts.injEq]at h;obtain⟨⟨_,rfl⟩,_⟩:=h;exact Vg _ _ _ M_ hp
     .cases h
   .split at h<;>cases h
def nY:∀(n i:Nat) (l:List PF) (j:Nat),yW s n i=.ok (l,j)->∀f∈l,wK s f.ty
 | 0,i,l,j,h=>by simp[yW]at h
 |n+1,i,l,j,h=>by
  have one:∀f j,zR s i=.ok (f,j)->wK s f.ty:=λf j h=>by
   unfold zR at h;split at h
   .split at h
    .split at h
     .cases h
     .rename_i hp;split at h
      .split at h
       .cases h
       .cases h;exact gH hp
      .cases h;exact gH hp
    .cases h
   .cases h
  unfold yW at h;split at h
  .cases h
  .rename_i d e hp;split at h
   .cases h;intro f hf;simp only[a0_]at hf;subst hf;exact one _ _ hp
   .split at h
    .split at h
     .cases h
     .rename_i fs k a;cases h;intro f hf;rcases ao_.1 hf with rfl|hf
      .exact one _ _ hp
      .exact nY n _ _ _ a f hf
    .cases h
def XJ{fs:An}(h:yG s p=.ok (.recd fs,j)):∀f∈fs,wK s f.ty:=by
 unfold yG at h;split at h
 .split at h
  .cases h
  .rename_i ds k hp;simp only[ae_,ad_,PB.recd.injEq]at h;obtain⟨rfl,_⟩:=h;unfold yf at hp;split at hp
   .split at hp
    .cases hp;intro f hf;simp at hf
    .exact nY _ _ _ _ hp
   .cases hp
 .split at h
  .split at h
   .cases h
   .cases h
  .split at h
   .split at h<;>cases h
   .cases h
def rU{X:PB}(h:wK s t)(k:yG s t.place=.ok (X,j)):False:=by
 obtain⟨i,h⟩:=h;have h1:bt s t.place=114\/bt s t.place=101\/bt s t.place=102:=by
  unfold yG at k;split at k
  .exact .inl ‹_›
  .split at k
   .exact .inr (.inl ‹_›)
   .split at k
    .exact .inr (.inr ‹_›)
    .cases k
 rw[wY]at h;unfold vR at h;generalize bt s t.place=b at *;rcases h1 with rfl|rfl|rfl;all_goals
  simp[zi,zY]at h
end Go.Proofs.YtlmebjdmdogmfaaGreatDoor
