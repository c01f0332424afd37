import Derived.Test.YtokgeopihcopeaaGreatDoorW16
set_option linter.unusedVariables false
set_option maxHeartbeats 16000000
set_option maxRecDepth 100000
set_option linter.defProp false
set_option linter.unusedSimpArgs false
open Go.Proofs.Tryz
namespace Go.Proofs.YtokgeopihcopeaaGreatDoor
open Go.RowKit
variable {v:Ax}{f:PF}{t:PT}{j k lo n a e q:Nat}{fs:An}{blk:Er}{d:PD}{w':Aw}
def pY(env:Au)(t:PT)(w:Aw)(S:Az)(nt:Av)(nx:Ax)(r:Option DT)(e:Ak)(w':Aw):Prop:=
 ∃v ev,e=.returned (.tuple #[v,ev])/\Fr w w' S/\match r with|some d=>ev=.nilIface/\DaV env w' (λg=>w.heap.size<=g) d t v|none=>v=.nilIface/\qC w' w.heap.size nt nx ev
def lU{w0 w:Aw}{P:Az}{ss:BA}{ds:Ar}{sv rv:Ax}{xs:Ay}{s:BA}{nt:Av}{nx:Ax}{pl:Aq}{br:Nat}(M:NC w0 P ss ds sv rv xs s nt nx pl br 0 w)(u:TyV w P t v)(r:jC w0 P ss ds sv rv xs s nt nx pl br (2*s.size+2) t 0):Calls prog 44 #[P_ br,v] w (pY (zx ds) t w (· = br) nt nx (ym (zx ds) pl t s)):=by
 refine hq_ λB l=>?_;have m:=zy (r w v M u);replace M:=zy M;cases hp:rdT s (zx ds) pl (2*s.size+2) t 0 with
 |none=>
  have hr:=zy (show ym (zx ds) pl t s=none by unfold ym;rw[hp]);replace hp:=zy hp;go_in;go_wp2_with (go_at_call 78;apply m.o.mono;rintro e w1 ⟨x,p,rfl,b,hm⟩;rw[hp.o]at hm;obtain⟨rfl,c,_⟩:=hm;obtain⟨h,h,rfl⟩:=c.iface;replace b:=zy b;replace c:=zy c);try go_ret
  rw[l.o,hr.o];exact⟨_,_,rfl,b,rfl,c⟩
 |some q=>
  obtain⟨d,j⟩:=q;have r:=(vD s (zx ds) pl _ t 0 d j hp).2;by_cases h:j=s.size
  .have hr:=zy (show ym (zx ds) pl t s=some d by unfold ym;rw[hp];simp only;rw[i_ h]);have A:¬((j:Int)<(s.size:Int)):=M_;replace hp:=zy hp;go_in;go_wp2_with (go_at_call 78;apply m.o.mono;rintro e w1 ⟨x,p,rfl,b,hm⟩;rw[hp.o]at hm;obtain⟨rfl,c,h1,_⟩:=hm;obtain⟨dT,y,rfl⟩:=c.iface;replace c:=zy c;have c2:=h1.c2;have c3:=h1.c3;replace b:=zy b);go_quiet (fail);go_wp2;try go_ret
   rw[l.o,hr.o];exact⟨_,_,rfl,b.o.si (zq.drewN _ _),rfl,c.o.fr ((A_ w1 N_).si (zq.drewN _ _)) u_⟩
  .have hr:=zy (show ym (zx ds) pl t s=none by unfold ym;rw[hp];simp only;rw[n_ h]);have A:(j:Int)<(s.size:Int):=M_;replace hp:=zy hp;go_in;go_wp2_with (go_at_call 78;apply m.o.mono;rintro e w1 ⟨x,p,rfl,b,hm⟩;rw[hp.o]at hm;obtain⟨rfl,c,h1,z⟩:=hm;obtain⟨dT,y,rfl⟩:=c.iface;have c2:=h1.c2;have c3:=h1.c3;have c:=(M.o.call h1 b z).e;replace b:=zy b);go_quiet (fail);go_wp2;go_quiet (fail);go_wp2;try go_ret
   rw[l.o,hr.o];exact⟨_,_,rfl,b.o.si ((zq.drewN _ _).trans (zq.drewN _ _)),rfl,.base⟩
def mg(w0:Aw):Prop:=∀P ss ds sv rv xs s nt nx pl br,PV w0 P ss ds sv rv xs s nt nx pl br
def aA{w0 w:Aw}{P:Az}{ss:BA}{ds:Ar}{sv:Ax}{rT:Av}{rx:Ax}{xs:Ay}{s:BA}{nt:Av}{nx:Ax}(D:yR w P ss ds sv xs)(u:TyV w P t v)(p:yu w0 w)(hk:w0.heap.size<=w.heap.size)(E:∀g,P g->g<w.heap.size)(B:vN 3 w0 nt nx)(hs:s.size<=300)(H:okT (zx ds) t)(G:vj ds)(r:yM w0)(F:yH w0)(C:mg w0):Calls prog 77 #[.agg #[sv,.iface rT rx],v,.string s] w (pY (zx ds) t w N_ nt nx (ym (zx ds) true t s)):=by
 refine hq_ λh y=>?_;obtain⟨b,c,rfl⟩:=zw D.row;have A:Fr w ((w.alloc (.cells #[.slice b ds.length c,.iface rT rx] 48)).alloc (.cells #[.slice b ds.length c,.iface rT rx,.string s,O_,.bool false] 119)) N_:=((A_ w _).alloc _).alloc _;have x:(w.alloc (.cells #[.slice b ds.length c,.iface rT rx] 48)).heap.size=w.heap.size+1:=x6_
 have h:=B_ (w.alloc (.cells #[.slice b ds.length c,.iface rT rx] 48)) #[.slice b ds.length c,.iface rT rx,.string s,O_,.bool false] 119;rw[x]at h;have m:NC w0 P ss ds (.slice b ds.length c) (.iface rT rx) xs s nt nx true (w.heap.size+1) 0 ((w.alloc (.cells #[.slice b ds.length c,.iface rT rx] 48)).alloc (.cells #[.slice b ds.length c,.iface rT rx,.string s,O_,.bool false] 119)):=
  ⟨h,D.fr A u_,p.fr A hk (λg f=>f.elim),B,λg hg=>o1_ (E g hg),M_,M_,am_ _⟩
 have b:=zy (lU m (u.fr A u_) (Vv G (λ_ _ _ g _=>bE g.ty) r F (C _ _ _ _ _ _ _ _ _ _ _) (Ve r) _ t 0 H (bE t) o_ (by split<;>omega)));replace A:=zy A;go_in;go_wp2_with (go_at_call 44;apply b.o.mono;rintro e w1 ⟨J,z,rfl,l,hm⟩;replace l:=zy l;replace hm:=zy hm);try go_ret
 rw[y.o];have I:=A.o.size;refine⟨J,z,rfl,A.o.trans l (λg hg e=>M_),?_⟩;have b:=hm.o;cases c:ym (zx ds) true t s with
 |none=>rw[c]at b;exact⟨b.1,b.2.ls I⟩
 |some d=>rw[c]at b;exact⟨b.1,b.2.mono (λg _ hg=>M_)⟩
section
variable {w:Aw} {P:Az} {s:BA} {g:Nat} {cs:Ay}
def gS(hb:Blk w g cs 198)(x:Ax){b:Nat}{xs:Ay}(ho:w.ownsRow b e k v n xs)(o:e≠198):(w.setCell ⟨g,2,none⟩ x).ownsRow b e k v n xs:=by
 refine zj ho (X_ w ⟨g,2,none⟩ x) (λg' c e'=>?_);have l:g'=g:=e';subst l;rcases ho.2 with⟨m,_⟩|⟨l,l,l,rfl,_,h,_⟩
 .rw[m]at c;simp[Value.ownBlock]at c
 .simp only[Value.ownBlock,af_]at c;subst c;unfold Blk at hb;rw[hb]at h;simp only[af_,Obj.cells.injEq]at h;exact o h.2.1.symm
def TyV.put(hb:Blk w g cs 198)(x:Ax)(h:TyV w P t v):TyV (w.setCell ⟨g,2,none⟩ x) P t v:=by
 induction h with
 |base c p h=>exact .base c p h
 |name c p h=>exact .name c p h
 |wrap c p h ih=>exact .wrap c p ih
 |alts p X ho hP h ih=>exact .alts p X (gS hb x ho D_) hP ih
def DfV.put(hb:Blk w g cs 198)(x:Ax)(hx:IfV x){o:Ac}{d:Ax}(h:DfV w P s o d):DfV (w.setCell ⟨g,2,none⟩ x) P s o d:=by
 match o with
 |none=>exact h
 |some (a,e)=>
  obtain⟨g',m,h1,b,l,c⟩:=h;by_cases hg:g'=g
  .subst hg;exact⟨g',x,h1,b,hx,c.set 2 x⟩
  .exact⟨g',m,h1,b,l,c.ot (a:=⟨g,2,none⟩) x hg⟩
def xG.put(hb:Blk w g cs 198)(x:Ax)(hx:IfV x){ys:Ay}(h:xG w P s fs ys):xG (w.setCell ⟨g,2,none⟩ x) P s fs ys:=λi f e=>by
 obtain⟨a,b,c,d,h1,m,o,p,l⟩:=h i f e;exact⟨a,b,c,d,h1,m,o,p,l.1,l.2.1,l.2.2.1.put hb x,l.2.2.2.put hb x hx⟩
def xh.put(hb:Blk w g cs 198)(x:Ax)(hx:IfV x){fv:Ax}{ys:Ay}(h:xh w P s fs fv ys):xh (w.setCell ⟨g,2,none⟩ x) P s fs fv ys:=
 ⟨gS hb x h.row D_,h.off,h.V.put hb x hx⟩
def qb.put(hb:Blk w g cs 198)(x:Ax){o:Ac}{d:Ax}(h:qb w P o d):qb (w.setCell ⟨g,2,none⟩ x) P o d:=by
 match o with
 |none=>exact h
 |some (a,e)=>
  obtain⟨g',h1,l,b⟩:=h;refine⟨g',h1,l,b.ot (a:=⟨g,2,none⟩) x (λe'=>?_)⟩;have c:g'=g:=e';subst c;unfold Blk at hb b;rw[hb]at b;simp only[af_,Obj.cells.injEq]at b;exact absurd b.2.1 D_
def yV.put(hb:Blk w g cs 198)(x:Ax)(hx:IfV x){b:PB}(h:yV w P s b v):yV (w.setCell ⟨g,2,none⟩ x) P s b v:=by
 cases h with
 |recd p ho hP h hp=>exact .recd p (gS hb x ho D_) hP (h.put hb x hx) hp
 |enum p ho hP h hp=>exact .enum p (gS hb x ho D_) hP (h.put hb x) hp
 |bytes p n hp=>exact .bytes p n hp
def yR.put(hb:Blk w g cs 198)(x:Ax)(hx:IfV x){ds:Ar}{sv:Ax}{xs:Ay}(h:yR w P s ds sv xs):yR (w.setCell ⟨g,2,none⟩ x) P s ds sv xs:=
 ⟨gS hb x h.row D_,h.off,λi d e=>by
  obtain⟨c,h1,b,l,m⟩:=h.V i d e
  exact⟨c,h1,b,l,m.put hb x hx⟩,h.len⟩
end
def yR.mono{w:Aw}{P Q:Az}{s:BA}{ds:Ar}{sv:Ax}{xs:Ay}(h:yR w P s ds sv xs)(b:∀g,g<w.heap.size->P g->Q g):yR w Q s ds sv xs:=
 ⟨h.row,λg e=>b g (h.row.lt g e).2 (h.off g e),h.V.mono b,h.len⟩
def WK{s:BA}{env:Au}(h:fs[q]?=some f):(fs.drop q).flatMap (dfB s env)=dfB s env f++(fs.drop (q+1)).flatMap (dfB s env):=by
 have hl:=(ak_.1 h).1;rw[bs_ hl,a9_,(ak_.1 h).2]
structure RDM(w0 w:Aw)(P:Az)(s:BA)(ds:Ar)(sv rv:Ax)(xs:Ay)(fv:Ax)(ys:Ay)(W:Aw):Prop where
 fr:Fr w W P
 D:yR W P s ds sv xs
 F:xh W (λg=>P g\/w.heap.size+1<=g) s (zk ds) fv ys
 B:Blk W w.heap.size [sv,rv] 48
 G:yu w0 W
 T:∀t x,TyV w P t x->TyV W P t x
section
variable {w0 w W W':Aw} {P:Az} {s:BA} {ds:Ar} {sv rv:Ax} {xs:Ay} {fv:Ax} {ys:Ay}
def RDM.new(M:RDM w0 w P s ds sv rv xs fv ys W)(hk:w0.heap.size<=w.heap.size)(hf:Fr W W' N_):RDM w0 w P s ds sv rv xs fv ys W':=
 ⟨M.fr.trans hf v_,M.D.fr hf u_,M.F.fr hf u_,hf.bl M.B id,M.G.fr hf (al_ hk M.fr.size) (λ_ f=>f.elim),λt x h=>(M.T t x h).fr hf u_⟩
def RDM.put(M:RDM w0 w P s ds sv rv xs fv ys W)(hk:w0.heap.size<=w.heap.size)(b:∀g,P g->w0.heap.size<=g){g:Nat}{cs:Ay}(hb:Blk W g cs 198)(hg:P g\/w.heap.size+1<=g)(x:Ax)(hx:IfV x):RDM w0 w P s ds sv rv xs fv ys (W.setCell ⟨g,2,none⟩ x):=by
 have c:w0.heap.size<=g:=by
  rcases hg with h|h
  .exact b g h
  .omega
 refine⟨M.fr.setCell ⟨g,2,none⟩ x (λh=>?_),M.D.put hb x hx,M.F.put hb x hx,M.B.ot (a:=⟨g,2,none⟩) x (λe=>?_),M.G.fr (X_ W ⟨g,2,none⟩ x) (al_ hk M.fr.size) (λg' e=>?_),λt y h=>(M.T t y h).put hb x⟩
 .rcases hg with b|b
  .exact b
  .have:g<w.heap.size:=h;omega
 .have e':w.heap.size=g:=e;have hB:=M.B;rw[e']at hB;unfold Blk at hb hB;rw[hb]at hB;simp only[af_,Obj.cells.injEq]at hB;exact absurd hB.2.1 D_
 .have e':g'=g:=e;omega
end
def sf(blk:Er)(f:PF)(d:Ax):Prop:=∀a e,f.dflt=some (a,e)->d=.pointer (some ⟨blk a,0,none⟩)
structure Zp(P:Az)(ds:Ar)(blk:Er):Prop where
 off:∀f∈zk ds,∀a e,f.dflt=some (a,e)->P (blk a)
 ne:∀(i j:Nat) (f g:PF) (a e a' e':Nat),(zk ds)[i]?=some f->(zk ds)[j]?=some g->f.dflt=some (a,e)->g.dflt=some (a',e')->i≠j->blk a≠blk a'
def mf(lo:Nat)(s:BA)(ds:Ar)(blk:Er)(W:Aw)(f:PF):Prop:=
 ∀a e,f.dflt=some (a,e)->∃x d,ym (zx ds) true f.ty (s.extract a e)=some d/\Blk W (blk a) [I_ a,.string (s.extract a e),x] 198/\DaV (zx ds) W (λg=>lo<=g) d f.ty x
def mf.fr{s:BA}{ds:Ar}{W W':Aw}{S:Az}(h:mf lo s ds blk W f)(hf:Fr W W' S)(l:∀g,lo<=g->¬S g)(hb:∀a e,f.dflt=some (a,e)->¬S (blk a)):mf lo s ds blk W' f:=λa e he=>by
 obtain⟨x,d,h1,b,c⟩:=h a e he;exact⟨x,d,h1,hf.bl b (hb a e he),c.fr hf l⟩
def gM(w W:Aw):Prop:=∀(b:Nat) (e:TypeId) (k:Nat) (v:Value) (n:Nat) (ys:List Value),e≠198->w.ownsRow b e k v n ys->W.ownsRow b e k v n ys
def gM.new{w W W':Aw}(h:gM w W)(hf:Fr W W' N_):gM w W':=λb e k v n ys he ho=>zj (h b e k v n ys he ho) hf u_
def gM.put{w W:Aw}{g:Nat}{cs:Ay}{x:Ax}(h:gM w W)(hb:Blk W g cs 198):gM w (W.setCell ⟨g,2,none⟩ x):=λb e k v n ys he ho=>gS hb x (h b e k v n ys he ho) he
def Vf(w:Aw)(P:Az)(s:BA)(ds:Ar)(sv:Ax)(xs:Ay)(nt:Av)(nx:Ax)(blk:Er)(L:Ao)(e:Ak)(w':Aw):Prop:=
 ∃v,e=.returned v/\Fr w w' P/\match L with | []=>v=.nilIface/\yR w' P s ds sv xs/\(∀t x,TyV w P t x->TyV w' P t x)/\(∀f∈zk ds,mf w.heap.size s ds blk w' f)/\gM w w'|y::_=>∃ev,zO w' w.heap.size v (y:Int) ev/\qC w' w.heap.size nt nx ev
def gC(lo:Nat)(s:BA)(ds:Ar)(blk:Er)(q:Nat)(W:Aw):Prop:=∀i f,i<q->(zk ds)[i]?=some f->mf lo s ds blk W f
def gC.new{s:BA}{ds:Ar}{W W':Aw}(h:gC lo s ds blk q W)(hf:Fr W W' N_):gC lo s ds blk q W':=λi f hi hd=>(h i f hi hd).fr hf u_ (λ_ _ _ f=>f)
def gC.put{P:Az}{s:BA}{ds:Ar}{W:Aw}{x:Ax}{d:DT}(h:gC lo s ds blk q W)(K:Zp P ds blk)(hP:∀g,P g->g<lo)(hd:(zk ds)[q]?=some f)(he:f.dflt=some (a,e))(hr:ym (zx ds) true f.ty (s.extract a e)=some d)(hb:Blk W (blk a) [I_ a,.string (s.extract a e),x] 198)(hv:DaV (zx ds) W (λg=>lo<=g) d f.ty v):gC lo s ds blk (q+1) (W.setCell ⟨blk a,2,none⟩ v):=by
 have b:=ai_ hd;have c:=hP _ (K.off f b a e he);have hf:Fr W (W.setCell ⟨blk a,2,none⟩ v) (λg=>g=blk a):=X_ W ⟨blk a,2,none⟩ v;intro i g hi hg;by_cases l:i=q
 .subst l;rw[hd]at hg;cases hg;intro a' e' b;rw[he]at b;cases b;exact⟨v,d,hr,hb.set 2 v,hv.fr hf (λg h1 c=>M_)⟩
 .exact(h i g M_ hg).fr hf (λg h1 c=>M_) (λa' e' b c=>K.ne i q g f a' e' a e hg hd b he l c)
def ci{w0 w:Aw}{P:Az}{s:BA}{ds:Ar}{sv:Ax}{rT:Av}{rx:Ax}{xs:Ay}{nt:Av}{nx:Ax}(D:yR w P s ds sv xs)(hG:yu w0 w)(hk:w0.heap.size<=w.heap.size)(d9:∀g,P g->w0.heap.size<=g)(a4:∀g,P g->g<w.heap.size)(hE:vN 3 w0 nt nx)(hs:s.size<=300)(e4:(zk ds).length<=300)(e6:∀f∈zk ds,okT (zx ds) f.ty)(e1:vj ds)(hI:yM w0)(hQ:yH w0)(hN:mg w0)(e0:Zq (sf blk) w ds sv)(KB:Zp P ds blk):Calls prog 43 #[.agg #[sv,.iface rT rx]] w (Vf w P s ds sv xs nt nx blk (qm s ds)):=by
 refine hq_ λy Q_=>?_;obtain⟨z,A,rfl⟩:=zw D.row;have y:Fr w (w.alloc (.cells #[.slice z ds.length A,.iface rT rx] 48)) N_:=(A_ w _).alloc _;have b9:(w.alloc (.cells #[.slice z ds.length A,.iface rT rx] 48)).heap.size=w.heap.size+1:=x6_
 have R:=tB (rv:=.iface rT rx) (D.fr y u_) e4 (λg hg=>bl_ (a4 g hg) y.size) (λW g q a5 m d p fs fv zs hW=>e0 W g q a5 m d p fs fv zs (y.trans hW u_));replace KB:=zy KB;rw[b9]at R;have b4:H_ (∀w1 fv ys,Fr (w.alloc (.cells #[.slice z ds.length A,.iface rT rx] 48)) w1 N_->xh w1 (λg=>P g\/w.heap.size+1<=g) s (zk ds) fv ys->RDM w0 w P s ds (.slice z ds.length A) (.iface rT rx) xs fv ys w1):=zy (λw1 fv ys hf U=>⟨(y.mono v_).trans hf v_,(D.fr y u_).fr hf u_,U,hf.bl (B_ w #[.slice z ds.length A,.iface rT rx] 48) id,(hG.fr y hk (λ_ f=>f.elim)).fr hf M_ (λ_ f=>f.elim),λt x h=>(h.fr y u_).fr hf u_⟩);have a8:=zy (λ(w1:World) (J:Fr (w.alloc (.cells #[.slice z ds.length A,.iface rT rx] 48)) w1 N_)=>(show gM w w1 from λb e k v n ys _ ho=>zj (zj ho y u_) J u_));replace R:=zy R;go_in;go_wp2_with (go_at_call 75;apply R.o.mono;rintro e w1 ⟨fv,ys,rfl,J,U,a3⟩;replace a3:=zy a3;have c:=b4.o w1 fv ys J U;obtain⟨fa,fc,rfl⟩:=zw U.row;replace c:=zy c;replace J:=zy J);have start:H_ (∃q:Nat,Value.int .i64 0=I_ q/\q<=(zk ds).length/\(zk ds).length+1-q<=(zk ds).length+1/\RDM w0 w P s ds (.slice z ds.length A) (.iface rT rx) xs (.slice fa (zk ds).length fc) ys w1/\qm s ds=((zk ds).drop q).flatMap (dfB s (zx ds))/\gC w.heap.size s ds blk q w1/\gM w w1):=zy ⟨0,rfl,am_ _,M_,c,rfl,(λi f h=>absurd h (Nat.not_lt_zero _)),a8.o w1 J⟩;go_loopg [10] ((zk ds).length+1) (λm v W=>∃q:Nat,v=I_ q/\q<=(zk ds).length/\(zk ds).length+1-q<=m/\RDM w0 w P s ds (.slice z ds.length A) (.iface rT rx) xs (.slice fa (zk ds).length fc) ys W/\qm s ds=((zk ds).drop q).flatMap (dfB s (zx ds))/\gC w.heap.size s ds blk q W/\gM w W);case atStart=>exact start
 case round=>
  obtain⟨q,rfl,y,hm,M,he,a1,a2⟩:=hrel;by_cases Z:q<(zk ds).length
  .have e5:(q:Int)<((zk ds).length:Int):=M_;have hd:(zk ds)[q]?=some (zk ds)[q]:=aj_ Z;have b7:(zk ds)[q]∈zk ds:=bi_ Z;generalize (zk ds)[q]=f at hd b7;obtain⟨g,a5,y⟩:=zg M.F.row M_;cases y;obtain⟨T,x,d,c0,c1,c2,c3,hT,S⟩:=M.F.cells hd;have a6:sf blk f (.pointer d):=by
    have y:ys.length=(zk ds).length*4:=M.F.row.1;obtain⟨u,hu⟩:∃u,ys[4*q+3]?=some u:=⟨_,aj_ M_⟩;have hc:=zr M.F.row rfl hu;rw[bh_]at hc;rw[hc]at c3;cases c3;exact a3.o q f _ hd hu
   rw[WK hd]at he;obtain⟨l,b6⟩:=x_ f.letter;obtain⟨pl,b8⟩:=x_ f.place;rw[b6]at c1;rw[b8]at c0;have e7:=e6 f b7;have C:=(A_ wr N_).alloc (.cells #[I_ pl,U_ l,.iface T x,.pointer d] 194);have E:=B_ wr #[I_ pl,U_ l,.iface T x,.pointer d] 194;have c:=M.new hk C;have a7:=zy (a1.new C);have a9:=zy (a2.new C);cases r:f.dflt with
   |none=>
    rw[r]at S;have H:d=none:=by
     have:Value.pointer d=.pointer none:=S;cases this;rfl
    subst H;have I:=zy (show qm s ds=((zk ds).drop (q+1)).flatMap (dfB s (zx ds)) by rw[he];unfold dfB;rw[r];rfl);replace c:=zy c;go_wp2;go_roundg ((zk ds).length+1-(q+1));case measure=>omega
    case rel=>exact⟨q+1,rfl,Z,l_,c,I,(λi g hi hg=>by
     by_cases L:i=q
     .subst L;rw[hd]at hg;cases hg;intro a e h;rw[r]at h;cases h
     .exact a7.o i g M_ hg),a9⟩
   |some ae=>
    obtain⟨a,L⟩:=ae;rw[r]at S;obtain⟨y,J,e3,J,R,R⟩:=S;cases J;obtain rfl:y=blk a:=by have:=a6 a L r;cases this;rfl
    replace r:=zy r;replace hd:=zy hd;have S:dfB s (zx ds) f=if (ym (zx ds) true f.ty (s.extract a L)).isSome=true then [] else [a]:=by unfold dfB;rw[r.o]
    rw[S]at he;have N:=C.bl R id;have y:=C.size;have J:=C.drew;have y:=M.new hk J;have O:=aA (s:=s.extract a L) (P:=λg=>(P g\/w.heap.size+1<=g)/\g<wr.heap.size) (rT:=rT) (rx:=rx) (y.D.mono (λg _ h=>⟨.inl h,o2_ (a4 g h) M.fr.size⟩)) ((hT.mono (Q:=λg=>(P g\/w.heap.size+1<=g)/\g<wr.heap.size) (λg h1 U=>⟨U,h1⟩)).fr J u_) y.G (al_ hk y.fr.size) (λg hg=>o1_ J.size) hE yf_ e7 e1 hI hQ hN;have s0:=c.B.c0;have s1:=c.B.c1;have n2:=E.c2;have n3:=E.c3;have d1:=N.c1;have e9:=zy (y.fr.size:w.heap.size<=(wr.alloc (.cells #[I_ pl,U_ l,.iface T x,.pointer (some ⟨blk a,0,none⟩)] 194)).drew.heap.size);have b5:=zy (And.intro y (And.intro (J.bl R id) (And.intro E.drew O)));go_wp2;obtain⟨c,N,E,O⟩:=b5.o;have e2:=zy (show w.heap.size<=(wr.alloc (.cells #[I_ pl,U_ l,.iface T x,.pointer (some ⟨blk a,0,none⟩)] 194)).drew.heap.size from c.fr.size);refine tR_ (λW=>z_ W w.heap.size 0 (.slice z ds.length A)/\z_ W w.heap.size 1 (.iface rT rx)/\z_ W wr.heap.size 2 (.iface T x)/\z_ W wr.heap.size 3 (.pointer (some ⟨blk a,0,none⟩))/\z_ W (blk a) 1 (.string (s.extract a L))) ?_;refine tY_ 0 ?_;refine tY_ 1 ?_;refine tY_ 2 ?_;refine tY_ 3 ?_;refine tY_ 4 ?_;refine tY_ 5 ?_;refine tY_ 6 ?_;refine tY_ 7 ?_;refine zJ 8 rfl K_ ⟨s0,s1,n2,n3,d1⟩ (λK hK=>?_);go_simp;apply O.mono;rintro e X ⟨y,y,rfl,y,a0⟩;refine hK _ _ ?_;have I:=c.new hk y;have d2:=zy ((a7.o.new ((A_ _ _).drew)).new y);have d7:=zy ((a9.o.new ((A_ _ _).drew)).new y);have z:=y.bl E id;have H:=y.bl N id;have C:=I.B.c0;have J:=I.B.c1;have A:=z.c2;have R:=z.c3;obtain⟨b0,b1,b2⟩:=H.d3;have bg:=H.th 2;refine tY_ 9 ?_;refine tY_ 10 ?_;refine tY_ 11 ?_;refine tY_ 12 ?_;refine tY_ 13 ?_;refine yq K_ ⟨C,J,A,R,b1⟩ ?_ _;revert y I H;refine h_ λy I H=>?_;cases V:ym (zx ds) true f.ty (s.extract a L) with
    |some dd=>
     rw[V]at a0 he;simp only[Option.isSome_some,if_true]at he;rw[bq_]at he;obtain⟨rfl,Y⟩:=a0;obtain⟨dT,dx,rfl⟩:=Y.iface;have d8:=zy (d7.o.put (x:=.iface dT dx) H);have d6:=zy (d2.o.put KB a4 hd r V H (Y.mono (λg _ hg=>al_ e9 hg)));replace he:=zy he;go_wp2;go_roundg ((zk ds).length+1-(q+1));case measure=>omega
     case rel=>exact⟨q+1,rfl,Z,l_,I.o.put hk d9 H e3 (.iface dT dx) (.inr ⟨_,_,rfl⟩),he,d6,d8⟩
    |none=>
     rw[V]at a0 he;simp only[cc_,a1_,if_false]at he;obtain⟨rfl,Y⟩:=a0;obtain⟨eT,ex,rfl⟩:=Y.iface;replace he:=zy he;replace Y:=zy Y;go_wp2_with (go_at_call 72;apply(xp (a:Int) _).mono;rintro e c ⟨rfl,c⟩;rw[c]);try go_ret
     rw[Q_.o];have e8:=I.o.fr.size;have A3:Fr X (X.alloc (.cells #[I_ a,.iface eT ex] 186)) N_:=(A_ X _).alloc _;refine⟨_,rfl,I.o.fr.trans A3 v_,?_⟩;rw[he.o];exact⟨.iface eT ex,⟨X.heap.size,e8,rfl,B_ X _ _⟩,(Y.o.fr A3 u_).ls (by have:=e2.o;omega)⟩
  .have e5:¬((q:Int)<((zk ds).length:Int)):=M_;rw[b0_ M_,b5_]at he;replace he:=zy he;replace M:=zy M;go_wp2;try go_ret
   rw[Q_.o];refine⟨.nilIface,rfl,M.o.fr,?_⟩;rw[he.o];exact⟨rfl,M.o.D,M.o.T,(λf hf=>by
    obtain⟨i,hi⟩:=bw_ hf
    exact a1 i f (o1_ ((ak_.1 hi).1)) hi),a2⟩
def fN{w:Aw}{b o:Nat}{e:Av}{xs xs':Ay}(h:w.ownsRow b e k v n xs)(l:w.ownsRow o e k v n xs'):xs=xs':=by
 have h1:xs.length=n*k:=h.1;have m:xs'.length=n*k:=l.1;rcases Nat.eq_zero_or_pos n with h0|h0
 .subst h0;rw[Nat.zero_mul]at h1 m;rw[ck_ h1,ck_ m]
 .obtain⟨g,m,rfl⟩:=zg h h0;apply List.ext_getElem?;intro j;by_cases m:j<n*k
  .obtain⟨x,hx⟩:∃x,xs[j]?=some x:=⟨_,aj_ M_⟩;obtain⟨y,hy⟩:∃y,xs'[j]?=some y:=⟨_,aj_ M_⟩;have a:=zr h rfl hx;have c:=zr l rfl hy;rw[a]at c;cases c;rw[hx,hy]
  .rw[bm_ M_,bm_ M_]
def bN{ds:Ar}{i:Nat}(hd:ds[k]?=some d)(hf:d.body.fs[i]?=some f):(zk ds)[(zk (ds.take k)).length+i]?=some f:=by
 have hk:=(ak_.1 hd).1;have h:zk ds=zk (ds.take (k+1))++zk (ds.drop (k+1)):=by
  unfold zk;rw[<- bb_,List.take_append_drop]
 have hi:=(ak_.1 hf).1;rw[h,kt hd,bx_,aw_ M_,b7_,ar_ hi];exact hf
def bR{ds:Ar}{b:Nat}(hd:ds[k]?=some d)(hk:k<b):(zk (ds.take k)).length+d.body.fs.length<=(zk (ds.take b)).length:=by
 have h:=mD (ds:=ds.take b) (k+1);rw[List.take_take,Nat.min_eq_left M_,kt hd,ag_]at h;exact h
def eZ(w:Aw)(P:Az)(s:BA)(ds:Ar)(xs:Ay)(a g:Nat):Prop:=
 ∃(k:Nat) (d:PD) (fs:List PF) (p:Nat) (fv:Value) (zs:List Value) (i:Nat) (f:PF) (e:Nat) (x:Value),ds[k]?=some d/\d.body=.recd fs/\xs[3*k+2]?=some (.iface 231 (.agg #[I_ p,fv]))/\w.ownsRow 0 194 4 fv fs.length zs/\fs[i]?=some f/\f.dflt=some (a,e)/\zs[4*i+3]?=some (P_ g)/\P g/\Blk w g [I_ a,.string (s.extract a e),x] 198
def eZ.uniq{w:Aw}{P:Az}{s:BA}{ds:Ar}{xs:Ay}{g g':Nat}(hp:ze s=.ok (ds,t))(h:eZ w P s ds xs a g)(B:eZ w P s ds xs a g'):g=g':=by
 obtain⟨k,d,fs,p,fv,zs,i,f,e,x,h1,u,F,G,y,I,K,_,_⟩:=h;obtain⟨c,C,D,p',E,z,r,f',e',z,b,m,o,H,z,J,A,_,_⟩:=B;have hb:d.body.fs=fs:=by rw[u];rfl
 have B:C.body.fs=D:=by rw[m];rfl
 have C:=bN h1 (by rw[hb];exact y);have D:=bN b (by rw[B];exact z);have hi:=(ak_.1 y).1;have y:=(ak_.1 z).1;have y:(zk (ds.take k)).length+i=(zk (ds.take c)).length+r:=by
  by_cases hx:(zk (ds.take k)).length+i=(zk (ds.take c)).length+r
  .exact hx
  .exact absurd rfl (Bx hp _ _ f f' a e a e' C D I J hx)
 have M:k=c:=by
  rcases Nat.lt_trichotomy k c with hl|hl|hl
  .have:=bR h1 hl;rw[hb]at this;omega
  .exact hl
  .have:=bR b hl;rw[B]at this;omega
 subst M;rw[h1]at b;cases b;rw[u]at m;cases m;rw[F]at o;simp only[af_,Value.iface.injEq,Value.agg.injEq,true_and]at o;obtain rfl:fv=E:=by
  have:=congrArg (λl:Array Value=>l[1]?) o;simpa using this
 have hz:=fN G H;subst hz;have L:i=r:=M_;subst L;rw[K]at A;cases A;rfl
open Classical in
noncomputable def blkOf (w:World) (P:Nat->Prop) (s:BA) (ds:List PD) (xs:List Value) (a:Nat):Nat:=if h:∃g,eZ w P s ds xs a g then h.choose else 0
def bO{w:Aw}{P:Az}{s:BA}{ds:Ar}{xs:Ay}{g:Nat}(hp:ze s=.ok (ds,t))(h:eZ w P s ds xs a g):blkOf w P s ds xs a=g:=by
 unfold blkOf;have he:∃g,eZ w P s ds xs a g:=⟨g,h⟩;rw[dif_pos he];exact eZ.uniq hp he.choose_spec h
def Vx{w:Aw}{P:Az}{s:BA}{ds:Ar}{sv:Ax}{xs:Ay}(D:yR w P s ds sv xs){i:Nat}(hd:ds[k]?=some d)(hb:d.body=.recd fs)(hf:fs[i]?=some f)(he:f.dflt=some (a,e)):∃p fv zs g,xs[3*k+2]?=some (.iface 231 (.agg #[Z_ ((p:Nat):Int),fv]))/\w.ownsRow 0 194 4 fv fs.length zs/\(∀b,fv.ownBlock=some b->P b)/\zs[4*i+3]?=some (P_ g)/\eZ w P s ds xs a g:=by
 obtain⟨c,_,_,l,m⟩:=D.V k d hd;rw[hb]at m;cases m with
 |recd p ho hP h hp=>
  rename_i fv zs;obtain⟨c0,c1,c2,c3,u,y,z,q3,r⟩:=h i f hf;have o:=r.2.2.2;rw[he]at o;obtain⟨g,x,hg,rfl,_,hB⟩:=o;exact⟨p,fv,zs,g,l,ho,hP,q3,k,d,fs,p,fv,zs,i,f,e,x,hd,hb,l,ho,hf,he,q3,hg,hB⟩
def Xv{w:Aw}{P:Az}{s:BA}{ds:Ar}{sv:Ax}{xs:Ay}(D:yR w P s ds sv xs)(hp:ze s=.ok (ds,t)):Zq (sf (blkOf w P s ds xs)) w ds sv/\Zp P ds (blkOf w P s ds xs):=by
 have mem:∀f∈zk ds,∀a e,f.dflt=some (a,e)->∃g,eZ w P s ds xs a g:=λf hf a e he=>by
  unfold zk at hf;obtain⟨d,hd,r⟩:=cd_.1 hf;obtain⟨k,hk⟩:=bw_ hd;cases hb:d.body with
  |recd fs=>
   rw[hb]at r;obtain⟨i,hi⟩:=bw_ (show f∈fs from r);obtain⟨_,_,_,g,_,_,_,_,h⟩:=Vx D hk hb hi he;exact⟨g,h⟩
  |enum l o=>rw[hb]at r;exact absurd r ba_
  |bytes n=>rw[hb]at r;exact absurd r ba_
 refine⟨λW g q r m d p fs fv zs x H hd hb hc ho i f dd hf y a e he=>?_,⟨λf hf a e he=>?_,λi j f g a e a' e' hf hg A B G z=>?_⟩⟩
 .obtain⟨r,u,r,r,h1,C,r,E,F⟩:=Vx D hd hb hf he;subst H;have hm:=mV D.row;subst hm;have r:=zr (zj D.row x u_) rfl h1;rw[show 3*q+2=q*3+2 by omega,hc]at r;simp only[af_,Value.iface.injEq,Value.agg.injEq,true_and]at r;obtain rfl:fv=u:=by
   have:=congrArg (λl:Array Value=>l[1]?) r;simpa using this
  have hz:=fN ho (zj C x u_);subst hz;rw[E]at y;cases y;rw[bO hp F]
 .obtain⟨g,h⟩:=mem f hf a e he;rw[bO hp h];obtain⟨_,_,_,_,_,_,_,_,_,_,_,_,_,_,_,_,_,hP,_⟩:=h;exact hP
 .have r:=Bx hp i j f g a e a' e' hf hg A B G;obtain⟨b,h⟩:=mem f (ai_ hf) a e A;obtain⟨r,u⟩:=mem g (ai_ hg) a' e' B;rw[bO hp h,bO hp u]at z;subst z;obtain⟨_,_,_,_,_,_,_,_,_,_,_,_,_,_,_,_,_,_,hB⟩:=h;obtain⟨_,_,_,_,_,_,_,_,_,_,_,_,_,_,_,_,_,_,x⟩:=u;have c:=hB.cell 0;have r:=x.cell 0;rw[c]at r;simp only[aa_,af_,Value.int.injEq,true_and]at r;omega
def pJ(X:Dn)(w:Aw)(ds:Ar)(xs:Ay):Prop:=
 ∀(q:Nat) (d:PD) (p:Nat) (fs:List PF) (fv:Value) (zs:List Value),ds[q]?=some d->d.body=.recd fs->xs[3*q+2]?=some (.iface 231 (.agg #[I_ p,fv]))->w.ownsRow 0 194 4 fv fs.length zs->uf X fs zs
def Zq.cells{X:Dn}{w:Aw}{P:Az}{s:BA}{ds:Ar}{sv:Ax}{xs:Ay}(h:Zq X w ds sv)(D:yR w P s ds sv xs):pJ X w ds xs:=λq d p fs fv zs hd hb hx ho=>by
 have b:=(ak_.1 hd).1;obtain⟨g,c,b⟩:=zg D.row M_;have hc:=zr D.row b hx;rw[show 3*q+2=q*3+2 by omega]at hc;exact h w g q c ds.length d p fs fv zs (A_ _ _) b hd hb hc ho
def pJ.to{X:Dn}{w:Aw}{P:Az}{s:BA}{ds:Ar}{sv:Ax}{xs:Ay}(h:pJ X w ds xs)(D:yR w P s ds sv xs)(hk:∀fv n zs,(∀g,fv.ownBlock=some g->P g)->w.ownsRow 0 194 4 fv n zs->w'.ownsRow 0 194 4 fv n zs):pJ X w' ds xs:=λq d p fs fv zs hd hb hx ho=>by
 obtain⟨c,_,_,r,m⟩:=D.V q d hd;rw[hb]at m;have b:=r;rw[hx]at b;cases m with
 |recd p0 ho0 hP h0 hp0=>
  simp only[af_,Value.iface.injEq,Value.agg.injEq,true_and]at b;rename_i o u;obtain rfl:fv=o:=by
   have:=congrArg (λl:Array Value=>l[1]?) b;simpa using this
  have hz:=fN ho (hk _ _ _ hP ho0);subst hz;exact h q d p fs fv zs hd hb hx ho0
def Dfs(lo:Nat)(P:Az)(w:Aw)(s:BA)(ds:Ar)(xs:Ay):Prop:=
 ∃blk,pJ (sf blk) w ds xs/\Zp P ds blk/\∀f∈zk ds,mf lo s ds blk w f
def Dfs.fr{P S:Az}{w:Aw}{s:BA}{ds:Ar}{sv:Ax}{xs:Ay}(h:Dfs lo P w s ds xs)(D:yR w P s ds sv xs)(hf:Fr w w' S)(c:∀g,P g->¬S g)(m:∀g,lo<=g->¬S g):Dfs lo P w' s ds xs:=by
 obtain⟨blk,h1,b,l⟩:=h;exact⟨blk,h1.to D (λfv n zs hP ho=>zj ho hf (λg e=>c g (hP g e))),b,λf hm=>(l f hm).fr hf m (λa e he=>c _ (b.off f hm a e he))⟩
def Dfs.mono{b:Nat}{P Q:Az}{w:Aw}{s:BA}{ds:Ar}{xs:Ay}(h:Dfs lo P w s ds xs)(hl:b<=lo)(l:∀g,P g->Q g):Dfs b Q w s ds xs:=by
 obtain⟨blk,h1,b,c⟩:=h;refine⟨blk,h1,⟨λf hf a e he=>l _ (b.off f hf a e he),b.ne⟩,λf hm a e he=>?_⟩;obtain⟨x,d,r1,b,l⟩:=c f hm a e he;exact⟨x,d,r1,b,l.mono (λg _ hg=>al_ hl hg)⟩
def Fr.ofBelow{w:Aw}(h:Below w.heap.size w w'):Fr w w' N_:=⟨h.os,h.tape,h.output,h.size,λk hk _=>h.block k hk⟩
def Fr.bytes(w:Aw)(e:Av)(t:BA):Fr w (Lib.bytesWorld w e t) N_:=
 ⟨rfl,rfl,rfl,by rw[Lib.bytesWorld_size];omega,λk hk _=>Lib.bytesWorld_at_old w e t k hk⟩
def xe(w0:Aw):Prop:=∀(W:World),yu w0 W->∀t:BA,t.size<=4000->Calls prog 221 #[.string t,Z_ 10,Z_ 64] W (Br W t)
def ar{w0:Aw}{b c:Av}{m o:Ax}(h1:w0.var? prog "strconv.ErrSyntax" = some #[.iface b m])(p:w0.var? prog "strconv.ErrRange" = some #[.iface c o]):xe w0:=by
 intro W l t r;cases hp:Lib.parseIntB 64 t.data.toList with
 |ok v=>
  apply(Tryz.strconv_ParseInt_10_at64_ok t M_ v hp W).mono;rintro e w' ⟨rfl,hw⟩;refine⟨?_,.inl ⟨v,hp,rfl⟩⟩;rcases hw with rfl|⟨t',rfl⟩
  .exact A_ _ _
  .exact Fr.bytes _ _ _
 |range=>
  apply(Tryz.strconv_ParseInt_10_at64_range_var t M_ hp c o W (l.var p)).mono;rintro e w' ⟨N,rfl,_,_,hb⟩;exact⟨Fr.ofBelow hb,.inr ⟨λv h=>(by rw[hp]at h;cases h),_,_,_,rfl⟩⟩
 | _=>
  apply(Tryz.strconv_ParseInt_10_at64_syntax_var t M_ hp b m W (l.var h1)).mono;rintro e w' ⟨N,rfl,_,_,hb⟩;exact⟨Fr.ofBelow hb,.inr ⟨λv h=>(by rw[hp]at h;cases h),_,_,_,rfl⟩⟩
def yu.cell{w0 w:Aw}(h:yu w0 w){a:Addr}(hc:w0.cell? a=some v):w.cell? a=some v:=
 (World.cell?_of_block (h a.block (World.block_lt_of_cell? w0 a hc))).trans hc
def yu.tab{w0 w:Aw}(h:yu w0 w){g:Nat}{k:IntKind}{t:Ao}(l:Lib.TabSlice g k t w0):Lib.TabSlice g k t w:=by
 obtain⟨R,o,c,h1,b⟩:=l;exact⟨R,o,c,h.cell h1,λj l=>h.cell (b j l)⟩
def Kn{w0:Aw}{T:Lib.PrintTabs}(h:Lib.PrintTabsAt 18 19 20 21 T w0)(l:Lib.Utf8Tabs 16 17 w0):yH w0:=by
 intro W b k hk;apply(Tryz.strconv_Quote T k W M_ ⟨b.tab h.1,b.tab h.2.1,b.tab h.2.2.1,b.tab h.2.2.2.1,h.2.2.2.2⟩ ⟨λc hc=>b.cell (l.1 c hc),λi hi=>⟨b.cell (l.2 i hi).1,b.cell (l.2 i hi).2⟩⟩).mono;rintro e w' ⟨rfl,hb⟩;refine⟨_,rfl,?_,Fr.ofBelow hb⟩;rw[strOfNums_size];have:=Lib.quoteZ_length_le T k;omega
section
variable {w0 w:Aw} {P:Az} {ss:BA} {ds:Ar} {sv rv:Ax} {xs:Ay} {s:BA} {nt:Av} {nx:Ax} {pl:Aq} {br i:Nat}
def Pv(hP:xe w0){kd:Nat}(M:NC w0 P ss ds sv rv xs s nt nx pl br i w):Calls prog 170 #[P_ br,Z_ (loV kd),Z_ (hiV kd)] w λe w'=>∃n b,e=.returned (.tuple #[Z_ n,.bool b])/\Fr w w' (· = br)/\yw w' br sv rv s (zI s i) (!pl)/\(b=true↔qI kd (xm s i) (zM s i))/\(b=true->n=lC (xm s i) (zM s i) (zM s i).size/\-9223372036854775808<=n/\n<=9223372036854775807):=by
 have hs:=M.hs;apply(bZ M.R M_ M.il (λW hf=>hP W (M.G.fr hf (o2_ M.lt M.brG) (λg e=>e▸M.brG)) _ yf_)).mono;rintro e w' ⟨n,b,rfl,hf,c,hb,hv⟩;refine⟨n,b,rfl,hf,c,hb.trans ?_,λe=>?_⟩
 rotate_left
 .obtain⟨h1,c⟩:=tL (hb.1 e).1.1 (hv e);exact⟨h1.symm,c⟩
 constructor
 .rintro⟨⟨c,l⟩,hv⟩;exact(aD c l).2 hv
 .intro h;have c:=h;unfold qI at c;exact⟨⟨c.1,c.2.1⟩,(aD c.1 c.2.1).1 h⟩
def mQ{tt:PT}{kd:Nat}{lo hi:Int}(hP:xe w0)(M:NC w0 P ss ds sv rv xs s nt nx pl br i w)(x:kd=105\/kd=108)(h1:loV kd=lo)(u:hiV kd=hi):Calls prog 121 #[P_ br,Z_ lo,Z_ hi] w (yx (zx ds) tt w sv rv s nt nx pl br ((vp s kd i).map (λq=>(.mk kd q.1 noB [] [],q.2)))):=by
 have m:=Pv (kd:=kd) hP M;rw[h1,u]at m;clear h1 u hP;refine hq_ λu r=>?_;replace m:=zy m;have p:=(lu (s:=s) M.il).2.2.2;replace M:=zy M;by_cases l:qI kd (xm s i) (zM s i)
 .have hr:=zy (show(vp s kd i).map (λq=>(DT.mk kd q.1 noB [] [],q.2))=some (.mk kd (lC (xm s i) (zM s i) (zM s i).size) noB [] [],zI s i) by unfold vp;rw[i_ l];rfl);replace l:=zy l;go_in;go_wp2_with (go_at_call 170;apply m.o.mono;rintro e w1 ⟨n,b,rfl,h,c,hb,hv⟩;obtain rfl:=hb.2 l;replace hv:=zy (hv rfl);replace h:=zy h;replace c:=zy c;clear hb);try go_ret
  rw[r.o,hr.o];exact nok (by rw[<- hv.o.1];exact V_ (.num kd n x hv.o.2.1 hv.o.2.2) D_) h c p
 .have hr:=zy (show(vp s kd i).map (λq=>(DT.mk kd q.1 noB [] [],q.2))=none by unfold vp;rw[n_ l];rfl);replace l:=zy l;go_in;go_wp2_with (go_at_call 170;apply m.o.mono;rintro e w1 ⟨n,b,rfl,h,c,hb,hv⟩;clear hv;obtain rfl:b=false:=(by cases b;rfl;exact absurd (hb.1 rfl) l);have l:=(M.o.call c h p).e;replace h:=zy h;replace c:=zy c;clear hb);go_quiet (fail);go_wp2;try go_ret
  rw[r.o,hr.o];exact cZ (h.o.si (zq.drewN _ _)) (c.o.si (zq.drewN _ _)) p
end
def iu{w0:Aw}(hP:xe w0):mg w0:=λ_ _ _ _ _ _ _ _ _ _ _ _ _ _ M=>⟨mQ (kd:=105) hP M (.inl rfl) rfl rfl,mQ (kd:=108) hP M (.inr rfl) rfl rfl⟩
def iH{s:BA}{m:Nat}(h1:j<=m)(b:m<s.size):(s.extract j (m+1)).data.toList=(s.extract j m).data.toList++[s[m]'b]:=by
 obtain⟨⟨l⟩⟩:=s;have hl:m<l.length:=b;simp only[ByteArray.data_extract,List.extract_toArray,List.extract_eq_take_drop];rw[show m+1-j=(m-j)+1 by omega,a8_,List.getElem?_drop,show j+(m-j)=m by omega,aj_ hl];rfl
def bA{s:BA}:∀n,j+n<=s.size->wV s j n=dv (s.extract j (j+n)).data.toList:=by
 intro n;induction n with
 |zero=>
  intro _;have:(s.extract j (j+0)).data.toList=[]:=by
   apply ck_;rw[Array.length_toList];show(s.extract j (j+0)).size=0;rw[a6_];omega
  rw[this];rfl
 |succ n ih=>
  intro h;rw[show j+(n+1)=(j+n)+1 by omega,iH M_ M_,iE,wV,ih M_,xO s (j+n) M_];simp only[ao_,Nat.pow_one,dv,av_,Nat.pow_zero,Nat.mul_one,bp_];omega
def gj{s:BA}(h:bt s j≠45):zI s j=zt 48 57 s j/\zM s j=s.extract j (zt 48 57 s j)/\xm s j=false:=by
 have hs:sgn s j=j:=by unfold sgn;rw[n_ h]
 refine⟨by unfold zI;rw[hs],by unfold zM zI;rw[hs],?_⟩;unfold xm;exact beq_eq_false_iff_ne.2 M_
def UB{s:BA}(hj:j<=s.size)(hn:n<=300):((qw s j/\∃v,Lib.parseIntB 64 (s.extract j (zI s j)).data.toList=.ok v/\0<=v/\v<=(n:Int)-1)/\bt s (zI s j)=58)↔(ph s j (yY s j) (wV s j (yY s j-j)) n=true/\bt s (yY s j)=58):=by
 have hre:=yh 48 57 s _ j l_;unfold ph;rw[decide_eq_true_iff];have hd:jE (s.extract j (zt 48 57 s j)).data.toList:=kM s j;have A:(s.extract j (zt 48 57 s j)).size=zt 48 57 s j-j:=by rw[a6_];have:=hre.2 hj;omega
 have x:(s.extract j (zt 48 57 s j)).data.toList.length=zt 48 57 s j-j:=by rw[Array.length_toList];exact A
 have C:∀_h:j<zt 48 57 s j,bt (s.extract j (zt 48 57 s j)) 0=bt s j/\∃r,(s.extract j (zt 48 57 s j)).data.toList=(s[j]'(o1_ (hre.2 hj)))::r/\r.length+1=zt 48 57 s j-j:=λh=>by
  have b:j<s.size:=zk_
  have he:=qn (s:=s) h (hre.2 hj);refine⟨?_,_,he,?_⟩
  .rw[cE he,xO s j b]
  .rw[he,au_]at x;exact x
 constructor
 .rintro⟨⟨⟨o,l⟩,v,hp,h0,h1⟩,m⟩;have hv:=tL o hp;by_cases h45:bt s j=45
  .exfalso;have y:xm s j=true:=zg_
   have u:jE (zM s j).data.toList:=kM s (sgn s j);have z:(zM s j).size=(zM s j).data.toList.length:=Array.length_toList.symm;cases hl:(zM s j).data.toList with
   |nil=>rw[hl,av_]at z;omega
   |cons c r=>
    have hc:=u c (by rw[hl];exact bo_ ..);have x:=cE hl;have B:=hv.1;rw[y,bi u ?_ _ l_,i_ rfl,show(zM s j).data.toList.take (zM s j).size=(zM s j).data.toList by rw[z];exact List.take_length,hl]at B
    .have p:49<=c.toNat:=by
      have:¬bt (zM s j) 0=48:=λe=>l ⟨e,.inr y⟩;omega
     have:=nJ (r:=r) p;have:1<=10 ^ r.length:=Nat.one_le_pow _ _ D_;omega
    .simp only[if_true];have he:(s.extract j (zI s j)).data.toList=45::(zM s j).data.toList:=by
      have b:j<s.size:=zp M_;have hs:sgn s j=j+1:=z2_
      have x:=yh 48 57 s _ (j+1) l_;unfold zM zI;rw[hs,qn M_ (x.2 M_)];refine List.cons_eq_cons.2 ⟨?_,rfl⟩;rw[xO s j b]at h45;exact UInt8.toNat_inj.1 (h45.trans D_)
     rw[he,iB (by rw[hl];simp) u]at hp;split at hp
     .omega
     .cases hp
  .obtain⟨u,x,B⟩:=gj h45;rw[u]at hp m;rw[x]at o l;rw[A]at o l;obtain⟨y,r,o,D⟩:=C M_;rw[y]at l;have b:j<s.size:=zk_
   rw[bM (by rw[o];simp) hd]at hp;split at hp
   .cases hp;have z:zt 48 57 s j-j<=3:=by
     rcases Nat.lt_or_ge 3 (zt 48 57 s j-j) with h|h
     .exfalso;have hc:=hd (s[j]'b) (by rw[o];exact bo_ ..);have p:49<=(s[j]'b).toNat:=by
       have:¬bt s j=48:=λe=>l ⟨e,.inl M_⟩;rw[xO s j b]at this;omega
      have z:=nJ (r:=r) p;rw[<- o]at z;have:10 ^ 3<=10 ^ r.length:=Nat.pow_le_pow_right D_ M_;omega
     .exact h
    have z:yY s j=zt 48 57 s j:=yp_
    rw[z];have p:=bA (s:=s) (j:=j) (zt 48 57 s j-j) (o1_ (hre.2 hj));rw[show j+(zt 48 57 s j-j)=zt 48 57 s j by omega]at p;rw[p];exact⟨⟨M_,λh=>l ⟨h.1,.inl h.2⟩,M_⟩,m⟩
   .cases hp
 .rintro⟨⟨E,l,q3⟩,m⟩;have F:zt 48 57 s j≠j:=λe=>E yp_;have z:yY s j=zt 48 57 s j:=by
   rcases Nat.lt_or_ge (j+3) (zt 48 57 s j) with h|h
   .exfalso;have e:yY s j=j+3:=yp_
    have:=vB 48 57 s _ j l_ (j+3) M_ h;rw[e]at m;omega
   .unfold yY;omega
  have h45:bt s j≠45:=by
   have:=vB 48 57 s _ j l_ j l_ M_;omega
  obtain⟨u,x,B⟩:=gj h45;have b:j<s.size:=zk_
  obtain⟨y,r,o,D⟩:=C M_;rw[z]at l q3 m;have p:=bA (s:=s) (j:=j) (zt 48 57 s j-j) (o1_ (hre.2 hj));rw[show j+(zt 48 57 s j-j)=zt 48 57 s j by omega]at p;rw[p]at q3;unfold qw;rw[u,x,B,A,y];refine⟨⟨⟨M_,λh=>?_⟩,(dv (s.extract j (zt 48 57 s j)).data.toList:Int),?_,M_,M_⟩,m⟩
  .rcases h.2 with b|b
   .exact l ⟨h.1,b⟩
   .cases b
  .rw[bM (by rw[o];simp) hd,i_ M_]
def Gz{s:BA}{v:Int}(l:j<=s.size)(hg:ph s j (yY s j) (wV s j (yY s j-j)) n=true)(c:bt s (yY s j)=58)(hp:Lib.parseIntB 64 (s.extract j (zI s j)).data.toList=.ok v):zI s j=yY s j/\v=(wV s j (yY s j-j):Int):=by
 have m:=yh 48 57 s _ j l_;unfold ph at hg;rw[decide_eq_true_iff]at hg;obtain⟨o,p,q3⟩:=hg;have p:zt 48 57 s j≠j:=λe=>o yp_;have o:yY s j=zt 48 57 s j:=by
  rcases Nat.lt_or_ge (j+3) (zt 48 57 s j) with h|h
  .exfalso;have e:yY s j=j+3:=yp_
   have:=vB 48 57 s _ j l_ (j+3) M_ h;rw[e]at c;omega
  .unfold yY;omega
 have c:bt s j≠45:=by
  have:=vB 48 57 s _ j l_ j l_ M_;omega
 obtain⟨b,p,p⟩:=gj c;have c:=bA (s:=s) (j:=j) (zt 48 57 s j-j) (o1_ (m.2 l));rw[show j+(zt 48 57 s j-j)=zt 48 57 s j by omega]at c;rw[o,c,b];refine⟨rfl,?_⟩;have hd:jE (s.extract j (zt 48 57 s j)).data.toList:=kM s j;have c:(s.extract j (zt 48 57 s j)).data.toList≠[]:=by
  intro e;have hl:(s.extract j (zt 48 57 s j)).data.toList.length=(s.extract j (zt 48 57 s j)).size:=Array.length_toList;rw[e,av_,a6_]at hl;have:=m.2 l;omega
 rw[b,bM c hd]at hp;split at hp
 .cases hp;rfl
 .cases hp
section
variable {w0 w:Aw} {P:Az} {ss:BA} {ds:Ar} {sv rv:Ax} {xs:Ay} {s:BA} {nt:Av} {nx:Ax} {br i:Nat}
def aR{q0:Nat}{l:Af}{p:Int}{bv:Ax}{f:Nat}{X:Ai}(M:NC w0 P ss ds sv rv xs s nt nx false br i w)(ho:w.ownsRow 0 46 1 bv l.length ((List.range l.length).map X))(hX:∀k u,l[k]?=some u->TyV w P u (X k))(d2:∀g,bv.ownBlock=some g->P g)(e6:l≠[])(e7:l.length<=300)(hI:yM w0)(hP:xe w0)(hR:∀t∈l,∀j,i<j->j<=s.size->jC w0 P ss ds sv rv xs s nt nx false br f t j):Calls prog 125 #[P_ br,.agg #[Z_ p,bv]] w (yx (zx ds) (.alts q0 l) w sv rv s nt nx false br (yQ (rdT s (zx ds) false f) s false l i)):=by
 refine hq_ λe8 Q_=>?_;obtain⟨ba,bc,rfl⟩:=zw ho;obtain⟨m,hm⟩:∃m,l.length=m+1:=⟨l.length-1,o1_ (List.length_pos_iff.2 e6)⟩;rw[hm]at ho d2⊢;have H:=M.hs;have a1:=M.il;have e9:=M.lt;have A:Fr w (w.alloc (.cells #[Z_ p,.slice ba (m+1) bc] 226)) N_:=(A_ w _).alloc _;have E:=zy (M.new A);have hN:=zy (B_ w #[Z_ p,.slice ba (m+1) bc] 226);have A':=zy (A.mono (T:=λg=>g=br) v_);have c4:=E.o.R.c4;have f1:wrap64 (m:Int)=(m:Int):=pF _ M_ M_;by_cases J:bt s i=60;case neg=>
  have hr:=zy (show yQ (rdT s (zx ds) false f) s false l i=none by unfold yQ;rw[n_ D_,n_ (λh=>J h.1)]);replace J:=zy J;clear M ho hX hR;go_in;go_wp2_with (go_at_call 119;apply(xv 60 E.o.R H a1 D_ D_ J).mono;rintro e w1 ⟨rfl,c,h1⟩;have e1:=(E.o.call h1 c a1).e;replace c:=zy c;replace h1:=zy h1);go_quiet (fail);go_wp2;try go_ret
  rw[Q_.o,hr.o];exact cZ ((A'.o.trans c u_).si (zq.drewN _ _)) (h1.o.si (zq.drewN _ _)) a1
 case pos=>
 have L:i+1<=s.size:=zp (s:=s) (i:=i) M_;have a4:=(lu (s:=s) L).2.2.2;obtain⟨k,hk⟩:=x_ (yY s (i+1));obtain⟨N,a0⟩:=x_ (wV s (i+1) (k-(i+1)));have a6:=aj (R:=rdT s (zx ds) false f) (l:=l) J hk a0;have a3:=UB (s:=s) (j:=i+1) (n:=l.length) L e7;rw[hk,a0,show((l.length:Nat):Int)-1=(m:Int) by omega]at a3;replace hm:=zy hm;have a7:H_ (∀w1,NC w0 P ss ds sv rv xs s nt nx false br (i+1) w1->Calls prog 170 #[P_ br,O_,I_ m] w1 (eY w1 br sv rv s (i+1) (!false) 0 (m:Int))):=zy (λw1 x=>bZ x.R H L (λW hf=>hP W (x.G.fr hf (o2_ x.lt x.brG) (λg e=>e▸x.brG)) _ yf_));replace J:=zy J;by_cases D:qw s (i+1)/\∃v,Lib.parseIntB 64 (s.extract (i+1) (zI s (i+1))).data.toList=.ok v/\0<=v/\v<=(m:Int);case neg=>
  have hr:=zy (show yQ (rdT s (zx ds) false f) s false l i=none by rw[a6,n_ (λh=>D (a3.2 h).1)]);replace D:=zy D;clear M ho hX hR a6 a3 hk a0;go_in;go_wp2_with (first
   |(go_at_call 119;apply(yy 60 E.o.R H a1 D_ D_ J).mono;rintro e w1 ⟨rfl,c,h1⟩;have x:=zy (E.o.call h1 c L);have S:=zy (A'.o.trans c u_);have B:=zy (c.bl hN M_);have n1:=B.o.c1;clear c h1)
   |(go_at_call 170;apply(a7.o w1 x).mono;rintro e w2 ⟨n,b,rfl,r,C,hb,hv⟩;have z:=zy (x.o.call C r a4);have U:=zy (S.o.trans r u_);have N2:=zy (r.bl B M_);obtain rfl:b=false:=(by cases b;rfl;exact absurd (hb.1 rfl) D);have e2:=z.o.e;clear hb hv;clear r C))
  go_quiet (fail);go_wp2;try go_ret
  rw[Q_.o,hr.o];exact cZ (U.o.si (zq.drewN _ _)) (z.o.R.si (zq.drewN _ _)) a4
 case pos=>
 by_cases a5:bt s (zI s (i+1))=58;case neg=>
  have hr:=zy (show yQ (rdT s (zx ds) false f) s false l i=none by rw[a6,n_ (λh=>a5 (a3.2 h).2)]);replace D:=zy D;replace a5:=zy a5;clear M ho hX hR a6 a3 hk a0;go_in;go_wp2_with (first
   |(go_at_call 119;apply(yy 60 E.o.R H a1 D_ D_ J).mono;rintro e w1 ⟨rfl,c,h1⟩;have x:=zy (E.o.call h1 c L);have S:=zy (A'.o.trans c u_);have B:=zy (c.bl hN M_);have n1:=B.o.c1;clear c h1)
   |(go_at_call 170;apply(a7.o w1 x).mono;rintro e w2 ⟨n,b,rfl,r,C,hb,hv⟩;have z:=zy (x.o.call C r a4);have U:=zy (S.o.trans r u_);have N2:=zy (r.bl B M_);obtain rfl:=hb.2 D;clear hb hv;clear r C)
   |(go_at_call 119;apply(xv 58 z.o.R H a4 D_ D_ a5).mono;rintro e w3 ⟨rfl,y,F⟩;have e3:=(z.o.call F y a4).e;replace y:=zy y;replace F:=zy F))
  go_quiet (fail);go_wp2;try go_ret
  rw[Q_.o,hr.o];exact cZ ((U.o.trans y u_).si (zq.drewN _ _)) (F.o.si (zq.drewN _ _)) a4
 case pos=>
 have hg:=a3.1 ⟨D,a5⟩;have b8:H_ (∀v,Lib.parseIntB 64 (s.extract (i+1) (zI s (i+1))).data.toList=.ok v->v=(N:Int)):=zy (λv hp=>by
  have:=Gz L (by rw[hk,a0];exact hg.1) (by rw[hk];exact hg.2) hp
  rw[hk,a0]at this
  exact this.2)
 have hnk:zI s (i+1)=k:=by
  obtain⟨v,hv,_⟩:=D.2;have:=Gz L (by rw[hk,a0];exact hg.1) (by rw[hk];exact hg.2) hv;rw[hk]at this;exact this.1
 have d9:N<l.length:=by
  have:=hg.1;unfold ph at this;exact(of_decide_eq_true this).2.2
 obtain⟨t,ht⟩:∃t,l[N]?=some t:=⟨_,aj_ d9⟩;have hr:yQ (rdT s (zx ds) false f) s false l i=match rdT s (zx ds) false f t (k+1) with|none=>none|some (d,j)=>if bt s j=62 then some (.mk 40 (N:Int) noB [] [d],j+1) else none:=by rw[a6,i_ hg,ht];try rfl
 have b7:=zy hg.2;have b5:k+1<=s.size:=zp (s:=s) (i:=k) (o1_ hg.2);have e0:=zy (show i+1<=k by rw[<- hnk];exact al_ (lu (s:=s) L).1 (lu (s:=s) L).2.2.1);have b6:H_ (∀W,NC w0 P ss ds (sv) rv xs s nt nx false br (k+1) W->Fr w W (· = br)->Calls prog 179 #[P_ br,.agg #[Z_ p,.slice ba (m+1) bc],I_ N] W (yx (zx ds) (.alts q0 l) W sv rv s nt nx false br (aH N (rdT s (zx ds) false f t (k+1))))):=zy (λW MW hf=>mK (tt:=.alts q0 l) (by simp only[yg,as_,ht];rfl) MW (zj ho hf (λg hg e=>M.brP (e▸d2 g hg))) (by have:=hm.o;omega) M_ ((hX N t ht).fr hf (λg hg e=>M.brP (e▸hg))) hI (hR t (ai_ ht) (k+1) (by have:=e0.o;omega) b5));replace D:=zy D;rw[hnk]at a5 a4;replace hnk:=zy hnk;clear ho hX hR a6 a3 hg ht hk a0;have hkl0:k<=s.size:=M_;cases hp:rdT s (zx ds) false f t (k+1) with
 |none=>
  rw[hp]at hr;replace hr:=zy hr;replace hp:=zy hp;clear M;go_in;go_wp2_with (first
   |(go_at_call 119;apply(yy 60 E.o.R H a1 D_ D_ J).mono;rintro e w1 ⟨rfl,c,h1⟩;have x:=zy (E.o.call h1 c L);have S:=zy (A'.o.trans c u_);have B:=zy (c.bl hN M_);have n1:=B.o.c1;clear c h1)
   |(go_at_call 170;apply(a7.o w1 x).mono;rintro e w2 ⟨n,b,rfl,r,C,hb,hv⟩;have z:=zy (x.o.call C r zl_);have U:=zy (S.o.trans r u_);have N2:=zy (r.bl B M_);obtain rfl:=hb.2 D;obtain rfl:=b8.o _ (hv rfl);rw[hnk.o]at z;clear hb hv;clear r C)
   |(go_at_call 119;apply(yy 58 z.o.R H hkl0 D_ D_ b7).mono;rintro e w3 ⟨rfl,y,F⟩;have M3:=zy (z.o.call F y b5);have Q:=zy (U.o.trans y u_);have O:=y.bl N2 M_;have d6:=O.c0;have d7:=O.c1;clear O y F)
   |(go_at_call 179;apply(b6.o _ M3 Q).mono;rintro e w4 ⟨v4,b9,rfl,K,hm⟩;rw[hp.o]at hm;obtain⟨rfl,a8,j4,I,b4⟩:=hm;obtain⟨eT,ex,rfl⟩:=a8.iface;replace a8:=zy a8;replace K:=zy K;replace I:=zy I))
  try go_ret
  rw[Q_.o,hr.o];have d8:=Q.o.trans K u_;exact⟨.nilIface,_,rfl,d8,rfl,a8.o.ls Q.o.size,j4,I,b4⟩
 |some q=>
  obtain⟨d,j2⟩:=q;rw[hp]at hr;have a9:=(vD s (zx ds) false f t (k+1) d j2 hp).2;replace hp:=zy hp;clear M;by_cases Z:bt s j2=62
  .have e4:j2+1<=s.size:=zp (s:=s) (i:=j2) M_;simp only[Z,if_true]at hr;replace hr:=zy hr;replace Z:=zy Z;go_in;go_wp2_with (first
    |(go_at_call 119;apply(yy 60 E.o.R H a1 D_ D_ J).mono;rintro e w1 ⟨rfl,c,h1⟩;have x:=zy (E.o.call h1 c L);have S:=zy (A'.o.trans c u_);have B:=zy (c.bl hN M_);have n1:=B.o.c1;clear c h1)
    |(go_at_call 170;apply(a7.o w1 x).mono;rintro e w2 ⟨n,b,rfl,r,C,hb,hv⟩;have z:=zy (x.o.call C r zl_);have U:=zy (S.o.trans r u_);have N2:=zy (r.bl B M_);obtain rfl:=hb.2 D;obtain rfl:=b8.o _ (hv rfl);rw[hnk.o]at z;clear hb hv;clear r C)
    |(go_at_call 119;apply(yy 58 z.o.R H hkl0 D_ D_ b7).mono;rintro e w3 ⟨rfl,y,F⟩;have M3:=zy (z.o.call F y b5);have Q:=zy (U.o.trans y u_);have O:=y.bl N2 M_;have d6:=O.c0;have d7:=O.c1;clear O y F)
    |(go_at_call 179;apply(b6.o _ M3 Q).mono;rintro e w4 ⟨v4,b9,rfl,K,hm⟩;rw[hp.o]at hm;obtain⟨rfl,a2,I,b4⟩:=hm;obtain⟨dT,dx,rfl⟩:=a2.iface;replace a2:=zy a2;replace K:=zy K;replace I:=zy I)
    |(go_at_call 119;apply(yy 62 I H a9 D_ D_ Z).mono;rintro e w5 ⟨rfl,V,Y⟩;replace V:=zy V;replace Y:=zy Y))
   try go_ret
   rw[Q_.o,hr.o];have f0:=Q.o.size;exact nok ((a2.o.fr V (λg hg e=>o1_ M3.o.lt)).mono (λg _ hg=>M_)) ((Q.o.trans K u_).trans V u_) Y e4
  .simp only[Z,if_false]at hr;replace hr:=zy hr;replace Z:=zy Z;go_in;go_wp2_with (first
    |(go_at_call 119;apply(yy 60 E.o.R H a1 D_ D_ J).mono;rintro e w1 ⟨rfl,c,h1⟩;have x:=zy (E.o.call h1 c L);have S:=zy (A'.o.trans c u_);have B:=zy (c.bl hN M_);have n1:=B.o.c1;clear c h1)
    |(go_at_call 170;apply(a7.o w1 x).mono;rintro e w2 ⟨n,b,rfl,r,C,hb,hv⟩;have z:=zy (x.o.call C r zl_);have U:=zy (S.o.trans r u_);have N2:=zy (r.bl B M_);obtain rfl:=hb.2 D;obtain rfl:=b8.o _ (hv rfl);rw[hnk.o]at z;clear hb hv;clear r C)
    |(go_at_call 119;apply(yy 58 z.o.R H hkl0 D_ D_ b7).mono;rintro e w3 ⟨rfl,y,F⟩;have M3:=zy (z.o.call F y b5);have Q:=zy (U.o.trans y u_);have O:=y.bl N2 M_;have d6:=O.c0;have d7:=O.c1;clear O y F)
    |(go_at_call 179;apply(b6.o _ M3 Q).mono;rintro e w4 ⟨v4,b9,rfl,K,hm⟩;rw[hp.o]at hm;obtain⟨rfl,a2,I,b4⟩:=hm;obtain⟨dT,dx,rfl⟩:=a2.iface;clear a2;have M4:=zy (M3.o.call I K b4);replace K:=zy K;replace I:=zy I)
    |(go_at_call 119;apply(xv 62 I H a9 D_ D_ Z).mono;rintro e w5 ⟨rfl,V,Y⟩;have e5:=(M4.o.call Y V a9).e;replace V:=zy V;replace Y:=zy Y))
   go_quiet (fail);go_wp2;try go_ret
   rw[Q_.o,hr.o];exact cZ (((Q.o.trans K u_).trans V u_).si (zq.drewN _ _)) (Y.o.si (zq.drewN _ _)) a9
end
section
variable {w0:Aw} {P:Az} {ss:BA} {ds:Ar} {sv rv:Ax} {xs:Ay} {s:BA} {nt:Av} {nx:Ax} {br:Nat}
def GD(E:yM w0)(G:xe w0):Mq w0 P ss ds sv rv xs s nt nx false br:=by
 intro f p l i I H _ x w v M y;have z:l.length<=300:=by
  rcases H with h|h
  .cases h
  .exact h
 obtain⟨X,b,ho,hP,hX,rfl⟩:∃X b,w.ownsRow 0 46 1 b l.length ((List.range l.length).map X)/\(∀g,b.ownBlock=some g->P g)/\(∀i u,l[i]?=some u->TyV w P u (X i))/\v=.iface 226 (.agg #[I_ p,b]):=by
  cases y with
  |alts _ X ho hP h=>exact⟨X,_,ho,hP,h,rfl⟩
 obtain⟨m,C,rfl⟩:=zw ho;rw[rdT];refine hq_ λH B=>?_;have A:Fr w (w.alloc (.cells #[I_ p,.slice m l.length C] 226)) N_:=(A_ w _).alloc _;have m:=M.new A;have r:=zy (aR (q0:=p) (p:=(p:Int)) m (zj ho A u_) (λk u e=>(hX k u e).fr A u_) hP I z E G (λt E j h1 C=>x t E j (λh=>by cases h) (λ_=>h1) C));replace A:=zy A;generalize l.length=n at r A z⊢;go_in;go_wp2_with (go_at_call 125;apply r.o.mono;intro e m F;obtain⟨b,D,rfl,c⟩:=F;replace c:=zy c);try go_ret
 rw[B.o];exact yx.pre A ⟨b,D,rfl,c⟩
end
def ZH{s:BA}(hs:s.size<=300){i:Nat}(h:zR s i=.ok (f,j)):xS f.ty/\i<j:=by
 unfold zR at h;split at h
 .split at h
  .rename_i b;have hl:=zp (s:=s) (i:=i+1) M_;split at h
   .cases h
   .rename_i t k hp;have:=KK hs (i:=i+2) M_ hp;have hb:=(xV (s:=s) (i:=i+2) M_).1 t k hp;split at h
    .split at h
     .cases h
     .rename_i e hd;have:=gN hd;cases h;exact⟨by assumption,M_⟩
    .cases h;exact⟨by assumption,M_⟩
  .cases h
 .cases h
def ix(s:BA)(hs:s.size<=300):∀(n i:Nat) (l:List PF) (j:Nat),yW s n i=.ok (l,j)->(∀f∈l,xS f.ty)/\i+l.length<=j:=by
 intro n;induction n with
 |zero=>intro i l j h;cases h
 |succ n ih=>
  intro i l j h;unfold yW at h;split at h
  .cases h
  .rename_i f k hf;obtain⟨h1,m⟩:=ZH hs hf;split at h
   .cases h;exact⟨λg hg=>by rw[a2_]at hg;subst hg;exact h1,by simp;omega⟩
   .split at h
    .split at h
     .cases h
     .rename_i fs o hr;obtain⟨b,c⟩:=ih _ _ _ hr;cases h;refine⟨λg hg=>?_,by simp;omega⟩;rcases aq_.1 hg with rfl|hg
      .exact h1
      .exact b g hg
    .cases h
def VR{s:BA}(hs:s.size<=300){i:Nat}{b:PB}(h:yG s i=.ok (b,j)):(∀f∈b.fs,xS f.ty)/\i+b.fs.length<=j:=by
 unfold yG at h;split at h
 .split at h
  .cases h
  .rename_i ds k hr;simp only[ae_,ad_]at h;obtain⟨rfl,rfl⟩:=h;unfold yf at hr;split at hr
   .split at hr
    .simp only[ae_,ad_]at hr;obtain⟨rfl,rfl⟩:=hr;exact⟨λf hf=>by simp[PB.fs]at hf,by simp[PB.fs];omega⟩
    .obtain⟨c,m⟩:=ix s hs _ _ _ _ hr;exact⟨c,by show i+ds.length<=k;omega⟩
   .cases hr
 .split at h
  .split at h
   .cases h
   .rename_i l o k hr;simp only[ae_,ad_]at h;obtain⟨rfl,rfl⟩:=h;have:=(uV hr).2.2.2;exact⟨λf hf=>by simp[PB.fs]at hf,by simp[PB.fs];omega⟩
  .split at h
   .split at h
    .simp only[ae_,ad_]at h;obtain⟨rfl,rfl⟩:=h;exact⟨λf hf=>by simp[PB.fs]at hf,by simp[PB.fs]⟩
    .cases h
   .cases h
def ZT(s:BA)(hs:s.size<=300):∀(n i:Nat) (ds:List PD) (j:Nat),i<=s.size->yi s n i=.ok (ds,j)->(∀f∈zk ds,xS f.ty)/\i+(zk ds).length<=j/\j<=s.size:=by
 intro n;induction n with
 |zero=>
  intro i ds j hi h;simp only[yi,ae_,ad_]at h;obtain⟨rfl,rfl⟩:=h;exact⟨λf hf=>by simp[zk]at hf,by simp[zk],hi⟩
 |succ n ih=>
  intro i ds j hi h;unfold yi at h;split at h
  .split at h
   .split at h
    .cases h
    .rename_i b k hb;obtain⟨b1,b2⟩:=VR hs hb;have b3:=bk hb;split at h
     .rename_i m;have c:=zp (s:=s) (i:=k) M_;split at h
      .cases h
      .rename_i r e hr;obtain⟨r1,o,l⟩:=ih _ _ _ c hr;cases h;rw[jR];refine⟨λf hf=>?_,by rw[ag_];show i+(b.fs.length+_)<=_;omega,l⟩;rcases a4_.1 hf with hf|hf
       .exact b1 f hf
       .exact r1 f hf
     .cases h
   .cases h
  .cases h;exact⟨λf hf=>by simp[zk]at hf,by simp[zk],hi⟩
def ii{ds:Ar}(hd:d∈ds)(hf:f∈d.body.fs):f∈zk ds:=by
 unfold zk;exact cd_.2 ⟨d,hd,hf⟩
def bD{ds:Ar}(hf:f∈zk ds):∃d∈ds,f∈d.body.fs:=by
 unfold zk at hf;exact cd_.1 hf
def xA{s:BA}(hs:s.size<=300){ds:Ar}(h:ze s=.ok (ds,t)):(∀d∈ds,plB d.body)/\xS t/\shT t/\(zk ds).length<=300/\(∀f∈zk ds,xS f.ty/\shT f.ty)/\ds.length<=6:=by
 obtain⟨_,_,_,x,y⟩:=jT h;obtain⟨u,A⟩:=jL h;have h0:=h;unfold ze at h0;split at h0
 .cases h0
 .rename_i ds' i hd;obtain⟨p,B,f3⟩:=ZT s hs _ _ _ _ o_ hd;split at h0
  .cases h0
  .rename_i t' j z;have ft:=KK hs f3 z;split at h0
   .cases h0
   .cases h0;refine⟨λd m=>?_,ft,A,M_,λf hf=>⟨p f hf,?_⟩,y⟩
    .have h1:=(x d m).2;have b:=u d m;have r:∀f∈d.body.fs,xS f.ty:=λf hf=>p f (ii m hf);cases hb:d.body with
     |recd fs=>rw[hb]at h1 b r;exact⟨o1_ b.2,h1,r⟩
     |enum l o=>rw[hb]at h1 b;exact⟨o1_ b.2,h1.1,h1.2⟩
     |bytes n=>trivial
    .obtain⟨d,m,c⟩:=bD hf;have b:=u d m;cases hb:d.body with
     |recd fs=>rw[hb]at b c;exact b.1 f c
     |enum l o=>rw[hb]at c;simp[PB.fs]at c
     |bytes n=>rw[hb]at c;simp[PB.fs]at c
end Go.Proofs.YtokgeopihcopeaaGreatDoor
