import Derived.Test.YtahhhgbojlkjnaaGreatDoorW19
set_option maxHeartbeats 16000000
set_option maxRecDepth 100000
set_option linter.defProp false
set_option linter.unusedSimpArgs false
open Go.Proofs.Tryz
namespace Go.Proofs.YtahhhgbojlkjnaaGreatDoor
open Go.RowKit
variable {f:PF}{lo g k n j:Nat}{blk:Dv}{S:Au}
def nh(blk:Dv)(f:PF)(d:Ax):Prop:=∀a e,f.dflt=some (a,e)->d=.pointer (some ⟨blk a,0,none⟩)
structure aM(P:Au)(ds:Ar)(blk:Dv):Prop where
 off:∀f∈zp ds,∀a e,f.dflt=some (a,e)->P (blk a)
 ne:∀(i j:Nat) (f g:PF) (a e a' e':Nat),(zp ds)[i]?=some f->(zp ds)[j]?=some g->f.dflt=some (a,e)->g.dflt=some (a',e')->i≠j->blk a≠blk a'
def uA(lo:Nat)(s:BA)(ds:Ar)(blk:Dv)(W:Aw)(f:PF):Prop:=
 ∀a e,f.dflt=some (a,e)->∃x d,yD (zx ds) true f.ty (s.extract a e)=some d/\Blk W (blk a) [I_ a,.string (s.extract a e),x] 189/\DaV (zx ds) W (λg=>lo<=g) d f.ty x
def uA.fr{s:BA}{ds:Ar}{W W':Aw}(h:uA lo s ds blk W f)(l:Fr W W' S)(p:∀g,lo<=g->¬S g)(hb:∀a e,f.dflt=some (a,e)->¬S (blk a)):uA lo s ds blk W' f:=λa e he=>by
 obtain⟨x,d,h1,m,o⟩:=h a e he;exact⟨x,d,h1,l.bl m (hb a e he),o.fr l p⟩
def gA(w W:Aw):Prop:=∀(b:Nat) (e:TypeId) (k:Nat) (v:Value) (n:Nat) (ys:List Value),e≠189->w.ownsRow b e k v n ys->W.ownsRow b e k v n ys
def gA.new{w W W':Aw}(h:gA w W)(l:Fr W W' N_):gA w W':=λb e k v n ys he ho=>zk (h b e k v n ys he ho) l u_
def gA.put{w W:Aw}{cs:Az}{x:Ax}(h:gA w W)(hb:Blk W g cs 189):gA w (W.setCell ⟨g,2,none⟩ x):=λb e k v n ys he ho=>fh hb x (h b e k v n ys he ho) he
def Yo(w:Aw)(P:Au)(s:BA)(ds:Ar)(sv:Ax)(xs:Az)(nt:As)(nx:Ax)(blk:Dv)(L:Ai)(e:Ah)(w':Aw):Prop:=
 ∃v,e=.returned v/\Fr w w' P/\match L with | []=>v=.nilIface/\xf w' P s ds sv xs/\(∀t x,TyV w P t x->TyV w' P t x)/\(∀f∈zp ds,uA w.heap.size s ds blk w' f)/\gA w w'|y::_=>∃ev,yq w' w.heap.size v (y:Int) ev/\jp w' w.heap.size nt nx ev
def fj(lo:Nat)(s:BA)(ds:Ar)(blk:Dv)(q:Nat)(W:Aw):Prop:=∀i f,i<q->(zp ds)[i]?=some f->uA lo s ds blk W f
def fj.new{s:BA}{ds:Ar}{q:Nat}{W W':Aw}(h:fj lo s ds blk q W)(e:Fr W W' N_):fj lo s ds blk q W':=λi f l hd=>(h i f l hd).fr e u_ (λ_ _ _ f=>f)
def fj.put{P:Au}{s:BA}{ds:Ar}{q:Nat}{W:Aw}{a e:Nat}{x v:Ax}{d:DT}(h:fj lo s ds blk q W)(K:aM P ds blk)(hP:∀g,P g->g<lo)(hd:(zp ds)[q]?=some f)(he:f.dflt=some (a,e))(hr:yD (zx ds) true f.ty (s.extract a e)=some d)(hb:Blk W (blk a) [I_ a,.string (s.extract a e),x] 189)(m:DaV (zx ds) W (λg=>lo<=g) d f.ty v):fj lo s ds blk (q+1) (W.setCell ⟨blk a,2,none⟩ v):=by
 have l:=al_ hd;have r:=hP _ (K.off f l a e he);have o:Fr W (W.setCell ⟨blk a,2,none⟩ v) (λg=>g=blk a):=V_ W ⟨blk a,2,none⟩ v;intro i g l hg;by_cases p:i=q
 .subst p;rw[hd]at hg;cases hg;intro a' e' l;rw[he]at l;cases l;exact⟨v,d,hr,hb.set 2 v,m.fr o (λg h1 m=>M_)⟩
 .exact(h i g M_ hg).fr o (λg h1 m=>M_) (λa' e' l m=>K.ne i q g f a' e' a e hg hd l he p m)
def mA{w0 w:Aw}{P:Au}{s:BA}{ds:Ar}{sv:Ax}{rT:As}{rx:Ax}{xs:Az}{nt:As}{nx:Ax}(D:xf w P s ds sv xs)(hG:yt w0 w)(hk:w0.heap.size<=w.heap.size)(e2:∀g,P g->w0.heap.size<=g)(a7:∀g,P g->g<w.heap.size)(hE:vt 3 w0 nt nx)(hs:s.size<=300)(e7:(zp ds).length<=300)(e9:∀f∈zp ds,okT (zx ds) f.ty)(e4:jj ds)(hI:yV w0)(hQ:yJ w0)(hN:ii w0)(e3:aW (nh blk) w ds sv)(KB:aM P ds blk):Calls prog 56 #[.agg #[sv,.iface rT rx]] w (Yo w P s ds sv xs nt nx blk (jF s ds)):=by
 refine hq_ λz Q_=>?_;obtain⟨A,C,rfl⟩:=zh D.row;have z:Fr w (w.alloc (.cells #[.slice A ds.length C,.iface rT rx] 65)) N_:=(A_ w _).alloc _;have d6:(w.alloc (.cells #[.slice A ds.length C,.iface rT rx] 65)).heap.size=w.heap.size+1:=x8_
 have V:=Xj (rv:=.iface rT rx) (D.fr z u_) e7 (λg hg=>bg_ (a7 g hg) z.size) (λW g q a8 m d p fs fv zs hW=>e3 W g q a8 m d p fs fv zs (z.trans hW u_));replace KB:=zy KB;rw[d6]at V;have b7:H_ (∀w1 fv ys,Fr (w.alloc (.cells #[.slice A ds.length C,.iface rT rx] 65)) w1 N_->xQ w1 (λg=>P g\/w.heap.size+1<=g) s (zp ds) fv ys->RDM w0 w P s ds (.slice A ds.length C) (.iface rT rx) xs fv ys w1):=zy (λw1 fv ys L Y=>⟨(z.mono v_).trans L v_,(D.fr z u_).fr L u_,Y,L.bl (B_ w #[.slice A ds.length C,.iface rT rx] 65) id,(hG.fr z hk (λ_ f=>f.elim)).fr L M_ (λ_ f=>f.elim),λt x h=>(h.fr z u_).fr L u_⟩);have b5:=zy (λ(w1:World) (N:Fr (w.alloc (.cells #[.slice A ds.length C,.iface rT rx] 65)) w1 N_)=>(show gA w w1 from λb e k v n ys _ ho=>zk (zk ho z u_) N u_));replace V:=zy V;go_in;go_wp2_with (go_at_call 79;apply V.o.mono;rintro e w1 ⟨fv,ys,rfl,N,Y,a6⟩;replace a6:=zy a6;have r:=b7.o w1 fv ys N Y;obtain⟨fa,fc,rfl⟩:=zh Y.row;replace r:=zy r;replace N:=zy N);have d7:H_ (∃q:Nat,Value.int .i64 0=I_ q/\q<=(zp ds).length/\(zp ds).length+1-q<=(zp ds).length+1/\RDM w0 w P s ds (.slice A ds.length C) (.iface rT rx) xs (.slice fa (zp ds).length fc) ys w1/\jF s ds=((zp ds).drop q).flatMap (dfB s (zx ds))/\fj w.heap.size s ds blk q w1/\gA w w1):=zy ⟨0,rfl,aj_ _,M_,r,rfl,(λi f h=>absurd h (Nat.not_lt_zero _)),b5.o w1 N⟩;go_loopg [10] ((zp ds).length+1) (λm v W=>∃q:Nat,v=I_ q/\q<=(zp ds).length/\(zp ds).length+1-q<=m/\RDM w0 w P s ds (.slice A ds.length C) (.iface rT rx) xs (.slice fa (zp ds).length fc) ys W/\jF s ds=((zp ds).drop q).flatMap (dfB s (zx ds))/\fj w.heap.size s ds blk q W/\gA w W);case atStart=>exact d7
 case round=>
  obtain⟨q,rfl,z,hm,M,he,a4,a5⟩:=hrel;by_cases a1:q<(zp ds).length
  .have e8:(q:Int)<((zp ds).length:Int):=M_;have hd:(zp ds)[q]?=some (zp ds)[q]:=ak_ a1;have d0:(zp ds)[q]∈zp ds:=a9_ a1;generalize (zp ds)[q]=f at hd d0;obtain⟨g,a8,z⟩:=zu M.F.row M_;cases z;obtain⟨T,x,d,c0,c1,c2,c3,hT,X⟩:=M.F.cells hd;have a9:nh blk f (.pointer d):=by
    have z:ys.length=(zp ds).length*4:=M.F.row.1;obtain⟨u,hu⟩:∃u,ys[4*q+3]?=some u:=⟨_,ak_ M_⟩;have hc:=ze M.F.row rfl hu;rw[a7_]at hc;rw[hc]at c3;cases c3;exact a6.o q f _ hd hu
   rw[Qu hd]at he;obtain⟨l,b9⟩:=x_ f.letter;obtain⟨pl,d2⟩:=x_ f.place;rw[b9]at c1;rw[d2]at c0;have f0:=e9 f d0;have E:=(A_ wr N_).alloc (.cells #[I_ pl,U_ l,.iface T x,.pointer d] 185);have H:=B_ wr #[I_ pl,U_ l,.iface T x,.pointer d] 185;have r:=M.new hk E;have b4:=zy (a4.new E);have b6:=zy (a5.new E);cases y:f.dflt with
   |none=>
    rw[y]at X;have I:d=none:=by
     have:Value.pointer d=.pointer none:=X;cases this;rfl
    subst I;have J:=zy (show jF s ds=((zp ds).drop (q+1)).flatMap (dfB s (zx ds)) by rw[he];unfold dfB;rw[y];rfl);replace r:=zy r;go_wp2;go_roundg ((zp ds).length+1-(q+1));case measure=>omega
    case rel=>exact⟨q+1,rfl,a1,l_,r,J,(λi g hi hg=>by
     by_cases O:i=q
     .subst O;rw[hd]at hg;cases hg;intro a e h;rw[y]at h;cases h
     .exact b4.o i g M_ hg),b6⟩
   |some ae=>
    obtain⟨a,O⟩:=ae;rw[y]at X;obtain⟨z,N,e6,N,V,V⟩:=X;cases N;obtain rfl:z=blk a:=by have:=a9 a O y;cases this;rfl
    replace y:=zy y;replace hd:=zy hd;have X:dfB s (zx ds) f=if (yD (zx ds) true f.ty (s.extract a O)).isSome=true then [] else [a]:=by unfold dfB;rw[y.o]
    rw[X]at he;have R:=E.bl V id;have z:=E.size;have N:=E.drew;have z:=M.new hk N;have U:=eH (s:=s.extract a O) (P:=λg=>(P g\/w.heap.size+1<=g)/\g<wr.heap.size) (rT:=rT) (rx:=rx) (z.D.mono (λg _ h=>⟨.inl h,by have:=a7 g h;have:=M.fr.size;omega⟩)) ((hT.mono (Q:=λg=>(P g\/w.heap.size+1<=g)/\g<wr.heap.size) (λg h1 Y=>⟨Y,h1⟩)).fr N u_) z.G (ai_ hk z.fr.size) (λg hg=>by have:=N.size;omega) hE y6_ f0 e4 hI hQ hN;have s0:=r.B.c0;have s1:=r.B.c1;have n2:=H.c2;have n3:=H.c3;have d1:=R.c1;have f2:=zy (z.fr.size:w.heap.size<=(wr.alloc (.cells #[I_ pl,U_ l,.iface T x,.pointer (some ⟨blk a,0,none⟩)] 185)).drew.heap.size);have b8:=zy (And.intro z (And.intro (N.bl V id) (And.intro H.drew U)));go_wp2;obtain⟨r,R,H,U⟩:=b8.o;have e5:=zy (show w.heap.size<=(wr.alloc (.cells #[I_ pl,U_ l,.iface T x,.pointer (some ⟨blk a,0,none⟩)] 185)).drew.heap.size from r.fr.size);refine tR_ (λW=>z_ W w.heap.size 0 (.slice A ds.length C)/\z_ W w.heap.size 1 (.iface rT rx)/\z_ W wr.heap.size 2 (.iface T x)/\z_ W wr.heap.size 3 (.pointer (some ⟨blk a,0,none⟩))/\z_ W (blk a) 1 (.string (s.extract a O))) ?_;refine tY_ 0 ?_;refine tY_ 1 ?_;refine tY_ 2 ?_;refine tY_ 3 ?_;refine tY_ 4 ?_;refine tY_ 5 ?_;refine tY_ 6 ?_;refine tY_ 7 ?_;refine zd 8 rfl K_ ⟨s0,s1,n2,n3,d1⟩ (λK hK=>?_);go_simp;apply U.mono;rintro e w2 ⟨z,z,rfl,z,a2⟩;refine hK _ _ ?_;have J:=r.new hk z;have d8:=zy ((b4.o.new ((A_ _ _).drew)).new z);have e0:=zy ((b6.o.new ((A_ _ _).drew)).new z);have A:=z.bl H id;have I:=z.bl R id;have E:=J.B.c0;have N:=J.B.c1;have C:=A.c2;have V:=A.c3;obtain⟨b0,b1,b2⟩:=I.d3;have bg:=I.th 2;refine tY_ 9 ?_;refine tY_ 10 ?_;refine tY_ 11 ?_;refine tY_ 12 ?_;refine tY_ 13 ?_;refine zV K_ ⟨E,N,C,V,b1⟩ ?_ _;revert z J I;refine h_ λz J I=>?_;cases Z:yD (zx ds) true f.ty (s.extract a O) with
    |some dd=>
     rw[Z]at a2 he;simp only[b3_,if_true]at he;rw[br_]at he;obtain⟨rfl,a3⟩:=a2;obtain⟨dT,dx,rfl⟩:=a3.iface;have e1:=zy (e0.o.put (x:=.iface dT dx) I);have d9:=zy (d8.o.put KB a7 hd y Z I (a3.mono (λg _ hg=>ai_ f2 hg)));replace he:=zy he;go_wp2;go_roundg ((zp ds).length+1-(q+1));case measure=>omega
     case rel=>exact⟨q+1,rfl,a1,l_,J.o.put hk e2 I e6 (.iface dT dx) (.inr ⟨_,_,rfl⟩),he,d9,e1⟩
    |none=>
     rw[Z]at a2 he;simp only[by_,a2_,if_false]at he;obtain⟨rfl,a0⟩:=a2;obtain⟨eT,ex,rfl⟩:=a0.iface;replace he:=zy he;replace a0:=zy a0;go_wp2_with (go_at_call 76;apply(vV (a:Int) _).mono;rintro e r ⟨rfl,r⟩;rw[r]);try go_ret
     rw[Q_.o];have f1:=J.o.fr.size;have A3:Fr w2 (w2.alloc (.cells #[I_ a,.iface eT ex] 177)) N_:=(A_ w2 _).alloc _;refine⟨_,rfl,J.o.fr.trans A3 v_,?_⟩;rw[he.o];exact⟨.iface eT ex,⟨w2.heap.size,f1,rfl,B_ w2 _ _⟩,(a0.o.fr A3 u_).ls (by have:=e5.o;omega)⟩
  .have e8:¬((q:Int)<((zp ds).length:Int)):=M_;rw[bz_ M_,b4_]at he;replace he:=zy he;replace M:=zy M;go_wp2;try go_ret
   rw[Q_.o];refine⟨.nilIface,rfl,M.o.fr,?_⟩;rw[he.o];exact⟨rfl,M.o.D,M.o.T,(λf L=>by
    obtain⟨i,hi⟩:=cf_ L
    exact a4 i f (by have:=(am_.1 hi).1;omega) hi),a5⟩
def fO{w:Aw}{b o:Nat}{e:As}{v:Ax}{xs xs':Az}(h:w.ownsRow b e k v n xs)(l:w.ownsRow o e k v n xs'):xs=xs':=by
 have h1:xs.length=n*k:=h.1;have m:xs'.length=n*k:=l.1;rcases b6_ n with h0|h0
 .subst h0;rw[Nat.zero_mul]at h1 m;rw[cl_ h1,cl_ m]
 .obtain⟨g,m,rfl⟩:=zu h h0;apply List.ext_getElem?;intro j;by_cases m:j<n*k
  .obtain⟨x,hx⟩:∃x,xs[j]?=some x:=⟨_,ak_ M_⟩;obtain⟨y,hy⟩:∃y,xs'[j]?=some y:=⟨_,ak_ M_⟩;have a:=ze h rfl hx;have c:=ze l rfl hy;rw[a]at c;cases c;rw[hx,hy]
  .rw[bq_ M_,bq_ M_]
def bU{ds:Ar}{d:PD}{i:Nat}(hd:ds[k]?=some d)(e:d.body.fs[i]?=some f):(zp ds)[(zp (ds.take k)).length+i]?=some f:=by
 have h:zp ds=zp (ds.take (k+1))++zp (ds.drop (k+1)):=by
  unfold zp;rw[<- bj_,List.take_append_drop]
 have l:=(am_.1 e).1;rw[h,jE hd,bw_,ax_ M_,ck_,ay_ l];exact e
def bF{ds:Ar}{e:Nat}{d:PD}(hd:ds[k]?=some d)(hk:k<e):(zp (ds.take k)).length+d.body.fs.length<=(zp (ds.take e)).length:=by
 have h:=gF (ds:=ds.take e) (k+1);rw[List.take_take,Nat.min_eq_left M_,jE hd,ah_]at h;exact h
def io(w:Aw)(P:Au)(s:BA)(ds:Ar)(xs:Az)(a g:Nat):Prop:=
 ∃(k:Nat) (d:PD) (fs:List PF) (p:Nat) (fv:Value) (zs:List Value) (i:Nat) (f:PF) (e:Nat) (x:Value),ds[k]?=some d/\d.body=.recd fs/\xs[3*k+2]?=some (.iface 210 (.agg #[I_ p,fv]))/\w.ownsRow 0 185 4 fv fs.length zs/\fs[i]?=some f/\f.dflt=some (a,e)/\zs[4*i+3]?=some (P_ g)/\P g/\Blk w g [I_ a,.string (s.extract a e),x] 189
def io.uniq{w:Aw}{P:Au}{s:BA}{ds:Ar}{t:PT}{xs:Az}{a g':Nat}(hp:zQ s=.ok (ds,t))(h:io w P s ds xs a g)(F:io w P s ds xs a g'):g=g':=by
 obtain⟨k,d,fs,p,fv,zs,i,f,e,x,h1,A,J,K,C,M,O,_,_⟩:=h;obtain⟨o,G,H,p',I,D,z,f',e',D,m,r,y,L,D,N,E,_,_⟩:=F;have hb:d.body.fs=fs:=by rw[A];rfl
 have F:G.body.fs=H:=by rw[r];rfl
 have G:=bU h1 (by rw[hb];exact C);have H:=bU m (by rw[F];exact D);have T:=(am_.1 C).1;have C:=(am_.1 D).1;have C:(zp (ds.take k)).length+i=(zp (ds.take o)).length+z:=by
  by_cases hx:(zp (ds.take k)).length+i=(zp (ds.take o)).length+z
  .exact hx
  .exact absurd rfl (Ge hp _ _ f f' a e a e' G H M N hx)
 have R:k=o:=by
  rcases Nat.lt_trichotomy k o with hl|hl|hl
  .have:=bF h1 hl;rw[hb]at this;omega
  .exact hl
  .have:=bF m hl;rw[F]at this;omega
 subst R;rw[h1]at m;cases m;rw[A]at r;cases r;rw[J]at y;simp only[ae_,Value.iface.injEq,Value.agg.injEq,true_and]at y;obtain rfl:fv=I:=by
  have:=congrArg (λl:Array Value=>l[1]?) y;simpa using this
 have hz:=fO K L;subst hz;have Q:i=z:=M_;subst Q;rw[O]at E;cases E;rfl
open Classical in
noncomputable def blkOf (w:World) (P:Nat->Prop) (s:BA) (ds:List PD) (xs:List Value) (a:Nat):Nat:=if h:∃g,io w P s ds xs a g then h.choose else 0
def bR{w:Aw}{P:Au}{s:BA}{ds:Ar}{t:PT}{xs:Az}{a:Nat}(hp:zQ s=.ok (ds,t))(h:io w P s ds xs a g):blkOf w P s ds xs a=g:=by
 unfold blkOf;have he:∃g,io w P s ds xs a g:=⟨g,h⟩;rw[dif_pos he];exact io.uniq hp he.choose_spec h
def Yn{w:Aw}{P:Au}{s:BA}{ds:Ar}{sv:Ax}{xs:Az}(D:xf w P s ds sv xs){d:PD}{fs:Am}{i:Nat}{a e:Nat}(hd:ds[k]?=some d)(hb:d.body=.recd fs)(r:fs[i]?=some f)(he:f.dflt=some (a,e)):∃p fv zs g,xs[3*k+2]?=some (.iface 210 (.agg #[Z_ ((p:Nat):Int),fv]))/\w.ownsRow 0 185 4 fv fs.length zs/\(∀b,fv.ownBlock=some b->P b)/\zs[4*i+3]?=some (P_ g)/\io w P s ds xs a g:=by
 obtain⟨c,_,_,l,m⟩:=D.V k d hd;rw[hb]at m;cases m with
 |recd p ho hP h hp=>
  rename_i fv zs;obtain⟨c0,c1,c2,c3,z,A,C,q3,y⟩:=h i f r;have o:=y.2.2.2;rw[he]at o;obtain⟨g,x,hg,rfl,_,hB⟩:=o;exact⟨p,fv,zs,g,l,ho,hP,q3,k,d,fs,p,fv,zs,i,f,e,x,hd,hb,l,ho,r,he,q3,hg,hB⟩
def ZG{w:Aw}{P:Au}{s:BA}{ds:Ar}{t:PT}{sv:Ax}{xs:Az}(D:xf w P s ds sv xs)(hp:zQ s=.ok (ds,t)):aW (nh (blkOf w P s ds xs)) w ds sv/\aM P ds (blkOf w P s ds xs):=by
 have z:∀f∈zp ds,∀a e,f.dflt=some (a,e)->∃g,io w P s ds xs a g:=λf r a e he=>by
  unfold zp at r;obtain⟨d,hd,y⟩:=ch_.1 r;obtain⟨k,hk⟩:=cf_ hd;cases hb:d.body with
  |recd fs=>
   rw[hb]at y;obtain⟨i,A⟩:=cf_ (show f∈fs from y);obtain⟨_,_,_,g,_,_,_,_,h⟩:=Yn D hk hb A he;exact⟨g,h⟩
  |enum l o=>rw[hb]at y;exact absurd y bk_
  |bytes n=>rw[hb]at y;exact absurd y bk_
 refine⟨λW g q y m d p fs fv zs C M hd hb hc ho i f dd r E a e he=>?_,⟨λf r a e he=>?_,λi j f g a e a' e' r hg G H L F=>?_⟩⟩
 .obtain⟨y,A,y,y,h1,I,y,J,K⟩:=Yn D hd hb r he;subst M;have hm:=bu D.row;subst hm;have y:=ze (zk D.row C u_) rfl h1;rw[show 3*q+2=q*3+2 by omega,hc]at y;simp only[ae_,Value.iface.injEq,Value.agg.injEq,true_and]at y;obtain rfl:fv=A:=by
   have:=congrArg (λl:Array Value=>l[1]?) y;simpa using this
  have hz:=fO ho (zk I C u_);subst hz;rw[J]at E;cases E;rw[bR hp K]
 .obtain⟨g,h⟩:=z f r a e he;rw[bR hp h];obtain⟨_,_,_,_,_,_,_,_,_,_,_,_,_,_,_,_,_,hP,_⟩:=h;exact hP
 .have y:=Ge hp i j f g a e a' e' r hg G H L;obtain⟨b,h⟩:=z f (al_ r) a e G;obtain⟨r,A⟩:=z g (al_ hg) a' e' H;rw[bR hp h,bR hp A]at F;subst F;obtain⟨_,_,_,_,_,_,_,_,_,_,_,_,_,_,_,_,_,_,hB⟩:=h;obtain⟨_,_,_,_,_,_,_,_,_,_,_,_,_,_,_,_,_,_,y⟩:=A;have c:=hB.cell 0;have r:=y.cell 0;rw[c]at r;simp only[aa_,ae_,Value.int.injEq,true_and]at r;omega
def pK(X:Cm)(w:Aw)(ds:Ar)(xs:Az):Prop:=
 ∀(q:Nat) (d:PD) (p:Nat) (fs:List PF) (fv:Value) (zs:List Value),ds[q]?=some d->d.body=.recd fs->xs[3*q+2]?=some (.iface 210 (.agg #[I_ p,fv]))->w.ownsRow 0 185 4 fv fs.length zs->uk X fs zs
def aW.cells{X:Cm}{w:Aw}{P:Au}{s:BA}{ds:Ar}{sv:Ax}{xs:Az}(h:aW X w ds sv)(D:xf w P s ds sv xs):pK X w ds xs:=λq d p fs fv zs hd hb hx ho=>by
 have e:=(am_.1 hd).1;obtain⟨g,l,e⟩:=zu D.row M_;have hc:=ze D.row e hx;rw[show 3*q+2=q*3+2 by omega]at hc;exact h w g q l ds.length d p fs fv zs (A_ _ _) e hd hb hc ho
def pK.to{X:Cm}{w w':Aw}{P:Au}{s:BA}{ds:Ar}{sv:Ax}{xs:Az}(h:pK X w ds xs)(D:xf w P s ds sv xs)(hk:∀fv n zs,(∀g,fv.ownBlock=some g->P g)->w.ownsRow 0 185 4 fv n zs->w'.ownsRow 0 185 4 fv n zs):pK X w' ds xs:=λq d p fs fv zs hd hb hx ho=>by
 obtain⟨c,_,_,r,m⟩:=D.V q d hd;rw[hb]at m;have e:=r;rw[hx]at e;cases m with
 |recd p0 ho0 hP h0 hp0=>
  simp only[ae_,Value.iface.injEq,Value.agg.injEq,true_and]at e;rename_i o y;obtain rfl:fv=o:=by
   have:=congrArg (λl:Array Value=>l[1]?) e;simpa using this
  have hz:=fO ho (hk _ _ _ hP ho0);subst hz;exact h q d p fs fv zs hd hb hx ho0
def Dfs(lo:Nat)(P:Au)(w:Aw)(s:BA)(ds:Ar)(xs:Az):Prop:=
 ∃blk,pK (nh blk) w ds xs/\aM P ds blk/\∀f∈zp ds,uA lo s ds blk w f
def Dfs.fr{P:Au}{w w':Aw}{s:BA}{ds:Ar}{sv:Ax}{xs:Az}(h:Dfs lo P w s ds xs)(D:xf w P s ds sv xs)(o:Fr w w' S)(m:∀g,P g->¬S g)(r:∀g,lo<=g->¬S g):Dfs lo P w' s ds xs:=by
 obtain⟨blk,h1,l,p⟩:=h;exact⟨blk,h1.to D (λfv n zs hP ho=>zk ho o (λg e=>m g (hP g e))),l,λf hm=>(p f hm).fr o r (λa e he=>m _ (l.off f hm a e he))⟩
def Dfs.mono{l:Nat}{P Q:Au}{w:Aw}{s:BA}{ds:Ar}{xs:Az}(h:Dfs lo P w s ds xs)(hl:l<=lo)(o:∀g,P g->Q g):Dfs l Q w s ds xs:=by
 obtain⟨blk,h1,l,m⟩:=h;refine⟨blk,h1,⟨λf p a e he=>o _ (l.off f p a e he),l.ne⟩,λf hm a e he=>?_⟩;obtain⟨x,d,r1,l,o⟩:=m f hm a e he;exact⟨x,d,r1,l,o.mono (λg _ hg=>ai_ hl hg)⟩
def Fr.ofBelow{w w':Aw}(h:Below w.heap.size w w'):Fr w w' N_:=⟨h.os,h.tape,h.output,h.size,λk hk _=>h.block k hk⟩
def Fr.bytes(w:Aw)(e:As)(t:BA):Fr w (Lib.bytesWorld w e t) N_:=
 ⟨rfl,rfl,rfl,by rw[Lib.bytesWorld_size];omega,λk hk _=>Lib.bytesWorld_at_old w e t k hk⟩
def vD(w0:Aw):Prop:=∀(W:World),yt w0 W->∀t:BA,t.size<=4000->Calls prog 198 #[.string t,Z_ 10,Z_ 64] W (GU W t)
def ep{w0:Aw}{l m:As}{p r:Ax}(h1:w0.var? prog "strconv.ErrSyntax" = some #[.iface l p])(z:w0.var? prog "strconv.ErrRange" = some #[.iface m r]):vD w0:=by
 intro W o t A;cases hp:Lib.parseIntB 64 t.data.toList with
 |ok v=>
  apply(Tryz.strconv_ParseInt_10_at64_ok t M_ v hp W).mono;rintro e w' ⟨rfl,y⟩;refine⟨?_,.inl ⟨v,hp,rfl⟩⟩;rcases y with rfl|⟨t',rfl⟩
  .exact A_ _ _
  .exact Fr.bytes _ _ _
 |range=>
  apply(Tryz.strconv_ParseInt_10_at64_range_var t M_ hp m r W (o.var z)).mono;rintro e w' ⟨y,rfl,_,_,hb⟩;exact⟨Fr.ofBelow hb,.inr ⟨λv h=>(by rw[hp]at h;cases h),_,_,_,rfl⟩⟩
 | _=>
  apply(Tryz.strconv_ParseInt_10_at64_syntax_var t M_ hp l p W (o.var h1)).mono;rintro e w' ⟨y,rfl,_,_,hb⟩;exact⟨Fr.ofBelow hb,.inr ⟨λv h=>(by rw[hp]at h;cases h),_,_,_,rfl⟩⟩
def yt.cell{w0 w:Aw}(h:yt w0 w){a:Addr}{v:Ax}(hc:w0.cell? a=some v):w.cell? a=some v:=
 (World.cell?_of_block (h a.block (World.block_lt_of_cell? w0 a hc))).trans hc
def yt.tab{w0 w:Aw}(h:yt w0 w){k:IntKind}{t:Ai}(l:Lib.TabSlice g k t w0):Lib.TabSlice g k t w:=by
 obtain⟨R,o,c,h1,e⟩:=l;exact⟨R,o,c,h.cell h1,λj l=>h.cell (e j l)⟩
def Jf{w0:Aw}{T:Lib.PrintTabs}(l:Lib.PrintTabsAt 15 16 17 18 T w0)(m:Lib.Utf8Tabs 13 14 w0):yJ w0:=by
 intro W h k hk;apply(Tryz.strconv_Quote T k W M_ ⟨h.tab l.1,h.tab l.2.1,h.tab l.2.2.1,h.tab l.2.2.2.1,l.2.2.2.2⟩ ⟨λc hc=>h.cell (m.1 c hc),λi l=>⟨h.cell (m.2 i l).1,h.cell (m.2 i l).2⟩⟩).mono;rintro e w' ⟨rfl,hb⟩;refine⟨_,rfl,?_,Fr.ofBelow hb⟩;rw[strOfNums_size];have:=Lib.quoteZ_length_le T k;omega
section
variable {w0 w:Aw} {P:Au} {ss:BA} {ds:Ar} {sv rv:Ax} {xs:Az} {s:BA} {nt:As} {nx:Ax} {pl:Ap} {br i:Nat}
def Ws(hP:vD w0){kd:Nat}(M:NC w0 P ss ds sv rv xs s nt nx pl br i w):Calls prog 184 #[P_ br,Z_ (loV kd),Z_ (hiV kd)] w λe w'=>∃n b,e=.returned (.tuple #[Z_ n,.bool b])/\Fr w w' (· = br)/\yf w' br sv rv s (yY s i) (!pl)/\(b=true↔kh kd (xP s i) (yv s i))/\(b=true->n=lY (xP s i) (yv s i) (yv s i).size/\-9223372036854775808<=n/\n<=9223372036854775807):=by
 have hs:=M.hs;apply(sY M.R M_ M.il (λW l=>hP W (M.G.fr l (by have:=M.lt;have:=M.brG;omega) (λg e=>e▸M.brG)) _ y6_)).mono;rintro e w' ⟨n,b,rfl,l,o,hb,m⟩;refine⟨n,b,rfl,l,o,hb.trans ?_,λe=>?_⟩
 rotate_left
 .obtain⟨h1,l⟩:=Xl (hb.1 e).1.1 (m e);exact⟨h1.symm,l⟩
 constructor
 .rintro⟨⟨l,o⟩,m⟩;exact(eF l o).2 m
 .intro h;have l:=h;unfold kh at l;exact⟨⟨l.1,l.2.1⟩,(eF l.1 l.2.1).1 h⟩
def mo{tt:PT}{kd:Nat}{lo C:Int}(hP:vD w0)(M:NC w0 P ss ds sv rv xs s nt nx pl br i w)(D:kd=105\/kd=108)(h1:loV kd=lo)(A:hiV kd=C):Calls prog 168 #[P_ br,Z_ lo,Z_ C] w (yp (zx ds) tt w sv rv s nt nx pl br ((vg s kd i).map (λq=>(.mk kd q.1 noB [] [],q.2)))):=by
 have r:=Ws (kd:=kd) hP M;rw[h1,A]at r;clear h1 A hP;refine hq_ λA z=>?_;replace r:=zy r;have y:=(VS (s:=s) M.il).2.2.2;replace M:=zy M;by_cases m:kh kd (xP s i) (yv s i)
 .have hr:=zy (show(vg s kd i).map (λq=>(DT.mk kd q.1 noB [] [],q.2))=some (.mk kd (lY (xP s i) (yv s i) (yv s i).size) noB [] [],yY s i) by unfold vg;rw[i_ m];rfl);replace m:=zy m;go_in;go_wp2_with (go_at_call 184;apply r.o.mono;rintro e w1 ⟨n,b,rfl,l,h,hb,p⟩;obtain rfl:=hb.2 m;replace p:=zy (p rfl);replace l:=zy l;replace h:=zy h;clear hb);try go_ret
  rw[z.o,hr.o];exact nok (by rw[<- p.o.1];exact J_ (.num kd n D p.o.2.1 p.o.2.2) D_) l h y
 .have hr:=zy (show(vg s kd i).map (λq=>(DT.mk kd q.1 noB [] [],q.2))=none by unfold vg;rw[n_ m];rfl);replace m:=zy m;go_in;go_wp2_with (go_at_call 184;apply r.o.mono;rintro e w1 ⟨n,b,rfl,l,h,hb,p⟩;clear p;obtain rfl:b=false:=(by cases b;rfl;exact absurd (hb.1 rfl) m);have m:=(M.o.call h l y).e;replace l:=zy l;replace h:=zy h;clear hb);go_quiet (fail);go_wp2;try go_ret
  rw[z.o,hr.o];exact eC (l.o.si (zw.drewN _ _)) (h.o.si (zw.drewN _ _)) y
end
def KK{w0:Aw}(hP:vD w0):ii w0:=λ_ _ _ _ _ _ _ _ _ _ _ _ _ _ M=>⟨mo (kd:=105) hP M (.inl rfl) rfl rfl,mo (kd:=108) hP M (.inr rfl) rfl rfl⟩
def sI{s:BA}{m:Nat}(h1:j<=m)(e:m<s.size):(s.extract j (m+1)).data.toList=(s.extract j m).data.toList++[s[m]'e]:=by
 obtain⟨⟨l⟩⟩:=s;have hl:m<l.length:=e;simp only[cj_,List.extract_toArray,List.extract_eq_take_drop];rw[show m+1-j=(m-j)+1 by omega,a8_,List.getElem?_drop,show j+(m-j)=m by omega,ak_ hl];rfl
def QY{s:BA}:∀n,j+n<=s.size->rm s j n=dv (s.extract j (j+n)).data.toList:=by
 intro n;induction n with
 |zero=>
  intro _;have:(s.extract j (j+0)).data.toList=[]:=by
   apply cl_;rw[Array.length_toList];show(s.extract j (j+0)).size=0;rw[a3_];omega
  rw[this];rfl
 |succ n ih=>
  intro h;rw[show j+(n+1)=(j+n)+1 by omega,sI M_ M_,ij,rm,ih M_,vS s (j+n) M_];simp only[ap_,Nat.pow_one,dv,ar_,Nat.pow_zero,Nat.mul_one,bs_];omega
section
variable {w0 w:Aw} {P:Au} {ss:BA} {ds:Ar} {sv rv:Ax} {xs:Az} {s:BA} {nt:As} {nx:Ax} {br i:Nat}
end
section
variable {w0:Aw} {P:Au} {ss:BA} {ds:Ar} {sv rv:Ax} {xs:Az} {s:BA} {nt:As} {nx:Ax} {br:Nat}
end
def oX{s:BA}(hs:s.size<=300){i:Nat}(h:zS s i=.ok (f,j)):vo f.ty/\i<j:=by
 have cc1:=Nat
 exact cq39_
def sy(s:BA)(hs:s.size<=300):∀(n i:Nat) (l:List PF) (j:Nat),xj s n i=.ok (l,j)->(∀f∈l,vo f.ty)/\i+l.length<=j:=by
 intro n;induction n with
 |zero=>intro i l j h;cases h
 |succ n ih=>
  intro i l j h;unfold xj at h;split at h
  .cases h
  .rename_i f k m;obtain⟨h1,p⟩:=oX hs m;split at h
   .simp only[ag_,ac_]at h;obtain⟨rfl,rfl⟩:=h;exact⟨λg hg=>by rw[ba_]at hg;subst hg;exact h1,by simp;omega⟩
   .split at h
    .split at h
     .cases h
     .rename_i fs r hr;obtain⟨e,o⟩:=ih _ _ _ hr;simp only[ag_,ac_]at h;obtain⟨rfl,rfl⟩:=h;refine⟨λg hg=>?_,by simp;omega⟩;rcases aq_.1 hg with rfl|hg
      .exact h1
      .exact e g hg
    .cases h
def Xg{s:BA}(hs:s.size<=300){i:Nat}{b:PB}(h:xu s i=.ok (b,j)):(∀f∈b.fs,vo f.ty)/\i+b.fs.length<=j:=by
 unfold xu at h;split at h
 .split at h
  .cases h
  .rename_i ds k hr;simp only[ag_,ac_]at h;obtain⟨rfl,rfl⟩:=h;unfold yh at hr;split at hr
   .split at hr
    .simp only[ag_,ac_]at hr;obtain⟨rfl,rfl⟩:=hr;exact⟨λf e=>by simp[PB.fs]at e,by simp[PB.fs];omega⟩
    .obtain⟨m,p⟩:=sy s hs _ _ _ _ hr;exact⟨m,by show i+ds.length<=k;omega⟩
   .cases hr
 .split at h
  .split at h
   .cases h
   .rename_i l o k hr;simp only[ag_,ac_]at h;obtain⟨rfl,rfl⟩:=h;have:=(ui hr).2.2.2;exact⟨λf e=>by simp[PB.fs]at e,by simp[PB.fs];omega⟩
  .split at h
   .split at h
    .simp only[ag_,ac_]at h;obtain⟨rfl,rfl⟩:=h;exact⟨λf e=>by simp[PB.fs]at e,by simp[PB.fs]⟩
    .cases h
   .cases h
def oQ(s:BA)(hs:s.size<=300):∀(n i:Nat) (ds:List PD) (j:Nat),i<=s.size->yd s n i=.ok (ds,j)->(∀f∈zp ds,vo f.ty)/\i+(zp ds).length<=j/\j<=s.size:=by
 intro n;induction n with
 |zero=>
  intro i ds j m h;simp only[yd,ag_,ac_]at h;obtain⟨rfl,rfl⟩:=h;exact⟨λf l=>by simp[zp]at l,by simp[zp],m⟩
 |succ n ih=>
  intro i ds j m h;unfold yd at h;split at h
  .split at h
   .split at h
    .cases h
    .rename_i b k hb;obtain⟨b1,b2⟩:=Xg hs hb;split at h
     .rename_i r;have o:=zr (s:=s) (i:=k) M_;split at h
      .cases h
      .rename_i y e hr;obtain⟨r1,z,p⟩:=ih _ _ _ o hr;simp only[ag_,ac_]at h;obtain⟨rfl,rfl⟩:=h;rw[jA];refine⟨λf l=>?_,by rw[ah_];show i+(b.fs.length+_)<=_;omega,p⟩;rcases bn_.1 l with l|l
       .exact b1 f l
       .exact r1 f l
     .cases h
   .cases h
  .simp only[ag_,ac_]at h;obtain⟨rfl,rfl⟩:=h;exact⟨λf l=>by simp[zp]at l,by simp[zp],m⟩
def sK{ds:Ar}{d:PD}(hd:d∈ds)(e:f∈d.body.fs):f∈zp ds:=by
 unfold zp;exact ch_.2 ⟨d,hd,e⟩
def bP{ds:Ar}(e:f∈zp ds):∃d∈ds,f∈d.body.fs:=by
 unfold zp at e;exact ch_.1 e
def jh{s:BA}(hs:s.size<=300){ds:Ar}{t:PT}(h:zQ s=.ok (ds,t)):(∀d∈ds,plB d.body)/\vo t/\shT t/\(zp ds).length<=300/\(∀f∈zp ds,vo f.ty/\shT f.ty)/\ds.length<=6:=by
 obtain⟨_,_,_,C,D⟩:=jc h;obtain⟨A,G⟩:=jS h;have h0:=h;unfold zQ at h0;split at h0
 .cases h0
 .rename_i ds' i hd;obtain⟨y,H,f3⟩:=oQ s hs _ _ _ _ o_ hd;split at h0
  .cases h0
  .rename_i t' j F;have E:=Js hs f3 F;split at h0
   .cases h0
   .simp only[ag_,ac_]at h0;obtain⟨rfl,rfl⟩:=h0;refine⟨λd p=>?_,E,G,M_,λf r=>⟨y f r,?_⟩,D⟩
    .have h1:=(C d p).2;have e:=A d p;have z:∀f∈d.body.fs,vo f.ty:=λf r=>y f (sK p r);cases hb:d.body with
     |recd fs=>rw[hb]at h1 e z;exact⟨by have:=e.2;omega,h1,z⟩
     |enum l o=>rw[hb]at h1 e;exact⟨by have:=e.2;omega,h1.1,h1.2⟩
     |bytes n=>trivial
    .obtain⟨d,p,m⟩:=bP r;have e:=A d p;cases hb:d.body with
     |recd fs=>rw[hb]at e m;exact e.1 f m
     |enum l o=>rw[hb]at m;simp[PB.fs]at m
     |bytes n=>rw[hb]at m;simp[PB.fs]at m
def mh{s:BA}(hs:s.size<=300){ds:Ar}{t:PT}(h:zQ s=.ok (ds,t))(hn:vf ds t=[])(hu:xH ds t=[]):jj ds/\∀f∈zp ds,okT (zx ds) f.ty:=by
 obtain⟨e,m,_,_,_⟩:=jc h;rw[hn]at e;rw[hu]at m;have p:wrU (zx ds) (ja ds++zK t) (qp [] ds (-1))<0:=by rw[e];decide
 have hm:mix t (qt ds (-1))<0:=by rw[m];decide
 obtain⟨m,e,_,_⟩:=uu hs h p hm;obtain⟨z,_⟩:=jh hs h;obtain⟨A,C⟩:=jS h;obtain⟨_,e⟩:=ZS p;have p:=lh (zx ds) t _ C hm (λu hu=>e u (b7_ _ hu));have r:=(aK (env:=zx ds) A (λu hu=>e u (ce_ _ hu)) p.1).2;refine⟨λc b he=>⟨?_,m c b he⟩,λf y=>?_⟩
 .unfold zx at he;cases hl:vp 0 c ds with
  |none=>rw[hl]at he;cases he
  |some q=>
   obtain⟨e,e⟩:=q;rw[hl]at he;simp only[a4_,ae_]at he;subst he;obtain⟨d,hd,rfl⟩:=gK hl;exact z d hd
 .obtain⟨d,hd,e⟩:=bP y;cases hb:d.body with
  |recd fs=>rw[hb]at e;exact r d hd fs hb f e
  |enum l o=>rw[hb]at e;simp[PB.fs]at e
  |bytes n=>rw[hb]at e;simp[PB.fs]at e
structure dF where
 lt:TypeId
 lx:Value
 gt:TypeId
 gx:Value
 mt:TypeId
 mx:Value
 ut:TypeId
 ux:Value
 nt:TypeId
 nx:Value
structure dF.At(E:dF)(w:Aw):Prop where
 l:vt 8 w E.lt E.lx
 g:vt 0 w E.gt E.gx
 m:vt 1 w E.mt E.mx
 u:vt 2 w E.ut E.ux
 n:vt 3 w E.nt E.nx
def jQ(E:dF)(w:Aw)(lo:Nat)(ev:Ax)(a:Int×Int):Prop:=
 (a.1=0/\a.2=0/\ev=.nilIface)\/(a.1=1/\a.2=0/\ev=.iface E.lt E.lx)\/(a.1=2/\yq w lo ev a.2 (.iface E.gt E.gx))\/(a.1=3/\yq w lo ev a.2 (.iface E.mt E.mx))\/(a.1=4/\yq w lo ev a.2 (.iface E.ut E.ux))\/(a.1=5/\∃cv,yq w lo ev a.2 cv/\jp w lo E.nt E.nx cv)
def wH(lo:Nat)(w:Aw)(s:BA)(sv rv:Ax):Prop:=
 ∃ds t xs,s.size<=300/\zQ s=.ok (ds,t)/\vf ds t=[]/\xH ds t=[]/\xf w (λg=>lo<=g/\g<w.heap.size) s ds sv xs/\TyV w (λg=>lo<=g/\g<w.heap.size) t rv/\Dfs lo (λg=>lo<=g/\g<w.heap.size) w s ds xs
def im(w:Aw)(s:BA)(E:dF)(e:Ah)(w':Aw):Prop:=
 ∃sv rv ev,e=.returned (.tuple #[.agg #[sv,rv],ev])/\(∃a n c,sv=.slice a n c)/\IfV rv/\Fr w w' N_/\jQ E w' w.heap.size ev (zl s)/\((zl s).1=0->wH w.heap.size w' s sv rv)
def gm{w W W':Aw}{s:BA}{E:dF}{l:Ax}(o:Fr w W N_)(m:Fr W W' (λg=>g=w.heap.size))(h0:(zl s).1≠0)(h:jQ E W' w.heap.size l (zl s)):im w s E (.returned (.tuple #[.agg #[L_,.nilIface],l])) W':=
 ⟨_,_,l,rfl,⟨_,_,_,rfl⟩,.inl rfl,o.trans m (λx hx e=>M_),h,λe=>absurd e h0⟩
structure RSt(w w1:Aw)(s:BA)(ds:Ar)(t:PT)(sv rv:Ax)(xs:Az)(q:Nat)(W:Aw):Prop where
 z:w1.heap.size+2<=W.heap.size
 z0:w.heap.size+2<=w1.heap.size
 al:Fr w W N_
 q3:q<=3
 d:xf W (λg=>w.heap.size+2<=g/\g<w1.heap.size) s ds sv xs/\TyV W (λg=>w.heap.size+2<=g/\g<w1.heap.size) t rv
 n:1<=q->vf ds t=[]
 u:2<=q->xH ds t=[]
 e:3<=q->jF s ds=[]
 R:Blk W w.heap.size [L_,.nilIface] 65
 B:Blk W w1.heap.size [sv,rv] 65
 L:∃ty,Blk W (w1.heap.size+1) [.func (.func 54) #[] #[],.func (.func 55) #[] #[],.func (.func 56) #[] #[]] ty
 f:3<=q->Dfs (w.heap.size+2) (λg=>w.heap.size+2<=g/\g<w1.heap.size) W s ds xs
section
variable {w w1 W W':Aw} {s:BA} {ds:Ar} {t:PT} {sv rv:Ax} {xs:Az} {q:Nat}
def RSt.chk(M:RSt w w1 s ds t sv rv xs q W)(l:Fr W W' N_):RSt w w1 s ds t sv rv xs q W':=
 ⟨ai_ M.z l.size,M.z0,M.al.trans l v_,M.q3,⟨M.d.1.fr l u_,M.d.2.fr l u_⟩,M.n,M.u,M.e,l.bl M.R id,l.bl M.B id,M.L.imp (λ_ h=>l.bl h id),λh=>(M.f h).fr M.d.1 l u_ u_⟩
def RSt.next0(M:RSt w w1 s ds t sv rv xs 0 W)(h:vf ds t=[]):RSt w w1 s ds t sv rv xs 1 W:=
 ⟨M.z,M.z0,M.al,M_,M.d,λ_=>h,λh=>M_,λh=>M_,M.R,M.B,M.L,λh=>M_⟩
def RSt.next1(M:RSt w w1 s ds t sv rv xs 1 W)(h:xH ds t=[]):RSt w w1 s ds t sv rv xs 2 W:=
 ⟨M.z,M.z0,M.al,M_,M.d,λ_=>M.n M_,λ_=>h,λh=>M_,M.R,M.B,M.L,λh=>M_⟩
def RSt.dft(M:RSt w w1 s ds t sv rv xs 2 W)(h:Fr W W' (λg=>w.heap.size+2<=g/\g<w1.heap.size)):Fr w W' N_/\Blk W' w.heap.size [L_,.nilIface] 65:=
 ⟨M.al.trans h (λx hx e=>M_),h.bl M.R (λe=>M_)⟩
def RSt.next2(M:RSt w w1 s ds t sv rv xs 2 W)(l:Fr W W' (λg=>w.heap.size+2<=g/\g<w1.heap.size))(h:jF s ds=[])(m:xf W' (λg=>w.heap.size+2<=g/\g<w1.heap.size) s ds sv xs)(o:∀t x,TyV W (λg=>w.heap.size+2<=g/\g<w1.heap.size) t x->TyV W' (λg=>w.heap.size+2<=g/\g<w1.heap.size) t x)(hX:Dfs (w.heap.size+2) (λg=>w.heap.size+2<=g/\g<w1.heap.size) W' s ds xs):RSt w w1 s ds t sv rv xs 3 W':=
 ⟨ai_ M.z l.size,M.z0,(M.dft l).1,M_,⟨m,o _ _ M.d.2⟩,λ_=>M.n M_,λ_=>M.u M_,λ_=>h,(M.dft l).2,l.bl M.B (λe=>M_),M.L.imp (λ_ h=>l.bl h (λe=>M_)),λ_=>hX⟩
end
def cwKX1_{p:Prop}(h:p:=by
 (first|(have:=cc1;replace hans:=zy (show zl s=(4,(x:Int)) by rw[hans.o,hnm];simp only[hF]))|(have:=cc2;replace hans:=zy (show zl s=(5,(x:Int)) by rw[hans.o,hnm,hun];simp only[hF]))|(replace hans:=zy (show zl s=(3,(x:Int)) by rw[hans.o];simp only[hF])));replace hF:=zy hF;replace M:=zy M;clear hM;go_wp2_with ((first|go_at_call 54|go_at_call 55|go_at_call 56);apply hC.o.mono;rintro e w3 ⟨v,rfl,hf3,hm⟩;rw[hF.o]at hm;(first|(have:=cc2;obtain⟨ev,⟨g,hg1,rfl,hg2⟩,hEv⟩:=hm)|(obtain⟨g,hg1,rfl,hg2⟩:=hm));(first|(have:=cc2;have M3:=M.o.dft hf3)|(have M3:=M.o.chk hf3));(first|(have:=cc2;have R3:=M3.2)|(have R3:=M3.R));have r0:=R3.c0;have r1:=R3.c1;have g0:=R3.th 0;have g1:=R3.th 1;replace R3:=zy R3;(first|(have:=cc2;replace M3:=zy M3.1)|(replace M3:=zy M3.al));replace hf3:=zy hf3;replace hg2:=zy hg2;(try have:=cc2;replace hEv:=zy hEv));have S2:=Blk.pa R3.o (L_) .nilIface;have q0:=S2.c0;have q1:=S2.c1;refine bodyPost_ret (v:=.tuple #[.agg #[L_,.nilIface],.iface 175 (P_ g)]) xm_ rfl ?_;rw[Q_.o];have h4:=Fr.pa w3 w.heap.size (L_) .nilIface;refine gm M3.o h4 z8_ ?_;rw[hans.o];(first|(have:=cc1;exact .inr (.inr (.inr (.inr (.inl ⟨rfl,g,M_,rfl,h4.bl hg2.o (λe=>M_)⟩)))))|(have:=cc2;exact .inr (.inr (.inr (.inr (.inr ⟨rfl,ev,⟨g,M_,rfl,h4.bl hg2.o (λe=>M_)⟩,(hEv.o.fr h4 (λg hg e=>M_)).ls M_⟩)))))|(exact .inr (.inr (.inr (.inl ⟨rfl,g,M_,rfl,h4.bl hg2.o (λe=>M_)⟩)))))):p:=h
def cwKX2_{p:Prop}(h:p:=by
 (first|(have:=cc1;have S2:=(Blk.pa R3.o (L_) .nilIface).alloc (.cells #[.slice sa sn sc,.nilIface] 65))|(have S2:=(Blk.pa R3.o (L_) .nilIface).alloc (.cells #[.slice sa sn sc,.iface rT rx] 65)));have q0:=S2.c0;have q1:=S2.c1;refine bodyPost_ret (v:=.tuple #[.agg #[L_,.nilIface],.iface 175 (P_ g)]) xm_ rfl ?_;rw[Q_.o];(first|(have:=cc1;have h4:=(Fr.pa w1 w.heap.size (L_) .nilIface).alloc (.cells #[.slice sa sn sc,.nilIface] 65))|(have h4:=(Fr.pa w1 w.heap.size (L_) .nilIface).alloc (.cells #[.slice sa sn sc,.iface rT rx] 65)));refine gm (hf1.o.trans hf2.o (λx hx e=>M_)) h4 z8_ ?_;rw[hans.o];exact .inr (.inr (.inl ⟨rfl,g,by simp at hg1;omega,rfl,h4.bl hg2.o (λe=>by simp at hg1;omega)⟩))):p:=h
def KX{w:Aw}{s:BA}{E:dF}(A:E.At w)(hI:yV w)(hQ:yJ w)(hN:ii w):Calls prog 32 #[.string s] w (im w s E):=by
 refine hq_ λa7 Q_=>?_;have G:Fr w (w.alloc (.cells #[L_,.nilIface] 65)) N_:=(A_ w _).alloc _;have p:=B_ w #[L_,.nilIface] 65;have a5:(w.alloc (.cells #[L_,.nilIface] 65)).heap.size=w.heap.size+1:=x8_
 by_cases hl:300<s.size
 .have a4:(300:Int)<(s.size:Int):=M_;have y:=A.l.fr G id;unfold vt at y;replace p:=zy p;go_in;go_wp2;go_region;go_wp2;have q0:=p.o.drew.c0;have q1:=p.o.drew.c1;refine bodyPost_ret (v:=.tuple #[.agg #[L_,.nilIface],.iface E.lt E.lx]) xm_ rfl ?_;rw[Q_.o];exact⟨_,_,_,rfl,⟨_,_,_,rfl⟩,.inl rfl,G.drew,.inr (.inl ⟨by unfold zl;rw[i_ hl],by unfold zl;rw[i_ hl],rfl⟩),λe=>by unfold zl at e;rw[i_ hl]at e;simp at e⟩
 .have a4:¬(300:Int)<(s.size:Int):=M_;have hs:s.size<=300:=M_;have hf1:=G.alloc (.cells #[.string s,O_] 119);have D:PAt ((w.alloc (.cells #[L_,.nilIface] 65)).alloc (.cells #[.string s,O_] 119)) (w.heap.size+1) s 0:=by
   have:=B_ (w.alloc (.cells #[L_,.nilIface] 65)) #[.string s,O_] 119;rwa[a5]at this
  have a2:=World.block_lt_of_cell? w ⟨0,0,none⟩ A.g;have J:=zy (iI D (A.g.fr hf1 id) (by show w.heap.size+1≠_;simp only at a2;omega) hs);replace D:=zy D;replace p:=zy (p.alloc (.cells #[.string s,O_] 119));replace hf1:=zy hf1;cases hp:zQ s with
  |error k=>
   have hans:=zy (show zl s=(2,(k:Int)) by unfold zl;rw[n_ hl,hp]);replace hp:=zy hp;go_in;go_wp2_with (go_at_call 53;apply J.o.mono;rintro e w1 ⟨sv,rv,ev,rfl,⟨sa,sn,sc,rfl⟩,N,hf2,hm⟩;rw[hp.o]at hm;obtain⟨g,hg1,rfl,hg2⟩:=hm;have H:=hf2.size;have X:w.heap.size+2<=w1.heap.size:=(by simp at H;omega);have a6:w.heap.size<w1.heap.size:=M_;rcases N with rfl|⟨rT,rx,rfl⟩;have R3:=hf2.bl p M_;have r0:=R3.c0;have r1:=R3.c1;have g0:=R3.th 0;have g1:=R3.th 1;replace R3:=zy R3;replace hf2:=zy hf2;replace hg2:=zy hg2;rotate_left;have R3:=hf2.bl p M_;have r0:=R3.c0;have r1:=R3.c1;have g0:=R3.th 0;have g1:=R3.th 1;revert hf2 hg2 R3;refine h_ λhf2 hg2 R3=>?_)
   .exact cwKX2_
   .have cc1:=Nat;exact cwKX2_
  |ok r=>
   obtain⟨ds,t⟩:=r;have hans:=zy (qM hs hp);have a3:=zy (mh hs hp);have y:=zy (jh hs hp);replace hp:=zy hp;go_in;go_wp2_with (go_at_call 53;apply J.o.mono;rintro e w1 ⟨sv,rv,ev,rfl,_,N,hf2,hm⟩;rw[hp.o]at hm;obtain⟨rfl,xs,T,Y,Z,U⟩:=hm;have H:=hf2.size;have X:w.heap.size+2<=w1.heap.size:=(by simp at H;omega);have K:=zy (And.intro (xf.mono (Q:=λg=>w.heap.size+2<=g/\g<w1.heap.size) (⟨T,Y,Z,y.o.2.2.2.2.2⟩:xf w1 _ s ds sv xs) (λg h1 C=>⟨by simp at C;omega,h1⟩)) (U.mono (Q:=λg=>w.heap.size+2<=g/\g<w1.heap.size) (λg h1 C=>⟨by simp at C;omega,h1⟩)));obtain⟨sa,sc,rfl⟩:=zh T;obtain⟨rT,rx,rfl⟩:=U.iface;have V:=zy (hf2.bl p M_);replace hf2:=zy hf2);have a0:H_ (∃q:Nat,Value.int .i64 0=I_ q/\4-q<=4/\RSt w w1 s ds t (.slice sa ds.length sc) (.iface rT rx) xs q ((w1.alloc (.cells #[.slice sa ds.length sc,.iface rT rx] 65)).alloc (.cells #[.func (.func 54) #[] #[],.func (.func 55) #[] #[],.func (.func 56) #[] #[]] 121))):=by
    have O:Fr w1 ((w1.alloc (.cells #[.slice sa ds.length sc,.iface rT rx] 65)).alloc (.cells #[.func (.func 54) #[] #[],.func (.func 55) #[] #[],.func (.func 56) #[] #[]] 121)) N_:=((A_ w1 _).alloc _).alloc _;refine zy ⟨0,rfl,M_,⟨by simp,X,((hf1.o.trans hf2 (λx hx e=>M_)).alloc _).alloc _,M_,⟨K.o.1.fr O u_,K.o.2.fr O u_⟩,λh=>M_,λh=>M_,λh=>M_,O.bl V id,(B_ w1 #[.slice sa ds.length sc,.iface rT rx] 65).alloc _,⟨121,?_⟩,λh=>M_⟩⟩;have:=B_ (w1.alloc (.cells #[.slice sa ds.length sc,.iface rT rx] 65)) #[.func (.func 54) #[] #[],.func (.func 55) #[] #[],.func (.func 56) #[] #[]] 121;simpa using this
   go_loopg [27] 4 (λm v W=>∃q:Nat,v=I_ q/\4-q<=m/\RSt w w1 s ds t (.slice sa ds.length sc) (.iface rT rx) xs q W);case atStart=>exact a0
   case round=>
    obtain⟨q,rfl,hm,M⟩:=hrel;have hz:=M.z;have p:w.heap.size<wr.heap.size:=M_;obtain⟨lt,p⟩:=M.L;have b0:=M.B.c0;have b1:=M.B.c1;obtain⟨I,l1,l2⟩:=p.d3;have p:q=0\/q=1\/q=2\/q=3:=by have:=M.q3;omega
    rcases p with rfl|rfl|rfl|rfl
    .have hM:=M.d;have hC:=zy (mO hM.1 hM.2 (A.m.fr M.al id) y.o.1 y.o.2.1 (λg hg=>M_));cases hF:vf ds t with
     |nil=>
      replace hF:=zy hF;replace M:=zy M;go_wp2_with (go_at_call 54;apply hC.o.mono;rintro e w3 ⟨v,rfl,hf3,hm⟩;rw[hF.o]at hm;obtain rfl:=hm;have M3:=zy ((M.o.chk hf3).next0 hF));go_roundg 3;case measure=>omega
      case rel=>exact⟨1,rfl,l_,M3⟩
     |cons x r=>
      exact cwKX1_
    .have hM:=M.d;have hnm:=M.n M_;have hC:=zy (uh hM.1 hM.2 (A.u.fr M.al id) y.o.2.2.2.1 y.o.2.2.2.2.1 ⟨y.o.2.1,y.o.2.2.1⟩ (λg hg=>M_));cases hF:xH ds t with
     |nil=>
      replace hF:=zy hF;replace M:=zy M;go_wp2_with (go_at_call 55;apply hC.o.mono;rintro e w3 ⟨v,rfl,hf3,hm⟩;rw[hF.o]at hm;obtain rfl:=hm;have M3:=zy ((M.o.chk hf3).next1 hF));go_roundg 2;case measure=>omega
      case rel=>exact⟨2,rfl,l_,M3⟩
     |cons x r=>
      have cc1:=Nat;exact cwKX1_
    .have hM:=M.d;have hnm:=M.n M_;have hun:=M.u M_;obtain⟨G,H⟩:=a3.o hnm hun;obtain⟨p,F⟩:=ZG hM.1 hp;have D:=zy (p.cells hM.1);have a1:=zy (λw3 (hk:gA wr w3)=>(show pK (nh (blkOf wr (λg=>w.heap.size+2<=g/\g<w1.heap.size) s ds xs)) w3 ds xs from D.o.to hM.1 (λfv n zs _ ho=>hk _ _ _ _ _ _ D_ ho)));have hC:=zy (mA (w0:=w) (rT:=rT) (rx:=rx) hM.1 ((yt.refl w).fr M.al l_ (λ_ f=>f.elim)) M.al.size (λg hg=>M_) (λg hg=>M_) A.n hs y.o.2.2.2.1 H G hI hQ hN p F);replace F:=zy F;cases hF:jF s ds with
     |nil=>
      replace hF:=zy hF;replace M:=zy M;go_wp2_with (go_at_call 56;apply hC.o.mono;rintro e w3 ⟨v,rfl,hf3,hm⟩;rw[hF.o]at hm;obtain⟨rfl,p,D,y,A⟩:=hm;have M3:=zy (M.o.next2 hf3 hF p D (Dfs.mono (lo:=wr.heap.size) ⟨_,a1.o w3 A,F,y⟩ M_ (λ_ h=>h))));go_roundg 1;case measure=>omega
      case rel=>exact⟨3,rfl,l_,M3⟩
     |cons x r=>
      have cc2:=Nat;exact cwKX1_
    .have r0:=M.R.c0;have r1:=M.R.c1;have g0:=M.R.th 0;have g1:=M.R.th 1;have S2:=zy (Blk.pa M.R (.slice sa ds.length sc) (.iface rT rx));replace M:=zy M;go_wp2;have q0:=S2.o.c0;have q1:=S2.o.c1;refine bodyPost_ret (v:=.tuple #[.agg #[.slice sa ds.length sc,.iface rT rx],.nilIface]) xm_ rfl ?_;rw[Q_.o];have h4:=Fr.pa wr w.heap.size (.slice sa ds.length sc) (.iface rT rx);refine⟨_,_,_,rfl,⟨_,_,_,rfl⟩,.inr ⟨_,_,rfl⟩,M.o.al.trans h4 (λx hx e=>M_),.inl ?_,λ_=>?_⟩
     .rw[hans.o,M.o.n M_,M.o.u M_,M.o.e M_];exact⟨rfl,rfl,rfl⟩
     .have up:∀g,w.heap.size+2<=g/\g<w1.heap.size->¬g=w.heap.size:=λg h=>by omega
      have p:=h4.size;exact⟨ds,t,xs,hs,hp,M.o.n M_,M.o.u M_,(M.o.d.1.fr h4 up).mono (λg h1 C=>⟨M_,h1⟩),(M.o.d.2.fr h4 up).mono (λg h1 C=>⟨M_,h1⟩),((M.o.f M_).fr M.o.d.1 h4 up (λg hg e=>M_)).mono M_ (λg hg=>⟨M_,M_⟩)⟩
def kdD:DT->Nat
 | .mk k _ _ _ _=>k
section
variable {env:Ay} {w:Aw} {P:Au} {d:DT} {t:PT} {v:Ax}
def DaV.leaf(h:DaV env w P d t v)(h1:kdD d≠40)(e:kdD d≠91)(l:kdD d≠114)(m:kdD d≠123):qb d v:=by
 cases h with
 |flat h hs=>exact h
 |branch n h hd=>exact absurd rfl h1
 |row Y hc ho hP hd=>
  rcases hc with⟨rfl,_⟩|⟨rfl,_⟩
  .exact absurd rfl e
  .exact absurd rfl l
 |map Y hl hk ho hP hd=>exact absurd rfl m
def qb.nosym(h:qb d v)(hk:kdD d≠101)(n l:Nat):v≠.iface 149 (.agg #[U_ l,I_ n]):=by
 intro e;cases h with
 |sym n' l' h=>exact hk rfl
 |nothing=>simp only[Value.iface.injEq]at e;exact absurd e.1 D_
 |truth b=>simp only[Value.iface.injEq]at e;exact absurd e.1 D_
 |num c n hc h0 h1=>simp only[Value.iface.injEq]at e;exact absurd e.1 D_
 |text tx h=>simp only[Value.iface.injEq]at e;exact absurd e.1 D_
 |bytes tx h=>simp only[Value.iface.injEq]at e;exact absurd e.1 D_
def qb.long(h:qb d v){n:Int}(hd:d=.mk 105 n noB [] []):qb (.mk 108 n noB [] []) v:=by
 cases h with
 |num c n' hc h0 h1=>
  simp only[DT.mk.injEq,and_true]at hd;obtain⟨_,rfl⟩:=hd;exact .num 108 _ (.inr rfl) h0 h1
 |sym n' l' h=>simp[DT.mk.injEq]at hd
 |nothing=>simp[DT.mk.injEq]at hd
 |truth b=>simp[DT.mk.injEq]at hd
 |text tx h=>simp[DT.mk.injEq]at hd
 |bytes tx h=>simp[DT.mk.injEq]at hd
def DaV.sym_inv(h:DaV env w P d t v)(hd:d=.mk 101 (n:Int) noB [] []):∃l:Nat,v=.iface 149 (.agg #[U_ l,I_ n])/\fI env t n=l/\l<256:=by
 have e:qb d v:=h.leaf zm_ zm_ zm_ zm_;obtain⟨l,rfl⟩:∃l:Nat,v=.iface 149 (.agg #[U_ l,I_ n]):=by
  cases e with
  |sym n' l' h=>
   simp only[DT.mk.injEq,true_and,and_true]at hd;obtain rfl:n'=n:=M_;exact⟨l',rfl⟩
  |num c n' hc h0 h1=>
   simp only[DT.mk.injEq]at hd;omega
  |nothing=>simp[DT.mk.injEq]at hd
  |truth b=>simp[DT.mk.injEq]at hd
  |text tx h=>simp[DT.mk.injEq]at hd
  |bytes tx h=>simp[DT.mk.injEq]at hd
 generalize e:Value.iface 149 (.agg #[U_ l,I_ n])=vv at h;cases h with
 |flat h hs=>exact⟨l,e.symm,hs n l e.symm⟩
 |branch n' h hd'=>simp only[Value.iface.injEq]at e;exact absurd e.1 D_
 |row Y hc ho hP hd'=>
  simp only[Value.iface.injEq]at e;rcases hc with⟨_,h⟩|⟨_,h⟩<;>exact absurd (e.1.trans h) D_
 |map Y hl hk ho hP hd'=>simp only[Value.iface.injEq]at e;exact absurd e.1 D_
def DaV.branch_inv(h:DaV env w P d t v){e:DT}(hd:d=.mk 40 (n:Int) noB [] [e]):n<=4000/\∃l,v=.iface 135 (.agg #[I_ n,l])/\DaV env w P e (zN env t n 0) l:=by
 cases h with
 |flat h hs=>
  cases h with
  |num c n' hc h0 h1=>simp only[DT.mk.injEq]at hd;omega
  |sym n' l' h=>simp[DT.mk.injEq]at hd
  |nothing=>simp[DT.mk.injEq]at hd
  |truth b=>simp[DT.mk.injEq]at hd
  |text tx h=>simp[DT.mk.injEq]at hd
  |bytes tx h=>simp[DT.mk.injEq]at hd
 |branch n' h hd'=>
  simp only[DT.mk.injEq,true_and,and_true,List.cons.injEq]at hd;obtain⟨h1,rfl⟩:=hd;obtain rfl:n'=n:=M_;exact⟨h,_,rfl,hd'⟩
 |row Y hc ho hP hd'=>
  simp only[DT.mk.injEq]at hd;rcases hc with⟨h,_⟩|⟨h,_⟩<;>omega
 |map Y hl hk ho hP hd'=>simp[DT.mk.injEq]at hd
def DaV.row_inv(h:DaV env w P d t v){c:Nat}{ds:Ak}(hd:d=.mk c 0 noB [] ds)(hc:c=91\/c=114):∃(lv:Value) (Y:Nat->Value),v=.iface (if c=91 then 129 else 136) lv/\w.ownsRow 0 69 1 lv ds.length ((List.range ds.length).flatMap λi=>[Y i])/\∀i d,ds[i]?=some d->DaV env w P d (zN env t 0 i) (Y i):=by
 cases h with
 |flat h hs=>
  cases h with
  |num c n' hc h0 h1=>simp only[DT.mk.injEq]at hd;omega
  |sym n' l' h=>simp only[DT.mk.injEq]at hd;omega
  |nothing=>simp only[DT.mk.injEq]at hd;omega
  |truth b=>simp only[DT.mk.injEq]at hd;omega
  |text tx h=>simp only[DT.mk.injEq]at hd;omega
  |bytes tx h=>simp only[DT.mk.injEq]at hd;omega
 |branch n' h hd'=>simp only[DT.mk.injEq]at hd;omega
 |row Y hc' ho hP hd'=>
  simp only[DT.mk.injEq,true_and]at hd;obtain⟨rfl,rfl⟩:=hd;refine⟨_,Y,?_,ho,hd'⟩;rcases hc' with⟨rfl,rfl⟩|⟨rfl,rfl⟩
  .rw[i_ rfl]
  .rw[n_ D_]
 |map Y hl hk ho hP hd'=>simp only[DT.mk.injEq]at hd;omega
def DaV.map_inv(h:DaV env w P d t v){ks:Aa}{ds:Ak}(hd:d=.mk 123 0 noB ks ds):∃(lv:Value) (Y:Nat->Value),v=.iface 131 lv/\ks.length=ds.length/\(∀k∈ks,k.size<=4000)/\w.ownsRow 0 133 2 lv ds.length ((List.range ds.length).flatMap λi=>[.string (ks.getD i noB),Y i])/\∀i d,ds[i]?=some d->DaV env w P d (zN env t 0 i) (Y i):=by
 cases h with
 |flat h hs=>
  cases h with
  |num c n' hc h0 h1=>simp only[DT.mk.injEq]at hd;omega
  |sym n' l' h=>simp only[DT.mk.injEq]at hd;omega
  |nothing=>simp only[DT.mk.injEq]at hd;omega
  |truth b=>simp only[DT.mk.injEq]at hd;omega
  |text tx h=>simp only[DT.mk.injEq]at hd;omega
  |bytes tx h=>simp only[DT.mk.injEq]at hd;omega
 |branch n' h hd'=>simp only[DT.mk.injEq]at hd;omega
 |row Y hc' ho hP hd'=>
  simp only[DT.mk.injEq]at hd;rcases hc' with⟨h,_⟩|⟨h,_⟩<;>omega
 |map Y hl hk ho hP hd'=>
  simp only[DT.mk.injEq,true_and]at hd;obtain⟨rfl,rfl⟩:=hd;exact⟨_,Y,rfl,hl,hk,ho,hd'⟩
end
def U8(w:Aw)(B g:Nat):Prop:=B<=g/\∃c fz,w.heap[g]?=some (.cells c 5 fz)
def FrU(B:Nat)(w w':Aw):Prop:=Fr w w' (U8 w B)
section
variable {a b c w w':Aw} {B:Nat} {v:Ax} {x:BA}
def FrU.refl(w:Aw):FrU B w w:=A_ _ _
def FrU.trans(h:FrU B a b)(k:FrU B b c):FrU B a c:=Fr.trans h k (λx hx ⟨h1,c,fz,h2⟩=>by
 by_cases e:U8 a B x
 .exact e
 .exact⟨h1,c,fz,by rw[<- h.block x hx e];exact h2⟩)
def FrU.all(h:FrU B w w'):Fr w w' (λg=>B<=g):=Fr.mono h (λ_ _ e=>e.1)
def FrU.of(h:Fr w w' N_):FrU B w w':=Fr.mono h v_
def FrU.size(h:FrU B w w'):w.heap.size<=w'.heap.size:=Fr.size h
def FrU.drew(h:FrU B w w'):FrU B w w'.drew:=Fr.drew h
def ye.u8(h:ye w B v x)(e:v.ownBlock=some g):U8 w B g:=by
 refine⟨(h.own e).1,?_⟩;rcases h.2 with⟨hn,_⟩|⟨g',l,l,l,hb,hg,_⟩
 .rw[hn]at e;simp[Value.ownBlock]at e
 .rw[l]at e;simp[Value.ownBlock]at e;subst e;exact⟨_,_,hg⟩
def ye.frx(h:ye w B v x)(l:Fr w w' S)(e:∀g,v.ownBlock=some g->¬S g):ye w' B v x:=zk h l e
def ye.si(h:ye w B v x)(hs:zw w w'):ye w' B v x:=h.frx ((A_ w N_).si hs) u_
def FrU.bl(h:FrU B w w'){cs:Az}{t:As}(hb:Blk w k cs t)(l:t≠5):Blk w' k cs t:=Fr.bl h hb (λ⟨_,c,fz,e⟩=>by
 unfold Blk at hb
 rw[hb]at e
 simp at e
 exact l e.2.1)
end
def yQ(w:Aw)(B:Nat)(b:BA)(e:Ah)(w':Aw):Prop:=∃v',e=.returned v'/\ye w' B v' b/\FrU B w w'
def yQ.pre{w0 w w':Aw}{B:Nat}{b:BA}{e:Ah}(h:yQ w B b e w')(o:FrU B w0 w):yQ w0 B b e w':=by
 obtain⟨v,h1,l,m⟩:=h;exact⟨v,h1,l,o.trans m⟩
def qm{l:Cp}{m:List Oper}{o:Dz}{a:Act}{Q:Ab}(r:o.guard=none)(s x:Operand)(ho:o.op=.call { callee:=.builtin .append,args:=#[s,x],argTypes:=#[94,94] }){B g:Nat}{w:Aw}{v:Ax}{b:BA}{y:Int}(c:Nat)(hy:y=(c:Int))(hc:c<256)(hb:ye w B v b)(p:b.size<=100000000)(hB:B<=w.heap.size)(hg:g=w.heap.size)(hs:a.eval s=v)(hx:a.eval x=S_ g 1 1)(h:∀p w',ye w' B p (b++bts [c])->FrU B w w'->wpList prog l Q m (a.put o.dst p) w'):wpList prog l Q (o::m) a (w.alloc (.cells #[.int .u8 y] 5)):=by
 subst hy;obtain⟨ti,l,m,p,z⟩:=info_parts Wp;refine wpList_append_own_at _ r _ _ 94 ho B 5 ti _ 1 1 iG l m p z rfl D_ _ b.size (Lib.strCells b) hs (World.ownsRow.alloc hb _) ⟨g,0,none⟩ 1 1 [U_ c] hx rfl (zL _ #[U_ c] _ _ hg) zn_ (by unfold maxLen;omega) M_ x4_ ?_;intro r l p m _ _;refine h r l ?_ ?_
 .unfold ye;rw[vw,pN hc,as_,zE];exact p
 .exact Fr.mono (((A_ w _).alloc _).gr m (λk hk _=>hk):Fr w l (λg=>v.ownBlock=some g)) (λg _ e=>hb.u8 e)
def cq36_{p:Prop}(h:p:=by
 obtain⟨ti,r,y,z,A⟩:=info_parts Wp;(first|(have:=cc1;obtain⟨D,l,hr,C,m,_⟩:=Lib.run_append_own_string (P:=prog) w B 94 9 o.type 5 ti iG pR r y z A _ b.size (Lib.strCells b) hb t (by unfold maxLen;omega) M_ hB)|(refine Lib.wpList_append_own_string _ hgd _ _ 94 9 ho B 5 ti iG pR r y z A _ b.size (Lib.strCells b) hs hb t hx (by unfold maxLen;omega) M_ hB ?_));(first|(have:=cc1;unfold Oper.wp execOp;simp only[ho,resolve,invoke,builtin,Sem.run_bind,Sem.run_pure,Result.andThen_ok,List.map_toArray,aw_,a5_,hs,hx,hr])|(intro D l C m _));refine h D l ?_ ?_
 .unfold ye;rw[vw,as_];exact C
 .exact Fr.mono ((A_ w _).gr m (λk hk _=>hk):Fr w l (λg=>v.ownBlock=some g)) (λg _ e=>hb.u8 e)):p:=h
def Kg{ops:Cp}{rest:List Oper}{o:Dz}{a:Act}{Q:Ab}(hgd:o.guard=none)(s x:Operand)(ho:o.op=.call { callee:=.builtin .append,args:=#[s,x],argTypes:=#[94,9] }){B:Nat}{w:Aw}{v:Ax}{b t:BA}(hb:ye w B v b)(hsz:b.size<=100000000)(ht:t.size<=4000)(hB:B<=w.heap.size)(hs:a.eval s=v)(hx:a.eval x=.string t)(h:∀v' w',ye w' B v' (b++t)->FrU B w w'->wpList prog ops Q rest (a.put o.dst v') w'):wpList prog ops Q (o::rest) a w:=by
 exact cq36_
def jK(w0:Aw):Prop:=∀(W:World) (B:Nat),w0.heap.size<=B->B<=W.heap.size->yt w0 W->∀(u:Value) (b:BA) (n:Int),-9223372036854775808<=n->n<=9223372036854775807->ye W B u b->b.size<=100000000->
 Calls prog 61 #[u,Z_ n,Z_ 10] W (yQ W B (b++xK n))
def Vt{w0:Aw}(h:Lib.TabIs prog w0 "internal/strconv.uint64pow10" .u64 Lib.pow10Tab):jK w0:=by
 intro W B h0 hB m u b n r y hb hs
 have o:Lib.TabBelow prog B W "internal/strconv.uint64pow10" .u64 Lib.pow10Tab:=λW' p=>(show yt w0 W' from λg hg=>(p.block g M_).trans (m g hg)).var h
 apply(Tryz.strconv_AppendInt_10 B b.size n r y u (Lib.strCells b) W hb hB M_ o).mono;rintro e w' ⟨z,rfl,ho,l,hk⟩;refine⟨z,rfl,?_,l.os,l.tape,l.output,l.size,λk p o=>?_⟩
 .unfold ye;rw[vw,as_];have m:(xK n).size=(Lib.itoa n).length:=by unfold xK;show(Lib.itoa n).toArray.size=_;rw[List.size_toArray]
  rw[m];exact ho
 .by_cases m:k<B
  .exact l.block k m
  .have l:W.heap[k]?=some W.heap[k]:=Array.getElem?_eq_getElem p;rw[l];refine hk k _ l x8_ (λc m e=>o ⟨M_,c,m,by rw[l,e]⟩)
section
variable {w:Aw} {B:Nat} {u:Ax} {b:BA}
def FZ{t:Ap}(hb:ye w B u b)(hB:B<=w.heap.size)(hs:b.size<=100000000):Calls prog 60 #[u,.bool t] w (yQ w B (b++if t=true then bts [84] else bts [70])):=by
 refine hq_ λr m=>?_;replace hb:=zy hb;cases t
 .go_in;go_wp2_with (at_builtin;refine qm rfl _ _ rfl 70 rfl D_ hb hs hB rfl rfl rfl ?_;intro l p e h);try go_ret
  rw[m.o];exact⟨l,rfl,e,h⟩
 .go_in;go_wp2_with (at_builtin;refine qm rfl _ _ rfl 84 rfl D_ hb hs hB rfl rfl rfl ?_;intro l p e h);try go_ret
  rw[m.o];exact⟨l,rfl,e,h⟩
def Yq{c:Nat}{y:Int}{tx:BA}(hy:y=(c:Int))(hc:c<256)(m:tx.size<=4000)(hb:ye w B u b)(hB:B<=w.heap.size)(hs:b.size<=90000000):Calls prog 62 #[u,.int .u8 y,.string tx] w (yQ w B (b++(bts [c]++(tx++bts [c])))):=by
 subst hy;refine hq_ λe p=>?_;replace hb:=zy hb;have e:(b++bts [c]).size<=90000001:=by rw[as_,zE];simp only[ap_];omega
 have e:(b++bts [c]++tx).size<=90004001:=yq_
 go_in;go_wp2_with (first
  |(at_builtin;refine qm rfl _ _ rfl c rfl hc hb M_ hB rfl rfl rfl ?_;intro e e e h;have A:=h.size;replace e:=zy e;replace h:=zy h)
  |(at_builtin;refine Kg rfl _ _ rfl e M_ m M_ rfl rfl ?_;intro m m m l;have A:=l.size;replace m:=zy m;replace l:=zy l)
  |(at_builtin;refine qm rfl _ _ rfl c rfl hc m M_ M_ rfl rfl rfl ?_;intro e m r z))
 try go_ret
 rw[p.o];refine⟨e,rfl,?_,(h.o.trans l).trans z⟩;rw[<- be_,<- be_];exact r
def JP(hb:ye w B u b)(hB:B<=w.heap.size)(hs:b.size<=100000000):Calls prog 99 #[u,I_ n] w (yQ w B (b++if n=0 then noB else bts [44])):=by
 refine hq_ λm e=>?_;replace hb:=zy hb;by_cases hn:n=0
 .subst hn;go_in;go_wp2;try go_ret
  rw[e.o];show yQ w B (b++noB) _ _;rw[gD];exact⟨u,rfl,hb,FrU.refl w⟩
 .have m:((n:Int)==0)=false:=x4_
  rw[n_ hn]at e;go_in;go_wp2_with (at_builtin;refine qm rfl _ _ rfl 44 rfl D_ hb hs hB rfl rfl rfl ?_;intro m p h l);try go_ret
  rw[e.o];exact⟨m,rfl,h,l⟩
end
end Go.Proofs.YtahhhgbojlkjnaaGreatDoor
