import Derived.Test.YtokgeopihcopeaaGreatDoorW08
set_option linter.unusedVariables false
set_option maxHeartbeats 16000000
set_option maxRecDepth 100000
set_option linter.defProp false
set_option linter.unusedSimpArgs false
open Go.Proofs.Tryz
namespace Go.Proofs.YtokgeopihcopeaaGreatDoor
open Go.RowKit
variable {P Q S:Az}{i:Nat}{d ex v a b c:Ax}{et:Av}{w' w5:Aw}{o:Ac}{f:PF}{fs:An}
structure UM(w:Aw)(bp:Nat)(s:BA)(j:Nat)(p:Int)(sv:Ax)(ds:Af)(X:Ai)(W:Aw):Prop where
 here:PAt W bp s j
 fr:Fr w W (· = bp)
 lt:bp<w.heap.size
 hB:w.heap.size+1<=W.heap.size
 b:Blk W w.heap.size [Z_ p,sv] 226
 row:W.ownsRow (w.heap.size+1) 46 1 sv ds.length ((List.range ds.length).map X)
 ty:∀i t,ds[i]?=some t->TyV W (λg=>w.heap.size+1<=g/\sv.ownBlock≠some g) t (X i)
section
variable {w W W':Aw} {bp:Nat} {s:BA} {j j':Nat} {p:Int} {sv:Ax} {ds:Af} {X:Ai}
def UM.call(M:UM w bp s j p sv ds X W)(h:PAt W' bp s j')(hf:Fr W W' (· = bp)):UM w bp s j' p sv ds X W':=by
 have:=M.lt;exact⟨h,M.fr.trans hf u_,M.lt,al_ M.hB hf.size,hf.bl M.b M_,zj M.row hf (λg hg e=>o1_ (M.row.lt g hg)),λi t e=>(M.ty i t e).fr hf (λg hg e=>M_)⟩
def UM.item(M:UM w bp s j p sv ds X W){o:Obj}{m:Ax}{t:PT}(hg:(W.alloc o).grownBy w5 sv.ownBlock)(ho:w5.ownsRow (w.heap.size+1) 46 1 m (ds.length+1) ((List.range ds.length).map X++[v]))(hl:m.ownBlock=sv.ownBlock\/m.ownBlock=some (W.alloc o).heap.size)(hv:TyV W (λg=>w.heap.size+1<=g/\sv.ownBlock≠some g) t v):UM w bp s j p m (ds++[t]) (λi=>if i<ds.length then X i else v) (w5.setCell ⟨w.heap.size,1,none⟩ m):=by
 have l:=M.lt;have C:=M.hB;have y:Fr W w5 (λg=>sv.ownBlock=some g):=Y_ ((A_ W _).alloc o) hg (λk e _=>e);have hn:∀g,m.ownBlock=some g->w.heap.size+1<=g/\(sv.ownBlock=some g\/W.heap.size<=g):=λg l=>by
  rcases hl with e|e
  .exact⟨(M.row.lt g (e▸l)).1,.inl (e▸l)⟩
  .rw[e]at l;simp only[af_]at l;have:(W.alloc o).heap.size=W.heap.size+1:=x6_
   exact⟨M_,.inr M_⟩
 have z:Fr w5 (w5.setCell ⟨w.heap.size,1,none⟩ m) (λg=>g=w.heap.size):=(A_ w5 (λg=>g=w.heap.size)).setCell ⟨w.heap.size,1,none⟩ m (λ_=>rfl);have r:Fr W (w5.setCell ⟨w.heap.size,1,none⟩ m) (λg=>sv.ownBlock=some g\/g=w.heap.size):=(y.mono (λ_ _ e=>.inl e)).trans z (λ_ _ e=>.inr e);have B:=y.bl M.b (λe=>o1_ (M.row.lt _ e));have A:∀{u x},TyV W (λg=>w.heap.size+1<=g/\sv.ownBlock≠some g) u x->TyV (w5.setCell ⟨w.heap.size,1,none⟩ m) (λg=>w.heap.size+1<=g/\m.ownBlock≠some g) u x:=λhx=>
  ((hx.mono (Q:=λg=>(w.heap.size+1<=g/\sv.ownBlock≠some g)/\g<W.heap.size) (λ_ h1 y=>⟨y,h1⟩)).fr r (λg l e=>by
    rcases e with e|e
    .exact l.1.2 e
    .have:=l.1.1;omega)).mono (λg _ l=>⟨l.1.1,λe=>by
    rcases(hn g e).2 with q|q
    .exact l.1.2 q
    .have:=l.2;omega⟩)
 refine⟨r.bl M.here (λe=>?_),M.fr.trans r (λx hx e=>?_),M.lt,al_ C r.size,B.set 1 m,?_,λi u hu=>?_⟩
 .rcases e with e|e
  .have:=M.row.lt _ e;omega
  .omega
 .rcases e with e|e
  .have:=M.row.lt _ e;omega
  .omega
 .rw[ag_,ao_,bv_,bf_,a0_,bn_,n_ (a5_ _)];have e:(List.range ds.length).map (λi=>if i<ds.length then X i else v)=(List.range ds.length).map X:=List.map_congr_left (λi hi=>by rw[i_ (List.mem_range.1 hi)]);rw[e];exact zj ho z (λg l e=>o1_ (hn g l))
 .by_cases hi:i<ds.length
  .rw[ar_ hi]at hu;simp only[hi,if_true];exact A (M.ty i u hu)
  .rw[aw_ M_]at hu;have h0:i-ds.length=0:=by
    rcases Nat.eq_zero_or_pos (i-ds.length) with h|h
    .exact h
    .rw[bm_ x1_]at hu;cases hu
   rw[h0]at hu;simp only[aa_,af_]at hu;subst hu;simp only[hi,if_false];exact A hv
def UM.ie(M:UM w bp s j p sv ds X W){o:Obj}(hg:(W.alloc o).grownBy w5 sv.ownBlock):w5.cell? ⟨w.heap.size,1,none⟩=some sv/\w5.frozen? ⟨w.heap.size,1,none⟩=false:=by
 have l:Fr W w5 (λg=>sv.ownBlock=some g):=Y_ ((A_ W _).alloc o) hg (λk e _=>e);have h:=l.bl M.b (λe=>o1_ (M.row.lt _ e));exact⟨h.cell 1,h.th 1⟩
def UM.alts(M:UM w bp s j p sv ds X W)(i:Nat)(hp:p=(i:Int)):TyV W (λg=>w.heap.size<=g) (.alts i ds) (.iface 226 (.agg #[Z_ p,sv])):=by
 subst hp;exact .alts i X (yl M.row) (λg e=>o1_ (M.row.lt g e)) (λk t e=>(M.ty k t e).mono (λg _ hg=>o1_ hg.1))
end
def PM:Tryz.prog.underlying 224=some (.slice 46):=K_
def Cy:(Tryz.prog.info? 46).map (λi=>(i.zero,i.size,i.bytes))=some (some .nilIface,1,16):=K_
def Gb(w:Aw)(bp:Nat)(s:BA)(i p:Nat)(et:Av)(ex:Ax)(e:Ak)(w':Aw):Prop:=
 ∃v ev,IfV v/\e=.returned (.tuple #[v,ev])/\Fr w w' (· = bp)/\
 match pA s i with
 | .ok (ts,j)=>if bt s j=41 then ev=.nilIface/\PAt w' bp s (j+1)/\TyV w' (λg=>w.heap.size<=g) (.alts p ts) v else zO w' w.heap.size ev (j:Int) (.iface et ex)/\∃j,j<=s.size/\PAt w' bp s j
 | .error k=>zO w' w.heap.size ev (k:Int) (.iface et ex)/\∃j,j<=s.size/\PAt w' bp s j
def Cu(w:Aw)(bp:Nat)(s:BA)(i:Nat)(p:Int)(m:Nat)(W:Aw):Prop:=
 ∃j sv ds X,UM w bp s j p sv ds X W/\j<=s.size/\i+ds.length<=j/\s.size+1-j<=m/\pA s i=uj ds (pA s j)
def QM{w:Aw}{bp:Nat}{s:BA}{p:Int}(h:PAt w bp s i):UM w bp s i p (L_) [] (λ_=>.nilIface) (w.alloc (.cells #[Z_ p,L_] 226)):=
 ⟨h.alloc _,(A_ w _).alloc _,h.lt,by simp,B_ w _ _,World.ownsRow_nil _ _ _ _,λi t h=>by simp at h⟩
def ZK{w:Aw}{bp:Nat}{s:BA}{p:Nat}(hT:∀j,i<=j->j<=s.size->vG s j)(h:PAt w bp s i)(N:pW w et ex)(a0:bp≠0)(hs:s.size<=300)(hi:i<=s.size):Calls prog 113 #[P_ bp,I_ p] w (Gb w bp s i p et ex):=by
 obtain⟨b6,Q_⟩:=y_ (Gb w bp s i p et ex);rw[<- Q_.o];have b8:=h.lt;have start:=zy (show Cu w bp s i (p:Int) (s.size+1) (w.alloc (.cells #[I_ p,L_] 226)) from⟨i,_,[],_,QM h,hi,by simp,M_,(nD _).symm⟩);have d2:=World.block_lt_of_cell? w ⟨0,0,none⟩ N;replace N:=zy N;replace hT:=zy hT;go_in;go_wp2;go_loopg [] (s.size+1) (λm W=>Cu w bp s i (p:Int) m W);case atStart=>exact start
 case round=>
  obtain⟨j,sv,ds,X,M,hj,d6,hm,q⟩:=hrel;obtain⟨sa,sc,rfl⟩:=zw M.row;have b9:ds.length<=300:=M_;have hC:=zy (hT.o j M_ hj wr bp et ex M.here (N.o.fr M.fr (Ne.symm a0)) a0);have b5:=M.fr.size;have b7:=M.hB;have a1:=xV (s:=s) hj;rw[ip s j hj]at q;cases hp:pT s j with
  |error k=>
   rw[hp]at q;replace q:=zy q;replace hp:=zy hp;replace M:=zy M;go_wp2_with (go_at_call 69;apply hC.o.mono;rintro e w1 ⟨v,ev,_,rfl,hf,hm⟩;rw[hp.o]at hm;obtain⟨⟨g,u,rfl,l⟩,A,z,h1⟩:=hm;replace hf:=zy hf;replace h1:=zy h1;replace l:=zy l);try go_ret
   rw[Q_.o];refine⟨.nilIface,_,.inl rfl,rfl,M.o.fr.trans hf u_,?_⟩;rw[q.o];exact⟨⟨g,al_ b5 u,rfl,l⟩,A,z,h1⟩
  |ok r=>
   obtain⟨t,u⟩:=r;have R:=a1.1 t u hp;rw[hp]at q;simp only at q;obtain⟨ti,a4,a5,a6,a7⟩:=info_parts Cy;replace hp:=zy hp;replace M:=zy M;by_cases G:bt s u=44
   .rw[i_ G,cz]at q;replace q:=zy q;have A:u<s.size:=zp M_;replace G:=zy G;go_wp2_with (first
     |(go_at_call 69;apply hC.o.mono;rintro e w1 ⟨v,ev,_,rfl,hf,hm⟩;rw[hp.o]at hm;obtain⟨rfl,h1,hv⟩:=hm;obtain⟨H,I,rfl⟩:∃T x,v=.iface T x:=(by cases hv<;>exact⟨_,_,rfl⟩);have l:=M.o.call h1 hf;have a3:=zy (hv.mono (Q:=λg=>w.heap.size+1<=g/\(Value.slice sa ds.length sc).ownBlock≠some g) (λg _ hg=>⟨M_,λe=>o1_ (M.o.row.lt g e)⟩));have t1:=l.b.c1;have a9:=l.hB;replace l:=zy l)
     |(at_builtin;go_must (refine wpList_append_own_at _ rfl _ _ 224 rfl (w.heap.size+1) 46 ti _ 1 16 PM a4 a5 a6 a7 rfl D_ (.slice sa ds.length sc) ds.length ((List.range ds.length).map X) rfl ?hown _ 1 1 [.iface H I] rfl rfl (zK _ #[.iface H I] _ _ ?nn) ?one ?b1 ?b2 ?b3 ?_)
       case hown=>exact World.ownsRow.alloc l.o.row _
       case nn=>simp
       case one=>simp[Value.oneCell']
       case b1=>unfold maxLen;omega
       case b2=>omega
       case b3=>simp;omega
       intro v5 w5 E D a2 U
       have z:=l.o.item D E U a3
       obtain⟨e5,f5⟩:=l.o.ie D
       obtain⟨Z,Y,rfl⟩:=zg E M_
       replace z:=zy z)
     |(go_at_call 111;apply(yJ z.o.here hs R.2 G D_ D_).mono;rintro e V ⟨rfl,O,J⟩;have F:=zy (z.o.call J O)))
    go_roundg (s.size+1-(u+1));case measure=>omega
    case rel=>exact⟨u+1,_,ds++[t],_,F,A,by rw[ag_,ao_];omega,l_,q⟩
   .rw[n_ G]at q;obtain⟨y,hy⟩:=x_ (bt s u);rw[hy]at G;replace hy:=zy hy;replace q:=zy q;go_wp2_with (first
     |(go_at_call 69;apply hC.o.mono;rintro e w1 ⟨v,ev,_,rfl,hf,hm⟩;rw[hp.o]at hm;obtain⟨rfl,h1,hv⟩:=hm;obtain⟨H,I,rfl⟩:∃T x,v=.iface T x:=(by cases hv<;>exact⟨_,_,rfl⟩);have l:=M.o.call h1 hf;have a3:=zy (hv.mono (Q:=λg=>w.heap.size+1<=g/\(Value.slice sa ds.length sc).ownBlock≠some g) (λg _ hg=>⟨M_,λe=>o1_ (M.o.row.lt g e)⟩));have t1:=l.b.c1;have a9:=l.hB;replace l:=zy l)
     |(at_builtin;go_must (refine wpList_append_own_at _ rfl _ _ 224 rfl (w.heap.size+1) 46 ti _ 1 16 PM a4 a5 a6 a7 rfl D_ (.slice sa ds.length sc) ds.length ((List.range ds.length).map X) rfl ?hown _ 1 1 [.iface H I] rfl rfl (zK _ #[.iface H I] _ _ ?nn) ?one ?b1 ?b2 ?b3 ?_)
       case hown=>exact World.ownsRow.alloc l.o.row _
       case nn=>simp
       case one=>simp[Value.oneCell']
       case b1=>unfold maxLen;omega
       case b2=>omega
       case b3=>simp;omega
       intro v5 w5 E D a2 U
       have z:=l.o.item D E U a3
       obtain⟨e5,f5⟩:=l.o.ie D
       obtain⟨Z,Y,rfl⟩:=zg E M_
       replace z:=zy z)
     |(go_at_call 111;apply(yK z.o.here hs R.2 hy M_ D_).mono;rintro e V ⟨rfl,O,J⟩;have F:=zy (z.o.call J O)))
    have u0:=F.o.b.c0;have u1:=F.o.b.c1;have l:zq V V.drew:=zq.drew V;have B:=F.o.call (F.o.here.si l) ((A_ V _).si l);have l:=zy (yT (c:=41) 41 B.here (N.o.fr B.fr (Ne.symm a0)) a0 hs R.2 rfl D_);replace B:=zy B;refine tr_ 5 (λW=>z_ W w.heap.size 0 (I_ p)/\z_ W w.heap.size 1 (S_ Z (ds.length+1) Y)) ?_;refine tz_ 0 ?_;refine tz_ 1 ?_;refine tz_ 2 ?_;refine zh 3 rfl K_ (λ_=>⟨u0,u1⟩) (λK hK=>?_);go_simp;apply l.o.mono;rintro e w8 ⟨v8,rfl,l,hE⟩;refine hK _ _ ?_;have A:∃z,z<=s.size/\UM w bp s z (p:Int) (S_ Z (ds.length+1) Y) (ds++[t]) (λi=>if i<ds.length then X i else .iface H I) w8:=by
     rcases hE with⟨_,_,C,a8⟩|⟨_,_,C⟩
     .exact⟨u+1,a8,B.o.call C l⟩
     .exact⟨u,R.2,B.o.call C l⟩
    obtain⟨z,z,A⟩:=A;have z:=A.b.c0;have D:=A.b.c1;refine t1_ 4 ⟨z,D⟩ ?_;refine t1_ 5 ⟨z,D⟩ ?_;refine td_ ?_ _;revert l hE A;refine h_ λl hE A=>?_;go_wp2;try go_ret
    rw[Q_.o];refine⟨.iface 226 (.agg #[I_ p,(S_ Z (ds.length+1) Y)]),v8,.inr ⟨_,_,rfl⟩,rfl,A.o.fr,?_⟩;rw[q.o];show(if bt s u=41 then _ else _);have b4:=B.o.fr.size;rcases hE.o with⟨hb,rfl,C,a8⟩|⟨hb,hF,C⟩
    .rw[i_ hb];exact⟨rfl,C,A.o.alts p rfl⟩
    .rw[n_ hb];exact⟨hF.ls b4,u,R.2,C⟩
def Fg{s:BA}(hs:s.size<=300)(hi:i<=s.size)(hx:bt s i=40)(D:∀j,i<j->j<=s.size->vG s j):vG s i:=by
 intro w bp et ex h B H;obtain⟨M,G⟩:=y_ (vW w bp s i et ex);rw[<- G.o];have m:=zy (And.intro h (A_ w (λx=>x=bp)));have J:i<s.size:=zp M_;have K:=zy (XW (s:=s) (i:=i) hx);replace hx:=zy hx;replace B:=zy B;replace h:=zy h;replace D:=zy D;go_in;go_wp2_with (first
  |(go_at_call 108;apply(yr m.o.1).mono;rintro e w' ⟨rfl,y⟩;rw[y])
  |(go_at_call 107;apply(yb m.o.1 hs hi).mono;rintro e w' ⟨rfl,y⟩;rw[hx.o];replace m:=zy (And.intro (m.o.1.si y) (m.o.2.si y)))
  |(go_at_call 111;apply(yJ m.o.1 hs hi hx D_ D_).mono;rintro e w' ⟨rfl,u,t⟩;have z:=zy (And.intro t (m.o.2.trans u u_)))
  |(go_at_call 111;apply(yK m.o.1 hs hi hx D_ D_).mono;rintro e w' ⟨rfl,u,t⟩;replace m:=zy (And.intro t (m.o.2.trans u u_)))
  |(go_at_call 113;apply(ZK (p:=i) (λj h1 A=>D.o j M_ A) z.o.1 (B.o.fr z.o.2 (Ne.symm H)) H hs J).mono;rintro e m ⟨v,I,C,rfl,E,hm⟩;replace E:=zy E;replace hm:=zy hm;replace C:=zy C))
 try go_ret
 rw[G.o];have F:=z.o.2.size;refine⟨v,I,C,rfl,z.o.2.trans E u_,?_⟩;rw[K.o];have q:=hm.o;cases hp:pA s (i+1) with
 |error k=>
  rw[hp]at q;exact⟨q.1.ls F,q.2⟩
 |ok r=>
  obtain⟨l,j⟩:=r;rw[hp]at q;simp only at q⊢;by_cases hb:bt s j=41
  .rw[i_ hb]at q⊢;obtain⟨rfl,A,hv⟩:=q;exact⟨rfl,A,hv.mono (λg _ hg=>al_ F hg)⟩
  .rw[n_ hb]at q⊢;exact⟨q.1.ls F,q.2⟩
def kE{s:BA}(hs:s.size<=300):∀(n i:Nat),s.size-i<=n->i<=s.size->vG s i:=by
 intro n;induction n with
 |zero=>
  intro i hn hi;have h0:bt s i=0:=wh M_;exact aq hs hi zo_ zo_ zo_ zo_
 |succ n ih=>
  intro i hn hi;have next:i<s.size->∀j,i<j->j<=s.size->vG s j:=λ_ j h1 e=>ih j M_ e;by_cases h1:zi (bt s i)=true
  .have g:=h1;simp only[zi,ay_,beq_iff_eq]at g;rcases g with(((h|h)|h)|h)|h
   .exact Ka hs hi h
   .exact Ki hs hi h
   .exact KZ hs hi h
   .exact Ko hs hi h
   .exact Ke hs hi h
  .by_cases e:bt s i=91\/bt s i=123
   .have g:i<s.size:=zp M_;rcases e with e|e
    .exact Fw hs hi e (next g (i+1) M_ g)
    .exact Ks hs hi e (next g (i+1) M_ g)
   .by_cases g:bt s i=40
    .exact Fg hs hi g (next (zp M_))
    .by_cases l:65<=bt s i/\bt s i<=70
     .exact VB hs hi (by simp[zY];omega)
     .exact aq hs hi h1 e g l
def rE(w:Aw)(bp:Nat)(s:BA)(i:Nat)(et:Av)(ex:Ax)(e:Ak)(w':Aw):Prop:=
 ∃(a:Int) (b:Int) (ev:Value),e=.returned (.tuple #[.agg #[Z_ a,.int .u8 b],ev])/\Fr w w' (· = bp)/\
  ((zl (bt s i)=true/\a=(i:Int)/\b=(bt s i:Int)/\ev=.nilIface/\PAt w' bp s (i+1)/\i<s.size)\/(zl (bt s i)=false/\zO w' w.heap.size ev (i:Int) (.iface et ex)/\PAt w' bp s i))
def cwxE1_{p:Prop}(h:p:=by
 (first|(have:=cc1;have n1:¬((x:Int)<97):=M_;have n2:(122:Int)<(x:Int):=M_)|(have n1:(x:Int)<97:=M_));go_in;go_wp2_with (first
  |(go_at_call 108;apply(yr h0.o).mono;rintro e w' ⟨rfl,hw'⟩;rw[hw'];clear hw')
  |(go_at_call 107;apply(yb h0.o hs hi).mono;rintro e w1 ⟨rfl,hw1⟩;rw[hx.o];have h1:=h0.o.si hw1;have F1:=(A_ (w.alloc (.cells #[O_,.int .u8 0] 191)) (λg=>g=bp)).si hw1;have D0:=F1.bl B0.o M_;have P1:=E_ h1 (.cells #[I_ i,U_ x] 191);have D1:=D0.alloc (.cells #[I_ i,U_ x] 191);have G1:=zy ((hG.o.fr (F0.o.trans F1 u_) (Ne.symm hne)).fr ((A_ w1 N_).alloc (.cells #[I_ i,U_ x] 191)) id);revert F1 P1 D1;refine h_ λF1 P1 D1=>?_;clear D0 h1)
  |(go_at_call 70;apply(vy P1.o G1.o).mono;rintro e w2 ⟨v,rfl,hF,hf2⟩;have D2:=hf2.bl D1.o id;have r0:=D2.c0;have r1:=D2.c1;have g0:=D2.th 0;have g1:=D2.th 1;revert hF hf2 D2;refine h_ λhF hf2 D2=>?_))
 have S2:=(D2.o.set 0 (O_)).set 1 (.int .u8 0);have q0:=S2.cell 0;have q1:=S2.cell 1;simp only[an_,ap_,aa_,ab_]at q0 q1;refine bodyPost_ret (v:=.tuple #[.agg #[O_,.int .u8 0],v]) y8_ rfl ?_;rw[Q_.o];exact fin.o w2 v w1 hF.o hf2.o P1.o F1.o):p:=h
def xE{w:Aw}{bp:Nat}{s:BA}(h:PAt w bp s i)(hG:pW w et ex)(hne:bp≠0)(hs:s.size<=300)(hi:i<=s.size):Calls prog 219 #[P_ bp] w (rE w bp s i et ex):=by
 obtain⟨q,Q_⟩:=y_ (rE w bp s i et ex);rw[<- Q_.o];have q:=h.lt;have h0:=zy (show PAt (w.alloc (.cells #[O_,.int .u8 0] 191)) bp s i from E_ h _);have F0:=zy (show Fr w (w.alloc (.cells #[O_,.int .u8 0] 191)) (λx=>x=bp) from(A_ w _).alloc _);have B0:=zy (B_ w #[O_,.int .u8 0] 191);obtain⟨x,hx⟩:=x_ (bt s i);replace hG:=zy hG;replace h:=zy h;cases l:zl x with
 |true=>
  have hr:97<=x/\x<=122:=by simpa[zl] using l
  have r:i<s.size:=zp M_;have n1:¬((x:Int)<97):=M_;have n2:¬((122:Int)<(x:Int)):=M_;replace hx:=zy hx;replace l:=zy l;go_in;go_wp2_with (first
   |(go_at_call 108;apply(yr h0).mono;rintro e w' ⟨rfl,hw'⟩;rw[hw'])
   |(go_at_call 107;apply(yb h0 hs hi).mono;rintro e w1 ⟨rfl,hw1⟩;rw[hx.o];have h1:=h0.o.si hw1;have F1:=(A_ (w.alloc (.cells #[O_,.int .u8 0] 191)) (λg=>g=bp)).si hw1;have D0:=F1.bl B0 M_;have P1:=E_ h1 (.cells #[I_ i,U_ x] 191);have c1:=PAt.c1 P1;have m:=PAt.th P1 1;have m:=F1.size;have m:=F1.size;have q:=T_ (B_ w1 #[I_ i,U_ x] 191) (a:=⟨bp,1,none⟩) (Z_ ((i:Int)+1)) (by show ¬(w1.heap.size=bp);simp at m;omega);have m:=T_ (D0.alloc (.cells #[I_ i,U_ x] 191)) (a:=⟨bp,1,none⟩) (Z_ ((i:Int)+1)) (by show ¬(w.heap.size=bp);omega);have P2:=zy (PAt.inc P1);have t:=q.c0;have l1:=q.c1;have r0:=m.c0;have r1:=m.c1;have g0:=m.th 0;have g1:=m.th 1;replace F1:=zy F1;replace D0:=zy D0;replace h1:=zy h1;replace P1:=zy P1;replace q:=zy q;replace m:=zy m))
  have S2:=(m.o.set 0 (I_ i)).set 1 (U_ x);have q0:=S2.cell 0;have q1:=S2.cell 1;simp only[an_,ap_,aa_,ab_]at q0 q1;refine bodyPost_ret (v:=.tuple #[.agg #[I_ i,U_ x],.nilIface]) y8_ rfl ?_;rw[Q_.o];refine⟨_,_,_,rfl,?_,.inl ⟨by rw[hx.o];exact l,rfl,by rw[hx.o],rfl,?_,r⟩⟩
  .exact(((((F0.o.trans F1 u_).alloc _).setCell _ _ (λ_=>rfl)).setCell _ _ (λm=>absurd m (a5_ _))).setCell _ _ (λm=>absurd m (a5_ _)))
  .exact T_ (T_ P2 (a:=⟨w.heap.size,0,none⟩) _ (by show ¬(bp=w.heap.size);omega)) (a:=⟨w.heap.size,1,none⟩) _ (by show ¬(bp=w.heap.size);omega)
 |false=>
  have hr:x<97\/122<x:=by
   have:=l;simp only[zl,Bool.and_eq_false_iff,decide_eq_false_iff_not]at this;omega
  replace hx:=zy hx;replace l:=zy l;have fin:H_ (∀(w2:World) (v:Value) (w1:World),zO w2 (w1.alloc (.cells #[I_ i,U_ x] 191)).heap.size v (i:Int) (.iface et ex)->Fr (w1.alloc (.cells #[I_ i,U_ x] 191)) w2 N_->PAt (w1.alloc (.cells #[I_ i,U_ x] 191)) bp s i->Fr (w.alloc (.cells #[O_,.int .u8 0] 191)) w1 (λg=>g=bp)->
   rE w bp s i et ex (.returned (.tuple #[.agg #[O_,.int .u8 0],v])) ((w2.setCell ⟨w.heap.size,0,none⟩ (O_)).setCell ⟨w.heap.size,1,none⟩ (.int .u8 0))):=zy (λw2 v w1 hF hf2 P1 F1=>by
   have hz:(w.alloc (.cells #[O_,.int .u8 0] 191)).heap.size=w.heap.size+1:=x6_
   have q:(w1.alloc (.cells #[I_ i,U_ x] 191)).heap.size=w1.heap.size+1:=x6_
   have q:=F1.size
   have m:Fr w2 ((w2.setCell ⟨w.heap.size,0,none⟩ (O_)).setCell ⟨w.heap.size,1,none⟩ (.int .u8 0)) (λg=>g=w.heap.size):=((A_ w2 (λg=>g=w.heap.size)).setCell ⟨w.heap.size,0,none⟩ _ (λ_=>rfl)).setCell ⟨w.heap.size,1,none⟩ _ (λ_=>rfl)
   refine⟨_,_,_,rfl,?_,.inr ⟨by rw[hx.o];exact l,(hF.fr m (λg hg e=>M_)).ls M_,m.bl (hf2.bl P1 id) M_⟩⟩
   exact((((F0.o.trans F1 u_).alloc _).trans hf2 v_).trans m (λy hy e=>M_)))
  rcases hr with hr|hr
  .exact cwxE1_
  .have cc1:=Nat;exact cwxE1_
def rO(w:Aw)(bp:Nat)(s:BA)(i:Nat)(p:Int)(et:Av)(ex:Ax)(e:Ak)(w':Aw):Prop:=
 ∃v ev,IfV v/\e=.returned (.tuple #[v,ev])/\Fr w w' (· = bp)/\
  ((48<=bt s i/\bt s i<=57/\v=.iface 238 (.agg #[Z_ p,Z_ ((bt s i-48:Nat):Int)])/\ev=.nilIface/\PAt w' bp s (i+1)/\i<s.size)\/(¬(48<=bt s i/\bt s i<=57)/\zO w' w.heap.size ev (i:Int) (.iface et ex)/\PAt w' bp s i))
def cwZP1_{p:Prop}(h:p:=by
 (first|(have:=cc1;have n1:¬((x:Int)<48):=M_;have n2:(57:Int)<(x:Int):=M_)|(have n1:(x:Int)<48:=M_));go_in;go_wp2_with (first
  |(go_at_call 107;apply(yb h.o hs hi).mono;rintro e w1 ⟨rfl,hw1⟩;rw[hx.o];have h1:=zy (h.o.si hw1);replace hw1:=zy hw1)
  |(go_at_call 70;apply(vy h1.o (hG.o.fr ((A_ w N_).si hw1.o) id)).mono;rintro e w2 ⟨v,rfl,hF,hf2⟩;replace hF:=zy hF;replace hf2:=zy hf2))
 try go_ret
 rw[Q_.o];exact fin.o w1 w2 v hw1.o hF.o hf2.o):p:=h
def ZP{w:Aw}{bp:Nat}{s:BA}{p:Int}(h:PAt w bp s i)(hG:pW w et ex)(hs:s.size<=300)(hi:i<=s.size):Calls prog 167 #[P_ bp,Z_ p] w (rO w bp s i p et ex):=by
 obtain⟨l,Q_⟩:=y_ (rO w bp s i p et ex);rw[<- Q_.o];obtain⟨x,hx⟩:=x_ (bt s i);replace hG:=zy hG;by_cases hr:48<=x/\x<=57
 .have g:i<s.size:=zp M_;have n1:¬((x:Int)<48):=M_;have n2:¬((57:Int)<(x:Int)):=M_;replace hx:=zy hx;replace h:=zy h;go_in;go_wp2_with (go_at_call 107;apply(yb h hs hi).mono;rintro e w1 ⟨rfl,hw1⟩;rw[hx.o];have h1:=h.o.si hw1;have c1:=h1.c1;have l:=h1.th 1;replace h1:=zy h1;replace hw1:=zy hw1);try go_ret
  rw[Q_.o];refine⟨.iface 238 (.agg #[Z_ p,Z_ ((x:Int)-48)]),.nilIface,.inr ⟨_,_,rfl⟩,rfl,((A_ w _).si hw1).setCell _ _ (λ_=>rfl),.inl ⟨by rw[hx.o];exact hr.1,by rw[hx.o];exact hr.2,?_,rfl,h1.o.inc,g⟩⟩;rw[hx.o,show((x-48:Nat):Int)=(x:Int)-48 by omega]
 .replace hx:=zy hx;have fin:H_ (∀(w1 w2:World) (v:Value),zq w w1->zO w2 w1.heap.size v (i:Int) (.iface et ex)->Fr w1 w2 N_->rO w bp s i p et ex (.returned (.tuple #[.nilIface,v])) w2):=zy (λw1 w2 v hw1 hF hf2=>by
   have g:=((A_ w N_).si hw1).size
   exact⟨.nilIface,v,.inl rfl,rfl,((A_ w _).si hw1).trans hf2 v_,.inr ⟨by rw[hx.o];exact hr,hF.ls g,hf2.bl (h.si hw1) id⟩⟩)
  have g:x<48\/57<x:=M_;replace h:=zy h;rcases g with hr|hr
  .exact cwZP1_
  .have cc1:=Nat;exact cwZP1_
structure AM(w:Aw)(bp:Nat)(s:BA)(j b0:Nat)(L:Ay)(T ET:Av)(k:Nat)(sv:Ax)(n:Nat)(xs:Ay)(W:Aw):Prop where
 here:PAt W bp s j
 fr:Fr w W (· = bp)
 lt:bp<w.heap.size
 w0:w.heap.size<=b0
 hB:b0+1<=W.heap.size
 b:Blk W b0 L T
 row:W.ownsRow (b0+1) ET k sv n xs
section
variable {w W W':Aw} {bp:Nat} {s:BA} {j j' b0:Nat} {L:Ay} {T ET:Av} {k:Nat} {sv:Ax} {n:Nat} {xs:Ay}
def AM.call(M:AM w bp s j b0 L T ET k sv n xs W)(h:PAt W' bp s j')(hf:Fr W W' (· = bp)):AM w bp s j' b0 L T ET k sv n xs W':=by
 have:=M.lt;have:=M.w0;exact⟨h,M.fr.trans hf u_,M.lt,M.w0,al_ M.hB hf.size,hf.bl M.b M_,zj M.row hf (λg hg e=>o1_ (M.row.lt g hg))⟩
def AM.alloc(M:AM w bp s j b0 L T ET k sv n xs W)(o:Obj):AM w bp s j b0 L T ET k sv n xs (W.alloc o):=M.call (E_ M.here o) ((A_ W _).alloc o)
def AM.item(M:AM w bp s j b0 L T ET k sv n xs W){h:Ax}{m:Nat}{xs':Ay}{l:Aw}(h0:Fr W l N_)(hg:l.grownBy w5 sv.ownBlock)(ho:w5.ownsRow (b0+1) ET k h m xs')(hl:h.ownBlock=sv.ownBlock\/h.ownBlock=some l.heap.size)(c:Nat):AM w bp s j b0 (L.set c h) T ET k h m xs' (w5.setCell ⟨b0,c,none⟩ h)/\Fr W (w5.setCell ⟨b0,c,none⟩ h) (λg=>sv.ownBlock=some g\/g=b0)/\(∀g,h.ownBlock=some g->b0+1<=g/\(sv.ownBlock=some g\/W.heap.size<=g)):=by
 have l:=M.lt;have l:=M.w0;have u:=M.hB;have l:=h0.size;have q:Fr W w5 (λg=>sv.ownBlock=some g):=Y_ (h0.mono v_) hg (λk e _=>e);have hn:∀g,h.ownBlock=some g->b0+1<=g/\(sv.ownBlock=some g\/W.heap.size<=g):=λg l=>by
  rcases hl with e|e
  .exact⟨(M.row.lt g (e▸l)).1,.inl (e▸l)⟩
  .rw[e]at l;simp only[af_]at l;exact⟨M_,.inr M_⟩
 have r:Fr w5 (w5.setCell ⟨b0,c,none⟩ h) (λg=>g=b0):=(A_ w5 (λg=>g=b0)).setCell ⟨b0,c,none⟩ h (λ_=>rfl);have m:Fr W (w5.setCell ⟨b0,c,none⟩ h) (λg=>sv.ownBlock=some g\/g=b0):=(q.mono (λ_ _ e=>.inl e)).trans r (λ_ _ e=>.inr e);have t:=q.bl M.b (λe=>o1_ (M.row.lt _ e));refine⟨⟨m.bl M.here (λe=>?_),M.fr.trans m (λx hx e=>?_),M.lt,M.w0,al_ u m.size,t.set c h,zj ho r (λg l e=>o1_ (hn g l))⟩,m,hn⟩
 .rcases e with e|e
  .have:=M.row.lt _ e;omega
  .omega
 .rcases e with e|e
  .have:=M.row.lt _ e;omega
  .omega
def AM.ie(M:AM w bp s j b0 L T ET k sv n xs W){h:Aw}(h0:Fr W h N_)(hg:h.grownBy w5 sv.ownBlock):Blk w5 b0 L T:=by
 have h:Fr W w5 (λg=>sv.ownBlock=some g):=Y_ (h0.mono v_) hg (λk e _=>e);exact h.bl M.b (λe=>o1_ (M.row.lt _ e))
end
def DfV(w:Aw)(P:Az)(s:BA)(o:Ac)(d:Ax):Prop:=
 match o with
 |none=>d=.pointer none
 |some (a,e)=>∃g x,P g/\d=P_ g/\IfV x/\Blk w g [I_ a,.string (s.extract a e),x] 198
def DfV.mono{w:Aw}{s:BA}(h:DfV w P s o d)(r:∀g,g<w.heap.size->P g->Q g):DfV w Q s o d:=by
 match o with
 |none=>exact h
 |some (a,e)=>
  obtain⟨g,x,h1,m,q,l⟩:=h;exact⟨g,x,r g l.lt h1,m,q,l⟩
def DfV.fr{w:Aw}{s:BA}(h:DfV w P s o d)(hf:Fr w w' S)(r:∀g,P g->¬S g):DfV w' P s o d:=by
 match o with
 |none=>exact h
 |some (a,e)=>
  obtain⟨g,x,h1,l,m,q⟩:=h;exact⟨g,x,h1,l,m,hf.bl q (r g h1)⟩
def cP(w:Aw)(P:Az)(s:BA)(f:PF)(a b c d:Ax):Prop:=
 a=I_ f.place/\b=U_ f.letter/\TyV w P f.ty c/\DfV w P s f.dflt d
def cP.mono{w:Aw}{s:BA}(h:cP w P s f a b c d)(e:∀g,g<w.heap.size->P g->Q g):cP w Q s f a b c d:=
 ⟨h.1,h.2.1,h.2.2.1.mono e,h.2.2.2.mono e⟩
def cP.fr{w:Aw}{s:BA}(h:cP w P s f a b c d)(hf:Fr w w' S)(e:∀g,P g->¬S g):cP w' P s f a b c d:=
 ⟨h.1,h.2.1,h.2.2.1.fr hf e,h.2.2.2.fr hf e⟩
def xG(w:Aw)(P:Az)(s:BA)(fs:An)(xs:Ay):Prop:=
 ∀i f,fs[i]?=some f->∃a b c d,xs[4*i]?=some a/\xs[4*i+1]?=some b/\xs[4*i+2]?=some c/\xs[4*i+3]?=some d/\cP w P s f a b c d
def xG.mono{w:Aw}{s:BA}{xs:Ay}(h:xG w P s fs xs)(t:∀g,g<w.heap.size->P g->Q g):xG w Q s fs xs:=λi f e=>by
 obtain⟨a,b,c,d,h1,l,m,q,r⟩:=h i f e;exact⟨a,b,c,d,h1,l,m,q,r.mono t⟩
def xG.fr{w:Aw}{s:BA}{xs:Ay}(h:xG w P s fs xs)(hf:Fr w w' S)(t:∀g,P g->¬S g):xG w' P s fs xs:=λi f e=>by
 obtain⟨a,b,c,d,h1,l,m,q,r⟩:=h i f e;exact⟨a,b,c,d,h1,l,m,q,r.fr hf t⟩
def xG.snoc{w:Aw}{s:BA}{xs:Ay}(h:xG w P s fs xs)(hl:xs.length=fs.length*4)(hf:cP w P s f a b c d):xG w P s (fs++[f]) (xs++[a,b,c,d]):=λi f' e=>by
 by_cases hi:i<fs.length
 .rw[ar_ hi]at e;obtain⟨a',g,l,m,h1,q,r,t,u⟩:=h i f' e;exact⟨a',g,l,m,by rw[ar_ M_];exact h1,by rw[ar_ M_];exact q,by rw[ar_ M_];exact r,by rw[ar_ M_];exact t,u⟩
 .have g:i=fs.length:=by
   have:=(ak_.1 e).1;simp at this;omega
  subst g;rw[aw_ l_,Nat.sub_self]at e;simp only[aa_,af_]at e;subst e;refine⟨a,b,c,d,?_,?_,?_,?_,hf⟩
  .rw[aw_ M_,show 4*fs.length-xs.length=0 by omega];rfl
  .rw[aw_ M_,show 4*fs.length+1-xs.length=1 by omega];rfl
  .rw[aw_ M_,show 4*fs.length+2-xs.length=2 by omega];rfl
  .rw[aw_ M_,show 4*fs.length+3-xs.length=3 by omega];rfl
def zE(l:As):List Value:=l.flatMap (λq=>[I_ q.2,U_ q.1])
def qb(w:Aw)(P:Az)(o:Ac)(d:Ax):Prop:=
 match o with
 |none=>d=.pointer none
 |some (c,p)=>∃g,P g/\d=P_ g/\Blk w g [I_ p,U_ c] 191
def qb.mono{w:Aw}(h:qb w P o d)(q:∀g,g<w.heap.size->P g->Q g):qb w Q o d:=by
 match o with
 |none=>exact h
 |some (a,e)=>
  obtain⟨g,h1,m,l⟩:=h;exact⟨g,q g l.lt h1,m,l⟩
def qb.fr{w:Aw}(h:qb w P o d)(hf:Fr w w' S)(q:∀g,P g->¬S g):qb w' P o d:=by
 match o with
 |none=>exact h
 |some (a,e)=>
  obtain⟨g,h1,l,m⟩:=h;exact⟨g,h1,l,hf.bl m (q g h1)⟩
def pB(s:BA)(p:Nat)(b:PB):Prop:=∃j,yG s p=.ok (b,j)
inductive yV (w:Aw) (P:Az) (s:BA):PB->Value->Prop
 |recd (p:Nat) {fs:List PF} {sv:Value} {xs:List Value} (ho:w.ownsRow 0 194 4 sv fs.length xs) (hP:∀g,sv.ownBlock=some g->P g) (h:xG w P s fs xs) (hp:pB s p (.recd fs)):yV w P s (.recd fs) (.iface 231 (.agg #[I_ p,sv]))
 |enum (p:Nat) {l:List (Nat×Nat)} {o:Option (Nat×Nat)} {sv u:Value} (ho:w.ownsRow 0 191 2 sv l.length (zE l)) (hP:∀g,sv.ownBlock=some g->P g) (hu:qb w P o u) (hp:pB s p (.enum l o)):yV w P s (.enum l o) (.iface 236 (.agg #[I_ p,sv,u]))
 |bytes (p n:Nat) (hp:pB s p (.bytes n)):yV w P s (.bytes n) (.iface 238 (.agg #[I_ p,I_ n]))
def yV.mono{w:Aw}{s:BA}{b:PB}(h:yV w P s b v)(l:∀g,g<w.heap.size->P g->Q g):yV w Q s b v:=by
 cases h with
 |recd p ho hP h hp=>exact .recd p ho (λg e=>l g (ho.lt g e).2 (hP g e)) (h.mono l) hp
 |enum p ho hP h hp=>exact .enum p ho (λg e=>l g (ho.lt g e).2 (hP g e)) (h.mono l) hp
 |bytes p n hp=>exact .bytes p n hp
def yV.fr{w:Aw}{s:BA}{b:PB}(h:yV w P s b v)(hf:Fr w w' S)(l:∀g,P g->¬S g):yV w' P s b v:=by
 cases h with
 |recd p ho hP h hp=>exact .recd p (zj ho hf (λg e=>l g (hP g e))) hP (h.fr hf l) hp
 |enum p ho hP h hp=>exact .enum p (zj ho hf (λg e=>l g (hP g e))) hP (h.fr hf l) hp
 |bytes p n hp=>exact .bytes p n hp
def Zg(w:Aw)(bp:Nat)(s:BA)(i:Nat)(e:Ak)(w':Aw):Prop:=
 ∃k g,k=(pD s i 0).getD s.size/\i<=k/\k<=s.size/\w.heap.size<=g/\e=.returned (P_ g)/\Blk w' g [I_ i,.string (s.extract i k),.nilIface] 198/\Fr w w' (· = bp)/\PAt w' bp s k
def Gr(w:Aw)(bp:Nat)(s:BA)(i:Nat)(n:Nat)(ov:Ax)(W:Aw):Prop:=
 ∃k o:Nat,ov=I_ o/\pD s i 0=pD s k o/\i<=k/\o<=k/\k<=s.size/\PAt W bp s k/\Fr w W (· = bp)/\s.size-k<=n
def aC{c:Nat}(h:qS c=true):c=40\/c=91\/c=123\/c=60:=by
 simp only[qS,ay_,beq_iff_eq]at h;omega
def iO{c:Nat}(h:jB c=true):c=41\/c=93\/c=125\/c=62:=by
 simp only[jB,ay_,beq_iff_eq]at h;omega
def dM{c:Nat}(h:qS c=false)(e:jB c=false):c≠40/\c≠91/\c≠123/\c≠60/\c≠41/\c≠93/\c≠125/\c≠62:=by
 refine⟨?_,?_,?_,?_,?_,?_,?_,?_⟩<;>(rintro rfl;first|(revert h;decide)|(revert e;decide))
def sE{w:Aw}{bp:Nat}{s:BA}(h:PAt w bp s i)(hs:s.size<=300)(hi:i<=s.size):Calls prog 233 #[P_ bp] w (Zg w bp s i):=by
 obtain⟨F,B⟩:=y_ (Zg w bp s i);rw[<- B.o];have D:=h.lt;have start:=zy (show Gr w bp s i (s.size-i) (O_) w from⟨i,0,rfl,rfl,l_,am_ _,hi,h,A_ _ _,l_⟩);replace h:=zy h;go_in;go_wp2_with (go_at_call 108;apply(yr h).mono;rintro e w' ⟨rfl,D⟩;rw[D];clear D);go_loopg [4] (s.size-i) (λn D W=>Gr w bp s i n D W);case atStart=>exact start
 case round=>
  clear start;obtain⟨k,o,rfl,z,D,H,H,h1,y,hn⟩:=hrel;have c0:=h1.c0;have c1:=h1.c1;replace z:=zy z;have u:bp<wr.heap.size:=h1.lt;have J:(i:Int)<=(k:Int):=M_;have J:(k:Int)<=(s.size:Int):=M_;replace y:=zy y;replace h1:=zy h1;have fin:H_ (∀W,zq wr W->(pD s i 0).getD s.size=k->F (.returned (P_ W.heap.size)) (W.alloc (.cells #[I_ i,.string (s.extract i k),.nilIface] 198))):=zy (λW r he=>by
   rw[B.o]
   have C:=y.o.si r
   exact⟨k,W.heap.size,he.symm,D,H,C.size,rfl,B_ W _ _,C.alloc _,E_ (h1.o.si r) _⟩)
  by_cases hk:k<s.size
  .have G:(k:Int)<(s.size:Int):=M_;obtain⟨c,hc⟩:=x_ (bt s k);have B:((s[k]'hk).toNat:Int)=(c:Int):=by rw[<- hc,xO s k hk]
   have g:=XF o hk;rw[hc,<- z.o]at g;replace hc:=zy hc;have B:=h1.o.th 1;by_cases m:o=0/\(c=44\/c=41)
   .rw[i_ m]at g;have A:=zy (show(pD s i 0).getD s.size=k by rw[g];rfl);clear g;obtain⟨rfl,l⟩:=m;rcases l with rfl|rfl;all_goals
     go_wp2;go_quiet (fail);go_wp2;go_quiet (fail);go_wp2;refine tr_ 13 (λW=>z_ W bp 0 (.string s)/\z_ W bp 1 (I_ k)) ?_;refine tz_ 0 ?_;refine tz_ 1 ?_;refine tz_ 2 ?_;refine tz_ 3 ?_;refine tz_ 4 ?_;refine tz_ 5 ?_;refine tz_ 6 ?_;refine tz_ 7 ?_;refine tz_ 8 ?_;refine tz_ 9 ?_;refine tz_ 10 ?_;refine tz_ 11 ?_;refine t1_ 12 ⟨c0,c1⟩ ?_;refine t1_ 13 ⟨(World.cell?_alloc_past _ _ _ (by exact u)).trans c0,(World.cell?_alloc_past _ _ _ (by exact u)).trans c1⟩ ?_;refine td_ ?_ _;go_wp2;try go_ret
     exact fin.o (wr.drewN _) (zq.drewN _ _) A
   .rw[n_ m]at g;replace g:=zy g;have q:H_ (∀(B:Int) (W:World),B=(qu c o:Nat)->zq wr W->Gr w bp s i (s.size-(k+1)) (Z_ B) (W.setCell ⟨bp,1,none⟩ (Z_ ((k:Int)+1)))):=zy (λB W C r=>by
     have B:=h1.o.si r
     exact⟨k+1,qu c o,by rw[C],g,M_,by unfold qu;split<;>(try split)<;>omega,hk,B.inc,(y.o.si r).setCell _ _ (λ_=>rfl),l_⟩)
    replace m:=zy m;cases ho:qS c<;>cases l:jB c
    case true.true=>exact(lL ho l).elim
    case false.false=>
     have hlv:=zy (by simp[qu,ho,l]:qu c o=o);obtain⟨g,g,g,g,g,g,g,g⟩:=dM ho l;clear ho l;have g:((c:Int)==40)=false:=x1_
     have g:((c:Int)==91)=false:=x1_
     have g:((c:Int)==123)=false:=x1_
     have g:((c:Int)==60)=false:=x1_
     have g:((c:Int)==41)=false:=x1_
     have g:((c:Int)==93)=false:=x1_
     have g:((c:Int)==125)=false:=x1_
     have g:((c:Int)==62)=false:=x1_
     by_cases t:o=0
     .subst t;have g:((c:Int)==44)=false:=by have:=m.o;simp;omega
      go_wp2;go_quiet (fail);go_wp2;go_quiet (fail);go_wp2;go_roundg (s.size-(k+1));case measure=>omega
      case rel=>exact q.o _ _ yg_ x0_
     .have E:((o:Int)==0)=false:=x1_
      go_wp2;go_quiet (fail);go_wp2;go_quiet (fail);go_wp2;go_roundg (s.size-(k+1));case measure=>omega
      case rel=>exact q.o _ _ yg_ x0_
    case true.false=>
     have hlv:=zy (by simp[qu,ho]:qu c o=o+1);have x:=aC ho;clear ho l;rcases x with rfl|rfl|rfl|rfl;all_goals
      by_cases t:o=0
      .subst t;go_wp2;go_quiet (fail);go_wp2;go_quiet (fail);go_wp2;go_roundg (s.size-(k+1));case measure=>omega
       case rel=>exact q.o _ _ yg_ x0_
      .have E:((o:Int)==0)=false:=x1_
       have I:(o:Int)<=300:=M_;go_wp2;go_quiet (fail);go_wp2;go_quiet (fail);go_wp2;go_roundg (s.size-(k+1));case measure=>omega
       case rel=>exact q.o _ _ yg_ x0_
    case false.true=>
     have hlv:=zy (by simp[qu,ho,l]:qu c o=o-1);have x:=iO l;clear ho l;by_cases t:o=0
     .subst t;have g:c=93\/c=125\/c=62:=by have:=m.o;omega
      clear x;rcases g with rfl|rfl|rfl;all_goals
       go_wp2;go_quiet (fail);go_wp2;go_quiet (fail);go_wp2;go_roundg (s.size-(k+1));case measure=>omega
       case rel=>exact q.o _ _ yg_ x0_
     .have E:((o:Int)==0)=false:=x1_
      have I:(o:Int)<=300:=M_;have g:max ((o:Int)-1) 0=(o:Int)-1:=M_;rcases x with rfl|rfl|rfl|rfl;all_goals
       go_wp2;go_quiet (fail);go_wp2;go_quiet (fail);go_wp2;go_roundg (s.size-(k+1));case measure=>omega
       case rel=>exact q.o _ _ yg_ x0_
  .have g:k=s.size:=M_;have A:=zy (show(pD s i 0).getD s.size=k by rw[z.o,KP M_,Option.getD_none];exact g.symm);have G:¬((k:Int)<(s.size:Int)):=M_;clear g;go_wp2;go_quiet (fail);go_wp2;refine tr_ 13 (λW=>z_ W bp 0 (.string s)/\z_ W bp 1 (I_ k)) ?_;refine tz_ 0 ?_;refine tz_ 1 ?_;refine tz_ 2 ?_;refine tz_ 3 ?_;refine tz_ 4 ?_;refine tz_ 5 ?_;refine tz_ 6 ?_;refine tz_ 7 ?_;refine tz_ 8 ?_;refine tz_ 9 ?_;refine tz_ 10 ?_;refine tz_ 11 ?_;refine t1_ 12 ⟨c0,c1⟩ ?_;refine t1_ 13 ⟨(World.cell?_alloc_past _ _ _ (by exact u)).trans c0,(World.cell?_alloc_past _ _ _ (by exact u)).trans c1⟩ ?_;refine td_ ?_ _;go_wp2;try go_ret
   exact fin.o (wr.drewN _) (zq.drewN _ _) A
def Fr.four(w:Aw)(b:Nat)(e h l m:Ax):Fr w ((((w.setCell ⟨b,0,none⟩ e).setCell ⟨b,1,none⟩ h).setCell ⟨b,2,none⟩ l).setCell ⟨b,3,none⟩ m) (λg=>g=b):=
 ((((A_ w (λg=>g=b)).setCell ⟨b,0,none⟩ e (λ_=>rfl)).setCell ⟨b,1,none⟩ h (λ_=>rfl)).setCell ⟨b,2,none⟩ l (λ_=>rfl)).setCell ⟨b,3,none⟩ m (λ_=>rfl)
def Blk.four{w:Aw}{b t:Nat}{u0 e u2 g:Ax}(h:Blk w b [u0,e,u2,g] t)(e g l m:Ax):Blk ((((w.setCell ⟨b,0,none⟩ e).setCell ⟨b,1,none⟩ g).setCell ⟨b,2,none⟩ l).setCell ⟨b,3,none⟩ m) b [e,g,l,m] t:=
 (((h.set 0 e).set 1 g).set 2 l).set 3 m
def rA(w:Aw)(bp:Nat)(s:BA)(i:Nat)(et:Av)(ex:Ax)(e:Ak)(w':Aw):Prop:=
 ∃(a b:Int) (c d ev:Value),e=.returned (.tuple #[.agg #[Z_ a,.int .u8 b,c,d],ev])/\IfV c/\(∃q,d=.pointer q)/\Fr w w' (· = bp)/\
  ((∃f j,ev=.nilIface/\PAt w' bp s j/\j<=s.size/\cP w' (λg=>w.heap.size<=g) s f (Z_ a) (.int .u8 b) c d/\(zR s i=.ok (f,j)\/(zR s i=.error s.size/\j=s.size)))\/
   (∃k,zR s i=.error k/\zO w' w.heap.size ev (k:Int) (.iface et ex)/\∃j,j<=s.size/\PAt w' bp s j))
def fL{w W:Aw}{bp:Nat}{s:BA}{k j lo:Nat}{l:Ax}(hk:zR s i=.error k)(q:zO W lo l (k:Int) (.iface et ex))(hf:Fr w W (· = bp))(t:w.heap.size<lo)(t:bp<w.heap.size)(h:PAt W bp s j)(r:j<=s.size):rA w bp s i et ex (.returned (.tuple #[.agg #[O_,.int .u8 0,.nilIface,.pointer none],l])) ((((W.setCell ⟨w.heap.size,0,none⟩ (O_)).setCell ⟨w.heap.size,1,none⟩ (.int .u8 0)).setCell ⟨w.heap.size,2,none⟩ .nilIface).setCell ⟨w.heap.size,3,none⟩ (.pointer none)):=by
 have m:=Fr.four W w.heap.size (O_) (.int .u8 0) .nilIface (.pointer none);exact⟨0,0,.nilIface,.pointer none,l,rfl,.inl rfl,⟨_,rfl⟩,hf.trans m (λx hx e=>M_),.inr ⟨k,hk,(q.fr m (λg hg e=>M_)).ls M_,j,r,m.bl h M_⟩⟩
def ZF{w:Aw}{bp:Nat}{s:BA}(h:PAt w bp s i)(hG:pW w et ex)(I:bp≠0)(hs:s.size<=300)(hi:i<=s.size):Calls prog 218 #[P_ bp] w (rA w bp s i et ex):=by
 obtain⟨d7,Q_⟩:=y_ (rA w bp s i et ex);rw[<- Q_.o];have a3:=h.lt;have h0:=zy (show PAt (w.alloc (.cells #[O_,.int .u8 0,.nilIface,.pointer none] 194)) bp s i from E_ h _);have F0:=zy (show Fr w (w.alloc (.cells #[O_,.int .u8 0,.nilIface,.pointer none] 194)) (λx=>x=bp) from(A_ w _).alloc _);have B0:=zy (B_ w #[O_,.int .u8 0,.nilIface,.pointer none] 194);have b5:=zy (by simp:(w.alloc (.cells #[O_,.int .u8 0,.nilIface,.pointer none] 194)).heap.size=w.heap.size+1);have G0:=zy (hG.fr F0 (Ne.symm I));have b4:=zy hG;obtain⟨x,hx⟩:=x_ (bt s i);cases hsm:zl x with
 |false=>
  have a1:=zy (show zR s i=.error i by unfold zR;rw[hx,hsm];rfl);replace hsm:=zy (show zl (bt s i)=false by rw[hx];exact hsm);replace hx:=zy hx;go_in;go_wp2_with (first
   |(go_at_call 219;apply(xE h0 G0 I hs hi).mono;rintro e w1 ⟨a,b,ev,rfl,H,hm⟩;obtain⟨g,a0,rfl,m,h1⟩:∃g,(w.alloc (.cells #[O_,.int .u8 0,.nilIface,.pointer none] 194)).heap.size<=g/\ev=.iface 184 (P_ g)/\Blk w1 g [I_ i,.iface et ex] 186/\PAt w1 bp s i:=xj_;have A:=(H.bl B0 M_).alloc (.cells #[Z_ a,.int .u8 b] 191);obtain⟨r0,r1,r2,r3⟩:=A.d4;obtain⟨g0,g1,g2,g3⟩:=A.t4;replace A:=zy A;replace H:=zy H;replace m:=zy m;replace h1:=zy h1))
  have G:=Blk.four A (O_) (.int .u8 0) (.nilIface) (.pointer none);obtain⟨q0,q1,q2,q3⟩:=G.d4;refine bodyPost_ret (v:=.tuple #[.agg #[O_,.int .u8 0,.nilIface,.pointer none],.iface 184 (P_ g)]) xh_ rfl ?_;rw[Q_.o];exact fL a1 (lo:=(w.alloc (.cells #[O_,.int .u8 0,.nilIface,.pointer none] 194)).heap.size) ⟨g,a0,rfl,m.o.alloc _⟩ ((F0.o.trans H u_).alloc _) (by rw[b5.o];omega) a3 (E_ h1 _) hi
 |true=>
  have a5:i+1<=s.size:=zp (xX (by rw[hx];exact hsm));have O:=zy (And.intro hx hsm);replace hsm:=zy (show zl (bt s i)=true by rw[hx];exact hsm);replace hx:=zy hx;go_in;go_upto_region 4 with(go_at_call 219;apply(xE h0 G0 I hs hi).mono;rintro e w1 ⟨a,b,ev,rfl,H,hm⟩;obtain⟨rfl,rfl,rfl,h1⟩:a=(i:Int)/\b=(x:Int)/\ev=.nilIface/\PAt w1 bp s (i+1):=xf_;have P1:=E_ h1 (.cells #[I_ i,U_ x] 191);have F1:=(F0.o.trans H u_).alloc (.cells #[I_ i,U_ x] 191);have G1:=b4.o.fr F1 (Ne.symm I);have L1:=B_ w1 #[I_ i,U_ x] 191;have A:=(H.bl B0 M_).alloc (.cells #[I_ i,U_ x] 191);have d6:=H.size;have b6:=zy (x6_:(w1.alloc (.cells #[I_ i,U_ x] 191)).heap.size=w1.heap.size+1);rw[b5.o]at d6;replace P1:=zy (show PAt _ bp s (i+1) from P1);revert F1 G1 L1 A;refine g_ λF1 G1 L1 A=>?_);by_cases C:bt s (i+1)=58;case neg=>
   have a1:=zy (show zR s i=.error (i+1) by unfold zR;rw[O.o.1,O.o.2,i_ rfl,n_ C]);replace C:=zy C;go_wp2_with (go_at_call 110;apply(yT 58 P1 G1 I hs a5 rfl D_).mono;rintro e Z ⟨v2,rfl,D,hE⟩;obtain⟨g,a0,rfl,m,K⟩:∃g,(w1.alloc (.cells #[I_ i,U_ x] 191)).heap.size<=g/\v2=.iface 184 (P_ g)/\Blk Z g [Z_ ((i+1:Nat):Int),.iface et ex] 186/\PAt Z bp s (i+1):=(by rcases hE with⟨hq,_⟩|⟨_,⟨g,q1,q2,q3⟩,q4⟩;(exact absurd hq C);exact⟨g,q1,q2,q3,q4⟩);have B:=D.bl A M_;obtain⟨r0,r1,r2,r3⟩:=B.d4;obtain⟨g0,g1,g2,g3⟩:=B.t4;replace B:=zy B;replace D:=zy D;replace m:=zy m;replace K:=zy K);have G:=Blk.four B (O_) (.int .u8 0) (.nilIface) (.pointer none);obtain⟨q0,q1,q2,q3⟩:=G.d4;refine bodyPost_ret (v:=.tuple #[.agg #[O_,.int .u8 0,.nilIface,.pointer none],.iface 184 (P_ g)]) xh_ rfl ?_;rw[Q_.o];exact fL a1 (lo:=(w1.alloc (.cells #[I_ i,U_ x] 191)).heap.size) ⟨g,a0,rfl,m⟩ (F1.o.trans D u_) (by rw[b6.o];omega) a3 K a5
  case pos=>
  have a6:i+2<=s.size:=zp (s:=s) (i:=i+1) M_;have a2:=xV (s:=s) a6;replace C:=zy C;go_upto_region 7 with(go_at_call 110;apply(yT 58 P1 G1 I hs a5 rfl D_).mono;rintro e Z ⟨v2,rfl,D,hE⟩;obtain⟨rfl,K⟩:v2=.nilIface/\PAt Z bp s (i+2):=(by rcases hE with⟨_,q1,q2,_⟩|⟨hq,_⟩;(exact⟨q1,q2⟩);exact absurd C.o hq);have H:=D.size;rw[b6.o]at H;have B:=D.bl A M_;have L2:=D.bl L1 M_;have F2:=F1.o.trans D u_;have G2:=zy (b4.o.fr F2 (Ne.symm I));replace B:=zy B;replace L2:=zy L2;replace F2:=zy F2;replace K:=zy K);cases hp:pT s (i+2) with
  |error k=>
   have a1:=zy (show zR s i=.error k by unfold zR;rw[O.o.1,O.o.2,i_ rfl,i_ C.o,hp]);replace hp:=zy hp;go_wp2_with (go_at_call 69;apply(kE hs _ (i+2) l_ a6 Z bp et ex K G2 I).mono;rintro e z ⟨v3,b7,_,rfl,E,hm⟩;rw[hp.o]at hm;obtain⟨⟨g,a0,rfl,m⟩,q,l,h3⟩:=hm;have J:=E.bl B M_;obtain⟨r0,r1,r2,r3⟩:=J.d4;obtain⟨g0,g1,g2,g3⟩:=J.t4;replace J:=zy J;replace E:=zy E;replace m:=zy m;replace h3:=zy h3);have G:=Blk.four J (O_) (.int .u8 0) (.nilIface) (.pointer none);obtain⟨q0,q1,q2,q3⟩:=G.d4;refine bodyPost_ret (v:=.tuple #[.agg #[O_,.int .u8 0,.nilIface,.pointer none],.iface 184 (P_ g)]) xh_ rfl ?_;rw[Q_.o];exact fL a1 (lo:=Z.heap.size) ⟨g,a0,rfl,m⟩ (F2.o.trans E u_) M_ a3 h3 l
  |ok r=>
  obtain⟨t,j⟩:=r;have hj:=a2.1 t j hp;replace hp:=zy hp;go_upto_region 11 with(go_at_call 69;apply(kE hs _ (i+2) l_ a6 Z bp et ex K G2 I).mono;rintro e z ⟨v3,b7,b8,rfl,E,hm⟩;rw[hp.o]at hm;obtain⟨rfl,h3,a8⟩:=hm;obtain⟨q,u,rfl⟩:∃T x,v3=.iface T x:=(by cases a8<;>exact⟨_,_,rfl⟩);have A:=E.size;have J:=E.bl B M_;have B:=E.bl L2 M_;have D:=F2.o.trans E u_;have A:=B.c0;have l1:=B.c1;have A:=(A_ z N_).alloc (.cells #[I_ i,U_ x,.iface q u,.pointer none] 194);have a9:(z.alloc (.cells #[I_ i,U_ x,.iface q u,.pointer none] 194)).heap.size=z.heap.size+1:=x6_;have D4:=A.bl J id;have E4:=B_ z #[I_ i,U_ x,.iface q u,.pointer none] 194;have F4:=D.trans A v_;have P4:=A.bl h3 id;have V4:=zy ((a8.mono (Q:=λg=>z.heap.size≠g/\w.heap.size<g/\w1.heap.size<g) (λg a0 m=>M_)).fr A u_);revert D4 E4 F4;refine h_ λD4 E4 F4=>?_;replace P4:=zy (show PAt _ bp s j from P4);replace a9:=zy a9);by_cases N:bt s j=61;case neg=>
   have a7:=zy (show zR s i=.ok (⟨x,i,t,none⟩,j) by unfold zR;rw[O.o.1,O.o.2,i_ rfl,i_ C.o,hp.o];simp only;rw[n_ N]);replace N:=zy N;go_wp2_with (go_at_call 111;apply(pS 61 P4 hs hj.2 rfl D_ N).mono;rintro e w5 ⟨rfl,l,U⟩;have F:=l.bl D4 M_;have E5:=l.bl E4 M_;obtain⟨r0,r1,r2,r3⟩:=F.d4;obtain⟨g0,g1,g2,g3⟩:=F.t4;obtain⟨e0,e1,e2,e3⟩:=E5.d4;revert l U F E5;refine g_ λl U F E5=>?_);have G:=Blk.four F (I_ i) (U_ x) (.iface q u) (.pointer none);obtain⟨q0,q1,q2,q3⟩:=G.d4;refine bodyPost_ret (v:=.tuple #[.agg #[I_ i,U_ x,.iface q u,.pointer none],.nilIface]) xh_ rfl ?_;rw[Q_.o];have M:=Fr.four w5 w.heap.size (I_ i) (U_ x) (.iface q u) (.pointer none);refine⟨(i:Int),(x:Int),.iface q u,.pointer none,.nilIface,rfl,.inr ⟨_,_,rfl⟩,⟨_,rfl⟩,(F4.o.trans l u_).trans M (λy hy e=>M_),.inl ⟨⟨x,i,t,none⟩,j,rfl,M.bl U M_,hj.2,⟨rfl,rfl,?_,rfl⟩,.inl a7⟩⟩;exact((V4.o.fr l (λg hg e=>M_)).fr M (λg hg e=>M_)).mono (λg _ hg=>M_)
  case pos=>
   have d2:j+1<=s.size:=zp (s:=s) (i:=j) M_;have a7:=zy (show zR s i=(match pD s (j+1) 0 with|none=>.error s.size|some e=>.ok (⟨x,i,t,some (j+1,e)⟩,e)) by unfold zR;rw[O.o.1,O.o.2,i_ rfl,i_ C.o,hp.o];simp only;rw[i_ N];cases pD s (j+1) 0<;>rfl);replace N:=zy N;go_wp2_with (first
    |(go_at_call 111;apply(gD 61 P4 hs hj.2 rfl D_ N).mono;rintro e w5 ⟨rfl,l,U⟩;have m:=l.size;rw[a9.o]at m;have F:=l.bl D4 M_;have E5:=zy (l.bl E4 M_);revert l U F;refine h_ λl U F=>?_)
    |(go_at_call 233;apply(sE U hs d2).mono;rintro e w6 ⟨k6,R,a4,m,b9,m,rfl,D,V,C⟩;have m:=V.size;have E:=V.bl F M_;have A:=V.bl E5 M_;have d3:=A.cell 3;have m:=A.th 3;have B:=A.set 3 (P_ R);have Y:Fr w6 (w6.setCell ⟨z.heap.size,3,none⟩ (P_ R)) (λg=>g=z.heap.size):=(A_ w6 (λg=>g=z.heap.size)).setCell ⟨z.heap.size,3,none⟩ _ (λ_=>rfl);have m:=Y.bl E M_;obtain⟨r0,r1,r2,r3⟩:=m.f4;obtain⟨g0,g1,g2,g3⟩:=m.t4;obtain⟨e0,e1,e2,e3⟩:=B.f4;simp only[an_,ap_,aa_,ab_]at d3 r0 r1 r2 r3 e0 e1 e2 e3;replace m:=zy m;replace B:=zy B;replace Y:=zy Y;replace V:=zy V;replace C:=zy C;replace D:=zy D;replace a4:=zy a4))
   have G:=Blk.four m (I_ i) (U_ x) (.iface q u) (P_ R);obtain⟨q0,q1,q2,q3⟩:=G.d4;refine bodyPost_ret (v:=.tuple #[.agg #[I_ i,U_ x,.iface q u,P_ R],.nilIface]) xh_ rfl ?_;rw[Q_.o];have M:=Fr.four (w6.setCell ⟨z.heap.size,3,none⟩ (P_ R)) w.heap.size (I_ i) (U_ x) (.iface q u) (P_ R);have V7:=((((V4.o.fr l (λg hg e=>M_)).fr V (λg hg e=>M_)).fr Y (λg hg e=>M_)).fr M (λg hg e=>M_)).mono (Q:=λg=>w.heap.size<=g) (λg _ hg=>M_);have P7:=M.bl (Y.o.bl C M_) M_;have B7:=M.bl (Y.o.bl D M_) M_;refine⟨(i:Int),(x:Int),.iface q u,P_ R,.nilIface,rfl,.inr ⟨_,_,rfl⟩,⟨_,rfl⟩,(((F4.o.trans l u_).trans V u_).trans Y (λy hy e=>M_)).trans M (λy hy e=>M_),.inl ⟨⟨x,i,t,some (j+1,k6)⟩,k6,rfl,P7,b9,⟨rfl,rfl,V7,?_⟩,?_⟩⟩
   .exact⟨R,.nilIface,M_,rfl,.inl rfl,B7⟩
   .have hk:=a4.o;rw[a7.o];cases hd:pD s (j+1) 0 with
    |none=>rw[hd]at hk;exact .inr ⟨rfl,hk⟩
    |some e=>rw[hd]at hk;simp only[b6_]at hk;subst hk;exact .inl rfl
end Go.Proofs.YtokgeopihcopeaaGreatDoor
