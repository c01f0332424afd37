import Derived.Test.YtlmebjdmdogmfaaGreatDoorW08
set_option linter.unusedVariables false
set_option maxHeartbeats 16000000
set_option maxRecDepth 100000
set_option linter.defProp false
set_option linter.unusedSimpArgs false
open Go.Proofs.Tryz
namespace Go.Proofs.YtlmebjdmdogmfaaGreatDoor
open Go.RowKit
variable {P Q S:Az}{i:Nat}{d ex a b c:Ax}{et:Av}{w':Aw}{o:Ac}{f:PF}{fs:An}
def Gb(w:Aw)(bp:Nat)(s:BA)(i p:Nat)(et:Av)(ex:Ax)(e:Ak)(w':Aw):Prop:=
 ∃v ev,IfV v/\e=.returned (.tuple #[v,ev])/\Fr w w' (· = bp)/\
 match pA s i with
 | .ok (ts,j)=>if bt s j=41 then ev=.nilIface/\PAt w' bp s (j+1)/\TyV w' (λg=>w.heap.size<=g) (.alts p ts) v else zO w' w.heap.size ev (j:Int) (.iface et ex)/\∃j,j<=s.size/\PAt w' bp s j
 | .error k=>zO w' w.heap.size ev (k:Int) (.iface et ex)/\∃j,j<=s.size/\PAt w' bp s j
def Cu(w:Aw)(bp:Nat)(s:BA)(i:Nat)(p:Int)(m:Nat)(W:Aw):Prop:=
 ∃j sv ds X,UM w bp s j p sv ds X W/\j<=s.size/\i+ds.length<=j/\s.size+1-j<=m/\pA s i=uj ds (pA s j)
def QM{w:Aw}{bp:Nat}{s:BA}{p:Int}(h:PAt w bp s i):UM w bp s i p (L_) [] (λ_=>.nilIface) (w.alloc (.cells #[Z_ p,L_] 226)):=
 ⟨h.alloc _,(A_ w _).alloc _,h.lt,by simp,B_ w _ _,World.ownsRow_nil _ _ _ _,λi t h=>by simp at h⟩
def ZK{w:Aw}{bp:Nat}{s:BA}{p:Nat}(hT:∀j,i<=j->j<=s.size->vG s j)(h:PAt w bp s i)(N:pW w et ex)(a0:bp≠0)(hs:s.size<=300)(hi:i<=s.size):Calls prog 113 #[P_ bp,I_ p] w (Gb w bp s i p et ex):=by
 obtain⟨b6,Q_⟩:=y_ (Gb w bp s i p et ex);rw[<- Q_.o];have b8:=h.lt;have start:=zy (show Cu w bp s i (p:Int) (s.size+1) (w.alloc (.cells #[I_ p,L_] 226)) from⟨i,_,[],_,QM h,hi,by simp,M_,(nD _).symm⟩);have d2:=World.block_lt_of_cell? w ⟨0,0,none⟩ N;replace N:=zy N;replace hT:=zy hT;go_in;go_wp2;go_loopg [] (s.size+1) (λm W=>Cu w bp s i (p:Int) m W);case atStart=>exact start
 case round=>
  obtain⟨j,sv,ds,X,M,hj,d6,hm,q⟩:=hrel;obtain⟨sa,sc,rfl⟩:=zw M.row;have b9:ds.length<=300:=M_;have hC:=zy (hT.o j M_ hj wr bp et ex M.here (N.o.fr M.fr (Ne.symm a0)) a0);have b5:=M.fr.size;have b7:=M.hB;have a1:=xV (s:=s) hj;rw[ip s j hj]at q;cases hp:pT s j with
  |error k=>
   rw[hp]at q;replace q:=zy q;replace hp:=zy hp;replace M:=zy M;go_wp2_with (go_at_call 69;apply hC.o.mono;rintro e w1 ⟨v,ev,_,rfl,hf,hm⟩;rw[hp.o]at hm;obtain⟨⟨g,u,rfl,l⟩,A,z,h1⟩:=hm;replace hf:=zy hf;replace h1:=zy h1;replace l:=zy l);try go_ret
   rw[Q_.o];refine⟨.nilIface,_,.inl rfl,rfl,M.o.fr.trans hf u_,?_⟩;rw[q.o];exact⟨⟨g,ak_ b5 u,rfl,l⟩,A,z,h1⟩
  |ok r=>
   obtain⟨t,u⟩:=r;have R:=a1.1 t u hp;rw[hp]at q;simp only at q;obtain⟨ti,a4,a5,a6,a7⟩:=info_parts Cy;replace hp:=zy hp;replace M:=zy M;by_cases G:bt s u=44
   .rw[i_ G,cz]at q;replace q:=zy q;have A:u<s.size:=zp M_;replace G:=zy G;go_wp2_with (first
     |(go_at_call 69;apply hC.o.mono;rintro e w1 ⟨v,ev,_,rfl,hf,hm⟩;rw[hp.o]at hm;obtain⟨rfl,h1,hv⟩:=hm;obtain⟨H,I,rfl⟩:∃T x,v=.iface T x:=(by cases hv<;>exact⟨_,_,rfl⟩);have l:=M.o.call h1 hf;have a3:=zy (hv.mono (Q:=λg=>w.heap.size+1<=g/\(Value.slice sa ds.length sc).ownBlock≠some g) (λg _ hg=>⟨M_,λe=>o1_ (M.o.row.lt g e)⟩));have t1:=l.b.c1;have a9:=l.hB;replace l:=zy l)
     |(at_builtin;go_must (refine wpList_append_own_at _ rfl _ _ 224 rfl (w.heap.size+1) 46 ti _ 1 16 PM a4 a5 a6 a7 rfl D_ (.slice sa ds.length sc) ds.length ((List.range ds.length).map X) rfl ?hown _ 1 1 [.iface H I] rfl rfl (zK _ #[.iface H I] _ _ ?nn) ?one ?b1 ?b2 ?b3 ?_)
       case hown=>exact World.ownsRow.alloc l.o.row _
       case nn=>simp
       case one=>simp[Value.oneCell']
       case b1=>unfold maxLen;omega
       case b2=>omega
       case b3=>simp;omega
       intro v5 w5 E D a2 U
       have z:=l.o.item D E U a3
       obtain⟨e5,f5⟩:=l.o.ie D
       obtain⟨Z,Y,rfl⟩:=zg E M_
       replace z:=zy z)
     |(go_at_call 111;apply(yJ z.o.here hs R.2 G D_ D_).mono;rintro e V ⟨rfl,O,J⟩;have F:=zy (z.o.call J O)))
    go_roundg (s.size+1-(u+1));case measure=>omega
    case rel=>exact⟨u+1,_,ds++[t],_,F,A,by rw[ag_,ap_];omega,l_,q⟩
   .rw[n_ G]at q;obtain⟨y,hy⟩:=x_ (bt s u);rw[hy]at G;replace hy:=zy hy;replace q:=zy q;go_wp2_with (first
     |(go_at_call 69;apply hC.o.mono;rintro e w1 ⟨v,ev,_,rfl,hf,hm⟩;rw[hp.o]at hm;obtain⟨rfl,h1,hv⟩:=hm;obtain⟨H,I,rfl⟩:∃T x,v=.iface T x:=(by cases hv<;>exact⟨_,_,rfl⟩);have l:=M.o.call h1 hf;have a3:=zy (hv.mono (Q:=λg=>w.heap.size+1<=g/\(Value.slice sa ds.length sc).ownBlock≠some g) (λg _ hg=>⟨M_,λe=>o1_ (M.o.row.lt g e)⟩));have t1:=l.b.c1;have a9:=l.hB;replace l:=zy l)
     |(at_builtin;go_must (refine wpList_append_own_at _ rfl _ _ 224 rfl (w.heap.size+1) 46 ti _ 1 16 PM a4 a5 a6 a7 rfl D_ (.slice sa ds.length sc) ds.length ((List.range ds.length).map X) rfl ?hown _ 1 1 [.iface H I] rfl rfl (zK _ #[.iface H I] _ _ ?nn) ?one ?b1 ?b2 ?b3 ?_)
       case hown=>exact World.ownsRow.alloc l.o.row _
       case nn=>simp
       case one=>simp[Value.oneCell']
       case b1=>unfold maxLen;omega
       case b2=>omega
       case b3=>simp;omega
       intro v5 w5 E D a2 U
       have z:=l.o.item D E U a3
       obtain⟨e5,f5⟩:=l.o.ie D
       obtain⟨Z,Y,rfl⟩:=zg E M_
       replace z:=zy z)
     |(go_at_call 111;apply(yK z.o.here hs R.2 hy M_ D_).mono;rintro e V ⟨rfl,O,J⟩;have F:=zy (z.o.call J O)))
    have u0:=F.o.b.c0;have u1:=F.o.b.c1;have l:zq V V.drew:=zq.drew V;have B:=F.o.call (F.o.here.si l) ((A_ V _).si l);have l:=zy (yT (c:=41) 41 B.here (N.o.fr B.fr (Ne.symm a0)) a0 hs R.2 rfl D_);replace B:=zy B;refine tr_ 5 (λW=>z_ W w.heap.size 0 (I_ p)/\z_ W w.heap.size 1 (S_ Z (ds.length+1) Y)) ?_;refine tz_ 0 ?_;refine tz_ 1 ?_;refine tz_ 2 ?_;refine zh 3 rfl K_ (λ_=>⟨u0,u1⟩) (λK hK=>?_);go_simp;apply l.o.mono;rintro e w8 ⟨v8,rfl,l,hE⟩;refine hK _ _ ?_;have A:∃z,z<=s.size/\UM w bp s z (p:Int) (S_ Z (ds.length+1) Y) (ds++[t]) (λi=>if i<ds.length then X i else .iface H I) w8:=by
     rcases hE with⟨_,_,C,a8⟩|⟨_,_,C⟩
     .exact⟨u+1,a8,B.o.call C l⟩
     .exact⟨u,R.2,B.o.call C l⟩
    obtain⟨z,z,A⟩:=A;have z:=A.b.c0;have D:=A.b.c1;refine t1_ 4 ⟨z,D⟩ ?_;refine t1_ 5 ⟨z,D⟩ ?_;refine td_ ?_ _;revert l hE A;refine h_ λl hE A=>?_;go_wp2;try go_ret
    rw[Q_.o];refine⟨.iface 226 (.agg #[I_ p,(S_ Z (ds.length+1) Y)]),v8,.inr ⟨_,_,rfl⟩,rfl,A.o.fr,?_⟩;rw[q.o];show(if bt s u=41 then _ else _);have b4:=B.o.fr.size;rcases hE.o with⟨hb,rfl,C,a8⟩|⟨hb,hF,C⟩
    .rw[i_ hb];exact⟨rfl,C,A.o.alts p rfl⟩
    .rw[n_ hb];exact⟨hF.ls b4,u,R.2,C⟩
def Fg{s:BA}(hs:s.size<=300)(hi:i<=s.size)(hx:bt s i=40)(D:∀j,i<j->j<=s.size->vG s j):vG s i:=by
 intro w bp et ex h B H;obtain⟨M,G⟩:=y_ (vW w bp s i et ex);rw[<- G.o];have m:=zy (And.intro h (A_ w (λx=>x=bp)));have J:i<s.size:=zp M_;have K:=zy (XW (s:=s) (i:=i) hx);replace hx:=zy hx;replace B:=zy B;replace h:=zy h;replace D:=zy D;go_in;go_wp2_with (first
  |(go_at_call 108;apply(yr m.o.1).mono;rintro e w' ⟨rfl,y⟩;rw[y])
  |(go_at_call 107;apply(yb m.o.1 hs hi).mono;rintro e w' ⟨rfl,y⟩;rw[hx.o];replace m:=zy (And.intro (m.o.1.si y) (m.o.2.si y)))
  |(go_at_call 111;apply(yJ m.o.1 hs hi hx D_ D_).mono;rintro e w' ⟨rfl,u,t⟩;have z:=zy (And.intro t (m.o.2.trans u u_)))
  |(go_at_call 111;apply(yK m.o.1 hs hi hx D_ D_).mono;rintro e w' ⟨rfl,u,t⟩;replace m:=zy (And.intro t (m.o.2.trans u u_)))
  |(go_at_call 113;apply(ZK (p:=i) (λj h1 A=>D.o j M_ A) z.o.1 (B.o.fr z.o.2 (Ne.symm H)) H hs J).mono;rintro e m ⟨v,I,C,rfl,E,hm⟩;replace E:=zy E;replace hm:=zy hm;replace C:=zy C))
 try go_ret
 rw[G.o];have F:=z.o.2.size;refine⟨v,I,C,rfl,z.o.2.trans E u_,?_⟩;rw[K.o];have q:=hm.o;cases hp:pA s (i+1) with
 |error k=>
  rw[hp]at q;exact⟨q.1.ls F,q.2⟩
 |ok r=>
  obtain⟨l,j⟩:=r;rw[hp]at q;simp only at q⊢;by_cases hb:bt s j=41
  .rw[i_ hb]at q⊢;obtain⟨rfl,A,hv⟩:=q;exact⟨rfl,A,hv.mono (λg _ hg=>ak_ F hg)⟩
  .rw[n_ hb]at q⊢;exact⟨q.1.ls F,q.2⟩
def kE{s:BA}(hs:s.size<=300):∀(n i:Nat),s.size-i<=n->i<=s.size->vG s i:=by
 intro n;induction n with
 |zero=>
  intro i hn hi;have h0:bt s i=0:=wh M_;exact aq hs hi zp_ zp_ zp_ zp_
 |succ n ih=>
  intro i hn hi;have next:i<s.size->∀j,i<j->j<=s.size->vG s j:=λ_ j h1 e=>ih j M_ e;by_cases h1:zi (bt s i)=true
  .have g:=h1;simp only[zi,ax_,beq_iff_eq]at g;rcases g with(((h|h)|h)|h)|h
   .exact Ka hs hi h
   .exact Ki hs hi h
   .exact KZ hs hi h
   .exact Ko hs hi h
   .exact Ke hs hi h
  .by_cases e:bt s i=91\/bt s i=123
   .have g:i<s.size:=zp M_;rcases e with e|e
    .exact Fw hs hi e (next g (i+1) M_ g)
    .exact Ks hs hi e (next g (i+1) M_ g)
   .by_cases g:bt s i=40
    .exact Fg hs hi g (next (zp M_))
    .by_cases l:65<=bt s i/\bt s i<=70
     .exact VB hs hi (by simp[zY];omega)
     .exact aq hs hi h1 e g l
def rE(w:Aw)(bp:Nat)(s:BA)(i:Nat)(et:Av)(ex:Ax)(e:Ak)(w':Aw):Prop:=
 ∃(a:Int) (b:Int) (ev:Value),e=.returned (.tuple #[.agg #[Z_ a,.int .u8 b],ev])/\Fr w w' (· = bp)/\
  ((zl (bt s i)=true/\a=(i:Int)/\b=(bt s i:Int)/\ev=.nilIface/\PAt w' bp s (i+1)/\i<s.size)\/(zl (bt s i)=false/\zO w' w.heap.size ev (i:Int) (.iface et ex)/\PAt w' bp s i))
def cwxE1_{p:Prop}(h:p:=by
 (first|(have:=cc1;have n1:¬((x:Int)<97):=M_;have n2:(122:Int)<(x:Int):=M_)|(have n1:(x:Int)<97:=M_));go_in;go_wp2_with (first
  |(go_at_call 108;apply(yr h0.o).mono;rintro e w' ⟨rfl,hw'⟩;rw[hw'];clear hw')
  |(go_at_call 107;apply(yb h0.o hs hi).mono;rintro e w1 ⟨rfl,hw1⟩;rw[hx.o];have h1:=h0.o.si hw1;have F1:=(A_ (w.alloc (.cells #[O_,.int .u8 0] 191)) (λg=>g=bp)).si hw1;have D0:=F1.bl B0.o M_;have P1:=E_ h1 (.cells #[I_ i,U_ x] 191);have D1:=D0.alloc (.cells #[I_ i,U_ x] 191);have G1:=zy ((hG.o.fr (F0.o.trans F1 u_) (Ne.symm hne)).fr ((A_ w1 N_).alloc (.cells #[I_ i,U_ x] 191)) id);revert F1 P1 D1;refine h_ λF1 P1 D1=>?_;clear D0 h1)
  |(go_at_call 70;apply(vy P1.o G1.o).mono;rintro e w2 ⟨v,rfl,hF,hf2⟩;have D2:=hf2.bl D1.o id;have r0:=D2.c0;have r1:=D2.c1;have g0:=D2.th 0;have g1:=D2.th 1;revert hF hf2 D2;refine h_ λhF hf2 D2=>?_))
 have S2:=(D2.o.set 0 (O_)).set 1 (.int .u8 0);have q0:=S2.cell 0;have q1:=S2.cell 1;simp only[am_,an_,aa_,ab_]at q0 q1;refine bodyPost_ret (v:=.tuple #[.agg #[O_,.int .u8 0],v]) y9_ rfl ?_;rw[Q_.o];exact fin.o w2 v w1 hF.o hf2.o P1.o F1.o):p:=h
def xE{w:Aw}{bp:Nat}{s:BA}(h:PAt w bp s i)(hG:pW w et ex)(hne:bp≠0)(hs:s.size<=300)(hi:i<=s.size):Calls prog 219 #[P_ bp] w (rE w bp s i et ex):=by
 obtain⟨p,Q_⟩:=y_ (rE w bp s i et ex);rw[<- Q_.o];have p:=h.lt;have h0:=zy (show PAt (w.alloc (.cells #[O_,.int .u8 0] 191)) bp s i from E_ h _);have F0:=zy (show Fr w (w.alloc (.cells #[O_,.int .u8 0] 191)) (λx=>x=bp) from(A_ w _).alloc _);have B0:=zy (B_ w #[O_,.int .u8 0] 191);obtain⟨x,hx⟩:=x_ (bt s i);replace hG:=zy hG;replace h:=zy h;cases l:zl x with
 |true=>
  have hr:97<=x/\x<=122:=by simpa[zl] using l
  have q:i<s.size:=zp M_;have n1:¬((x:Int)<97):=M_;have n2:¬((122:Int)<(x:Int)):=M_;replace hx:=zy hx;replace l:=zy l;go_in;go_wp2_with (first
   |(go_at_call 108;apply(yr h0).mono;rintro e w' ⟨rfl,hw'⟩;rw[hw'])
   |(go_at_call 107;apply(yb h0 hs hi).mono;rintro e w1 ⟨rfl,hw1⟩;rw[hx.o];have h1:=h0.o.si hw1;have F1:=(A_ (w.alloc (.cells #[O_,.int .u8 0] 191)) (λg=>g=bp)).si hw1;have D0:=F1.bl B0 M_;have P1:=E_ h1 (.cells #[I_ i,U_ x] 191);have c1:=PAt.c1 P1;have m:=PAt.th P1 1;have m:=F1.size;have m:=F1.size;have p:=T_ (B_ w1 #[I_ i,U_ x] 191) (a:=⟨bp,1,none⟩) (Z_ ((i:Int)+1)) (by show ¬(w1.heap.size=bp);simp at m;omega);have m:=T_ (D0.alloc (.cells #[I_ i,U_ x] 191)) (a:=⟨bp,1,none⟩) (Z_ ((i:Int)+1)) (by show ¬(w.heap.size=bp);omega);have P2:=zy (PAt.inc P1);have r:=p.c0;have l1:=p.c1;have r0:=m.c0;have r1:=m.c1;have g0:=m.th 0;have g1:=m.th 1;replace F1:=zy F1;replace D0:=zy D0;replace h1:=zy h1;replace P1:=zy P1;replace p:=zy p;replace m:=zy m))
  have S2:=(m.o.set 0 (I_ i)).set 1 (U_ x);have q0:=S2.cell 0;have q1:=S2.cell 1;simp only[am_,an_,aa_,ab_]at q0 q1;refine bodyPost_ret (v:=.tuple #[.agg #[I_ i,U_ x],.nilIface]) y9_ rfl ?_;rw[Q_.o];refine⟨_,_,_,rfl,?_,.inl ⟨by rw[hx.o];exact l,rfl,by rw[hx.o],rfl,?_,q⟩⟩
  .exact(((((F0.o.trans F1 u_).alloc _).setCell _ _ (λ_=>rfl)).setCell _ _ (λm=>absurd m (a2_ _))).setCell _ _ (λm=>absurd m (a2_ _)))
  .exact T_ (T_ P2 (a:=⟨w.heap.size,0,none⟩) _ (by show ¬(bp=w.heap.size);omega)) (a:=⟨w.heap.size,1,none⟩) _ (by show ¬(bp=w.heap.size);omega)
 |false=>
  have hr:x<97\/122<x:=by
   have:=l;simp only[zl,Bool.and_eq_false_iff,decide_eq_false_iff_not]at this;omega
  replace hx:=zy hx;replace l:=zy l;have fin:H_ (∀(w2:World) (v:Value) (w1:World),zO w2 (w1.alloc (.cells #[I_ i,U_ x] 191)).heap.size v (i:Int) (.iface et ex)->Fr (w1.alloc (.cells #[I_ i,U_ x] 191)) w2 N_->PAt (w1.alloc (.cells #[I_ i,U_ x] 191)) bp s i->Fr (w.alloc (.cells #[O_,.int .u8 0] 191)) w1 (λg=>g=bp)->
   rE w bp s i et ex (.returned (.tuple #[.agg #[O_,.int .u8 0],v])) ((w2.setCell ⟨w.heap.size,0,none⟩ (O_)).setCell ⟨w.heap.size,1,none⟩ (.int .u8 0))):=zy (λw2 v w1 hF hf2 P1 F1=>by
   have hz:(w.alloc (.cells #[O_,.int .u8 0] 191)).heap.size=w.heap.size+1:=x7_
   have p:(w1.alloc (.cells #[I_ i,U_ x] 191)).heap.size=w1.heap.size+1:=x7_
   have p:=F1.size
   have m:Fr w2 ((w2.setCell ⟨w.heap.size,0,none⟩ (O_)).setCell ⟨w.heap.size,1,none⟩ (.int .u8 0)) (λg=>g=w.heap.size):=((A_ w2 (λg=>g=w.heap.size)).setCell ⟨w.heap.size,0,none⟩ _ (λ_=>rfl)).setCell ⟨w.heap.size,1,none⟩ _ (λ_=>rfl)
   refine⟨_,_,_,rfl,?_,.inr ⟨by rw[hx.o];exact l,(hF.fr m (λg hg e=>M_)).ls M_,m.bl (hf2.bl P1 id) M_⟩⟩
   exact((((F0.o.trans F1 u_).alloc _).trans hf2 v_).trans m (λy hy e=>M_)))
  rcases hr with hr|hr
  .exact cwxE1_
  .have cc1:=Nat;exact cwxE1_
def rO(w:Aw)(bp:Nat)(s:BA)(i:Nat)(p:Int)(et:Av)(ex:Ax)(e:Ak)(w':Aw):Prop:=
 ∃v ev,IfV v/\e=.returned (.tuple #[v,ev])/\Fr w w' (· = bp)/\
  ((48<=bt s i/\bt s i<=57/\v=.iface 238 (.agg #[Z_ p,Z_ ((bt s i-48:Nat):Int)])/\ev=.nilIface/\PAt w' bp s (i+1)/\i<s.size)\/(¬(48<=bt s i/\bt s i<=57)/\zO w' w.heap.size ev (i:Int) (.iface et ex)/\PAt w' bp s i))
def cwZP1_{p:Prop}(h:p:=by
 (first|(have:=cc1;have n1:¬((x:Int)<48):=M_;have n2:(57:Int)<(x:Int):=M_)|(have n1:(x:Int)<48:=M_));go_in;go_wp2_with (first
  |(go_at_call 107;apply(yb h.o hs hi).mono;rintro e w1 ⟨rfl,hw1⟩;rw[hx.o];have h1:=zy (h.o.si hw1);replace hw1:=zy hw1)
  |(go_at_call 70;apply(vy h1.o (hG.o.fr ((A_ w N_).si hw1.o) id)).mono;rintro e w2 ⟨v,rfl,hF,hf2⟩;replace hF:=zy hF;replace hf2:=zy hf2))
 try go_ret
 rw[Q_.o];exact fin.o w1 w2 v hw1.o hF.o hf2.o):p:=h
def ZP{w:Aw}{bp:Nat}{s:BA}{p:Int}(h:PAt w bp s i)(hG:pW w et ex)(hs:s.size<=300)(hi:i<=s.size):Calls prog 167 #[P_ bp,Z_ p] w (rO w bp s i p et ex):=by
 obtain⟨l,Q_⟩:=y_ (rO w bp s i p et ex);rw[<- Q_.o];obtain⟨x,hx⟩:=x_ (bt s i);replace hG:=zy hG;by_cases hr:48<=x/\x<=57
 .have g:i<s.size:=zp M_;have n1:¬((x:Int)<48):=M_;have n2:¬((57:Int)<(x:Int)):=M_;replace hx:=zy hx;replace h:=zy h;go_in;go_wp2_with (go_at_call 107;apply(yb h hs hi).mono;rintro e w1 ⟨rfl,hw1⟩;rw[hx.o];have h1:=h.o.si hw1;have c1:=h1.c1;have l:=h1.th 1;replace h1:=zy h1;replace hw1:=zy hw1);try go_ret
  rw[Q_.o];refine⟨.iface 238 (.agg #[Z_ p,Z_ ((x:Int)-48)]),.nilIface,.inr ⟨_,_,rfl⟩,rfl,((A_ w _).si hw1).setCell _ _ (λ_=>rfl),.inl ⟨by rw[hx.o];exact hr.1,by rw[hx.o];exact hr.2,?_,rfl,h1.o.inc,g⟩⟩;rw[hx.o,show((x-48:Nat):Int)=(x:Int)-48 by omega]
 .replace hx:=zy hx;have fin:H_ (∀(w1 w2:World) (v:Value),zq w w1->zO w2 w1.heap.size v (i:Int) (.iface et ex)->Fr w1 w2 N_->rO w bp s i p et ex (.returned (.tuple #[.nilIface,v])) w2):=zy (λw1 w2 v hw1 hF hf2=>by
   have g:=((A_ w N_).si hw1).size
   exact⟨.nilIface,v,.inl rfl,rfl,((A_ w _).si hw1).trans hf2 v_,.inr ⟨by rw[hx.o];exact hr,hF.ls g,hf2.bl (h.si hw1) id⟩⟩)
  have g:x<48\/57<x:=M_;replace h:=zy h;rcases g with hr|hr
  .exact cwZP1_
  .have cc1:=Nat;exact cwZP1_
structure AM(w:Aw)(bp:Nat)(s:BA)(j b0:Nat)(L:Ay)(T ET:Av)(k:Nat)(sv:Ax)(n:Nat)(xs:Ay)(W:Aw):Prop where
 here:PAt W bp s j
 fr:Fr w W (· = bp)
 lt:bp<w.heap.size
 w0:w.heap.size<=b0
 hB:b0+1<=W.heap.size
 b:Blk W b0 L T
 row:W.ownsRow (b0+1) ET k sv n xs
section
variable {w W W':Aw} {bp:Nat} {s:BA} {j j' b0:Nat} {L:Ay} {T ET:Av} {k:Nat} {sv:Ax} {n:Nat} {xs:Ay}
def AM.call(M:AM w bp s j b0 L T ET k sv n xs W)(h:PAt W' bp s j')(hf:Fr W W' (· = bp)):AM w bp s j' b0 L T ET k sv n xs W':=by
 have:=M.lt;have:=M.w0;exact⟨h,M.fr.trans hf u_,M.lt,M.w0,ak_ M.hB hf.size,hf.bl M.b M_,zj M.row hf (λg hg e=>o1_ (M.row.lt g hg))⟩
def AM.alloc(M:AM w bp s j b0 L T ET k sv n xs W)(o:Obj):AM w bp s j b0 L T ET k sv n xs (W.alloc o):=M.call (E_ M.here o) ((A_ W _).alloc o)
def AM.item(M:AM w bp s j b0 L T ET k sv n xs W){l:Aw}{h:Ax}{p:Nat}{xs':Ay}{m:Aw}(h0:Fr W m N_)(hg:m.grownBy l sv.ownBlock)(ho:l.ownsRow (b0+1) ET k h p xs')(hl:h.ownBlock=sv.ownBlock\/h.ownBlock=some m.heap.size)(c:Nat):AM w bp s j b0 (L.set c h) T ET k h p xs' (l.setCell ⟨b0,c,none⟩ h)/\Fr W (l.setCell ⟨b0,c,none⟩ h) (λg=>sv.ownBlock=some g\/g=b0)/\(∀g,h.ownBlock=some g->b0+1<=g/\(sv.ownBlock=some g\/W.heap.size<=g)):=by
 have m:=M.lt;have m:=M.w0;have t:=M.hB;have m:=h0.size;have q:Fr W l (λg=>sv.ownBlock=some g):=Y_ (h0.mono v_) hg (λk e _=>e);have hn:∀g,h.ownBlock=some g->b0+1<=g/\(sv.ownBlock=some g\/W.heap.size<=g):=λg m=>by
  rcases hl with e|e
  .exact⟨(M.row.lt g (e▸m)).1,.inl (e▸m)⟩
  .rw[e]at m;simp only[af_]at m;exact⟨M_,.inr M_⟩
 have r:Fr l (l.setCell ⟨b0,c,none⟩ h) (λg=>g=b0):=(A_ l (λg=>g=b0)).setCell ⟨b0,c,none⟩ h (λ_=>rfl);have p:Fr W (l.setCell ⟨b0,c,none⟩ h) (λg=>sv.ownBlock=some g\/g=b0):=(q.mono (λ_ _ e=>.inl e)).trans r (λ_ _ e=>.inr e);have l:=q.bl M.b (λe=>o1_ (M.row.lt _ e));refine⟨⟨p.bl M.here (λe=>?_),M.fr.trans p (λx hx e=>?_),M.lt,M.w0,ak_ t p.size,l.set c h,zj ho r (λg m e=>o1_ (hn g m))⟩,p,hn⟩
 .rcases e with e|e
  .have:=M.row.lt _ e;omega
  .omega
 .rcases e with e|e
  .have:=M.row.lt _ e;omega
  .omega
def AM.ie(M:AM w bp s j b0 L T ET k sv n xs W){h l:Aw}(h0:Fr W l N_)(hg:l.grownBy h sv.ownBlock):Blk h b0 L T:=by
 have l:Fr W h (λg=>sv.ownBlock=some g):=Y_ (h0.mono v_) hg (λk e _=>e);exact l.bl M.b (λe=>o1_ (M.row.lt _ e))
end
def DfV(w:Aw)(P:Az)(s:BA)(o:Ac)(d:Ax):Prop:=
 match o with
 |none=>d=.pointer none
 |some (a,e)=>∃g x,P g/\d=P_ g/\IfV x/\Blk w g [I_ a,.string (s.extract a e),x] 198
def DfV.mono{w:Aw}{s:BA}(h:DfV w P s o d)(q:∀g,g<w.heap.size->P g->Q g):DfV w Q s o d:=by
 match o with
 |none=>exact h
 |some (a,e)=>
  obtain⟨g,x,h1,m,p,l⟩:=h;exact⟨g,x,q g l.lt h1,m,p,l⟩
def DfV.fr{w:Aw}{s:BA}(h:DfV w P s o d)(hf:Fr w w' S)(q:∀g,P g->¬S g):DfV w' P s o d:=by
 match o with
 |none=>exact h
 |some (a,e)=>
  obtain⟨g,x,h1,l,m,p⟩:=h;exact⟨g,x,h1,l,m,hf.bl p (q g h1)⟩
def cP(w:Aw)(P:Az)(s:BA)(f:PF)(a b c d:Ax):Prop:=
 a=I_ f.place/\b=U_ f.letter/\TyV w P f.ty c/\DfV w P s f.dflt d
def cP.mono{w:Aw}{s:BA}(h:cP w P s f a b c d)(e:∀g,g<w.heap.size->P g->Q g):cP w Q s f a b c d:=
 ⟨h.1,h.2.1,h.2.2.1.mono e,h.2.2.2.mono e⟩
def cP.fr{w:Aw}{s:BA}(h:cP w P s f a b c d)(hf:Fr w w' S)(e:∀g,P g->¬S g):cP w' P s f a b c d:=
 ⟨h.1,h.2.1,h.2.2.1.fr hf e,h.2.2.2.fr hf e⟩
def xG(w:Aw)(P:Az)(s:BA)(fs:An)(xs:Ay):Prop:=
 ∀i f,fs[i]?=some f->∃a b c d,xs[4*i]?=some a/\xs[4*i+1]?=some b/\xs[4*i+2]?=some c/\xs[4*i+3]?=some d/\cP w P s f a b c d
def xG.mono{w:Aw}{s:BA}{xs:Ay}(h:xG w P s fs xs)(r:∀g,g<w.heap.size->P g->Q g):xG w Q s fs xs:=λi f e=>by
 obtain⟨a,b,c,d,h1,l,m,p,q⟩:=h i f e;exact⟨a,b,c,d,h1,l,m,p,q.mono r⟩
def xG.fr{w:Aw}{s:BA}{xs:Ay}(h:xG w P s fs xs)(hf:Fr w w' S)(r:∀g,P g->¬S g):xG w' P s fs xs:=λi f e=>by
 obtain⟨a,b,c,d,h1,l,m,p,q⟩:=h i f e;exact⟨a,b,c,d,h1,l,m,p,q.fr hf r⟩
def xG.snoc{w:Aw}{s:BA}{xs:Ay}(h:xG w P s fs xs)(hl:xs.length=fs.length*4)(hf:cP w P s f a b c d):xG w P s (fs++[f]) (xs++[a,b,c,d]):=λi f' e=>by
 by_cases hi:i<fs.length
 .rw[ar_ hi]at e;obtain⟨a',g,l,m,h1,p,q,r,t⟩:=h i f' e;exact⟨a',g,l,m,by rw[ar_ M_];exact h1,by rw[ar_ M_];exact p,by rw[ar_ M_];exact q,by rw[ar_ M_];exact r,t⟩
 .have g:i=fs.length:=by
   have:=(aj_.1 e).1;simp at this;omega
  subst g;rw[as_ l_,Nat.sub_self]at e;simp only[aa_,af_]at e;subst e;refine⟨a,b,c,d,?_,?_,?_,?_,hf⟩
  .rw[as_ M_,show 4*fs.length-xs.length=0 by omega];rfl
  .rw[as_ M_,show 4*fs.length+1-xs.length=1 by omega];rfl
  .rw[as_ M_,show 4*fs.length+2-xs.length=2 by omega];rfl
  .rw[as_ M_,show 4*fs.length+3-xs.length=3 by omega];rfl
def zE(l:As):List Value:=l.flatMap (λq=>[I_ q.2,U_ q.1])
def qb(w:Aw)(P:Az)(o:Ac)(d:Ax):Prop:=
 match o with
 |none=>d=.pointer none
 |some (c,p)=>∃g,P g/\d=P_ g/\Blk w g [I_ p,U_ c] 191
def qb.mono{w:Aw}(h:qb w P o d)(p:∀g,g<w.heap.size->P g->Q g):qb w Q o d:=by
 match o with
 |none=>exact h
 |some (a,e)=>
  obtain⟨g,h1,m,l⟩:=h;exact⟨g,p g l.lt h1,m,l⟩
def qb.fr{w:Aw}(h:qb w P o d)(hf:Fr w w' S)(p:∀g,P g->¬S g):qb w' P o d:=by
 match o with
 |none=>exact h
 |some (a,e)=>
  obtain⟨g,h1,l,m⟩:=h;exact⟨g,h1,l,hf.bl m (p g h1)⟩
def pB(s:BA)(p:Nat)(b:PB):Prop:=∃j,yG s p=.ok (b,j)
inductive yV (w:Aw) (P:Az) (s:BA):PB->Value->Prop
 |recd (p:Nat) {fs:List PF} {sv:Value} {xs:List Value} (ho:w.ownsRow 0 194 4 sv fs.length xs) (hP:∀g,sv.ownBlock=some g->P g) (h:xG w P s fs xs) (hp:pB s p (.recd fs)):yV w P s (.recd fs) (.iface 231 (.agg #[I_ p,sv]))
 |enum (p:Nat) {l:List (Nat×Nat)} {o:Option (Nat×Nat)} {sv u:Value} (ho:w.ownsRow 0 191 2 sv l.length (zE l)) (hP:∀g,sv.ownBlock=some g->P g) (hu:qb w P o u) (hp:pB s p (.enum l o)):yV w P s (.enum l o) (.iface 236 (.agg #[I_ p,sv,u]))
 |bytes (p n:Nat) (hp:pB s p (.bytes n)):yV w P s (.bytes n) (.iface 238 (.agg #[I_ p,I_ n]))
def yV.mono{w:Aw}{s:BA}{b:PB}{v:Ax}(h:yV w P s b v)(l:∀g,g<w.heap.size->P g->Q g):yV w Q s b v:=by
 cases h with
 |recd p ho hP h hp=>exact .recd p ho (λg e=>l g (ho.lt g e).2 (hP g e)) (h.mono l) hp
 |enum p ho hP h hp=>exact .enum p ho (λg e=>l g (ho.lt g e).2 (hP g e)) (h.mono l) hp
 |bytes p n hp=>exact .bytes p n hp
def yV.fr{w:Aw}{s:BA}{b:PB}{v:Ax}(h:yV w P s b v)(hf:Fr w w' S)(l:∀g,P g->¬S g):yV w' P s b v:=by
 cases h with
 |recd p ho hP h hp=>exact .recd p (zj ho hf (λg e=>l g (hP g e))) hP (h.fr hf l) hp
 |enum p ho hP h hp=>exact .enum p (zj ho hf (λg e=>l g (hP g e))) hP (h.fr hf l) hp
 |bytes p n hp=>exact .bytes p n hp
def Zg(w:Aw)(bp:Nat)(s:BA)(i:Nat)(e:Ak)(w':Aw):Prop:=
 ∃k g,k=(pD s i 0).getD s.size/\i<=k/\k<=s.size/\w.heap.size<=g/\e=.returned (P_ g)/\Blk w' g [I_ i,.string (s.extract i k),.nilIface] 198/\Fr w w' (· = bp)/\PAt w' bp s k
def Gr(w:Aw)(bp:Nat)(s:BA)(i:Nat)(n:Nat)(ov:Ax)(W:Aw):Prop:=
 ∃k o:Nat,ov=I_ o/\pD s i 0=pD s k o/\i<=k/\o<=k/\k<=s.size/\PAt W bp s k/\Fr w W (· = bp)/\s.size-k<=n
def aC{c:Nat}(h:qS c=true):c=40\/c=91\/c=123\/c=60:=by
 simp only[qS,ax_,beq_iff_eq]at h;omega
def iO{c:Nat}(h:jB c=true):c=41\/c=93\/c=125\/c=62:=by
 simp only[jB,ax_,beq_iff_eq]at h;omega
def dM{c:Nat}(h:qS c=false)(e:jB c=false):c≠40/\c≠91/\c≠123/\c≠60/\c≠41/\c≠93/\c≠125/\c≠62:=by
 refine⟨?_,?_,?_,?_,?_,?_,?_,?_⟩<;>(rintro rfl;first|(revert h;decide)|(revert e;decide))
def sE{w:Aw}{bp:Nat}{s:BA}(h:PAt w bp s i)(hs:s.size<=300)(hi:i<=s.size):Calls prog 233 #[P_ bp] w (Zg w bp s i):=by
 obtain⟨D,z⟩:=y_ (Zg w bp s i);rw[<- z.o];have B:=h.lt;have start:=zy (show Gr w bp s i (s.size-i) (O_) w from⟨i,0,rfl,rfl,l_,al_ _,hi,h,A_ _ _,l_⟩);replace h:=zy h;go_in;go_wp2_with (go_at_call 108;apply(yr h).mono;rintro e w' ⟨rfl,B⟩;rw[B];clear B);go_loopg [4] (s.size-i) (λn B W=>Gr w bp s i n B W);case atStart=>exact start
 case round=>
  clear start;obtain⟨k,o,rfl,x,B,F,F,h1,v,hn⟩:=hrel;have c0:=h1.c0;have c1:=h1.c1;replace x:=zy x;have t:bp<wr.heap.size:=h1.lt;have H:(i:Int)<=(k:Int):=M_;have H:(k:Int)<=(s.size:Int):=M_;replace v:=zy v;replace h1:=zy h1;have fin:H_ (∀W,zq wr W->(pD s i 0).getD s.size=k->D (.returned (P_ W.heap.size)) (W.alloc (.cells #[I_ i,.string (s.extract i k),.nilIface] 198))):=zy (λW q he=>by
   rw[z.o]
   have A:=v.o.si q
   exact⟨k,W.heap.size,he.symm,B,F,A.size,rfl,B_ W _ _,A.alloc _,E_ (h1.o.si q) _⟩)
  by_cases hk:k<s.size
  .have E:(k:Int)<(s.size:Int):=M_;obtain⟨c,hc⟩:=x_ (bt s k);have z:((s[k]'hk).toNat:Int)=(c:Int):=by rw[<- hc,xO s k hk]
   have g:=XF o hk;rw[hc,<- x.o]at g;replace hc:=zy hc;have z:=h1.o.th 1;by_cases m:o=0/\(c=44\/c=41)
   .rw[i_ m]at g;have y:=zy (show(pD s i 0).getD s.size=k by rw[g];rfl);clear g;obtain⟨rfl,l⟩:=m;rcases l with rfl|rfl;all_goals
     go_wp2;go_quiet (fail);go_wp2;go_quiet (fail);go_wp2;refine tr_ 13 (λW=>z_ W bp 0 (.string s)/\z_ W bp 1 (I_ k)) ?_;refine tz_ 0 ?_;refine tz_ 1 ?_;refine tz_ 2 ?_;refine tz_ 3 ?_;refine tz_ 4 ?_;refine tz_ 5 ?_;refine tz_ 6 ?_;refine tz_ 7 ?_;refine tz_ 8 ?_;refine tz_ 9 ?_;refine tz_ 10 ?_;refine tz_ 11 ?_;refine t1_ 12 ⟨c0,c1⟩ ?_;refine t1_ 13 ⟨(World.cell?_alloc_past _ _ _ (by exact t)).trans c0,(World.cell?_alloc_past _ _ _ (by exact t)).trans c1⟩ ?_;refine td_ ?_ _;go_wp2;try go_ret
     exact fin.o (wr.drewN _) (zq.drewN _ _) y
   .rw[n_ m]at g;replace g:=zy g;have p:H_ (∀(z:Int) (W:World),z=(qu c o:Nat)->zq wr W->Gr w bp s i (s.size-(k+1)) (Z_ z) (W.setCell ⟨bp,1,none⟩ (Z_ ((k:Int)+1)))):=zy (λz W A q=>by
     have z:=h1.o.si q
     exact⟨k+1,qu c o,by rw[A],g,M_,by unfold qu;split<;>(try split)<;>omega,hk,z.inc,(v.o.si q).setCell _ _ (λ_=>rfl),l_⟩)
    replace m:=zy m;cases ho:qS c<;>cases l:jB c
    case true.true=>exact(lL ho l).elim
    case false.false=>
     have hlv:=zy (by simp[qu,ho,l]:qu c o=o);obtain⟨g,g,g,g,g,g,g,g⟩:=dM ho l;clear ho l;have g:((c:Int)==40)=false:=x1_
     have g:((c:Int)==91)=false:=x1_
     have g:((c:Int)==123)=false:=x1_
     have g:((c:Int)==60)=false:=x1_
     have g:((c:Int)==41)=false:=x1_
     have g:((c:Int)==93)=false:=x1_
     have g:((c:Int)==125)=false:=x1_
     have g:((c:Int)==62)=false:=x1_
     by_cases r:o=0
     .subst r;have g:((c:Int)==44)=false:=by have:=m.o;simp;omega
      go_wp2;go_quiet (fail);go_wp2;go_quiet (fail);go_wp2;go_roundg (s.size-(k+1));case measure=>omega
      case rel=>exact p.o _ _ yh_ x0_
     .have C:((o:Int)==0)=false:=x1_
      go_wp2;go_quiet (fail);go_wp2;go_quiet (fail);go_wp2;go_roundg (s.size-(k+1));case measure=>omega
      case rel=>exact p.o _ _ yh_ x0_
    case true.false=>
     have hlv:=zy (by simp[qu,ho]:qu c o=o+1);have u:=aC ho;clear ho l;rcases u with rfl|rfl|rfl|rfl;all_goals
      by_cases r:o=0
      .subst r;go_wp2;go_quiet (fail);go_wp2;go_quiet (fail);go_wp2;go_roundg (s.size-(k+1));case measure=>omega
       case rel=>exact p.o _ _ yh_ x0_
      .have C:((o:Int)==0)=false:=x1_
       have G:(o:Int)<=300:=M_;go_wp2;go_quiet (fail);go_wp2;go_quiet (fail);go_wp2;go_roundg (s.size-(k+1));case measure=>omega
       case rel=>exact p.o _ _ yh_ x0_
    case false.true=>
     have hlv:=zy (by simp[qu,ho,l]:qu c o=o-1);have u:=iO l;clear ho l;by_cases r:o=0
     .subst r;have g:c=93\/c=125\/c=62:=by have:=m.o;omega
      clear u;rcases g with rfl|rfl|rfl;all_goals
       go_wp2;go_quiet (fail);go_wp2;go_quiet (fail);go_wp2;go_roundg (s.size-(k+1));case measure=>omega
       case rel=>exact p.o _ _ yh_ x0_
     .have C:((o:Int)==0)=false:=x1_
      have G:(o:Int)<=300:=M_;have g:max ((o:Int)-1) 0=(o:Int)-1:=M_;rcases u with rfl|rfl|rfl|rfl;all_goals
       go_wp2;go_quiet (fail);go_wp2;go_quiet (fail);go_wp2;go_roundg (s.size-(k+1));case measure=>omega
       case rel=>exact p.o _ _ yh_ x0_
  .have g:k=s.size:=M_;have y:=zy (show(pD s i 0).getD s.size=k by rw[x.o,KP M_,Option.getD_none];exact g.symm);have E:¬((k:Int)<(s.size:Int)):=M_;clear g;go_wp2;go_quiet (fail);go_wp2;refine tr_ 13 (λW=>z_ W bp 0 (.string s)/\z_ W bp 1 (I_ k)) ?_;refine tz_ 0 ?_;refine tz_ 1 ?_;refine tz_ 2 ?_;refine tz_ 3 ?_;refine tz_ 4 ?_;refine tz_ 5 ?_;refine tz_ 6 ?_;refine tz_ 7 ?_;refine tz_ 8 ?_;refine tz_ 9 ?_;refine tz_ 10 ?_;refine tz_ 11 ?_;refine t1_ 12 ⟨c0,c1⟩ ?_;refine t1_ 13 ⟨(World.cell?_alloc_past _ _ _ (by exact t)).trans c0,(World.cell?_alloc_past _ _ _ (by exact t)).trans c1⟩ ?_;refine td_ ?_ _;go_wp2;try go_ret
   exact fin.o (wr.drewN _) (zq.drewN _ _) y
def Fr.four(w:Aw)(b:Nat)(e h l m:Ax):Fr w ((((w.setCell ⟨b,0,none⟩ e).setCell ⟨b,1,none⟩ h).setCell ⟨b,2,none⟩ l).setCell ⟨b,3,none⟩ m) (λg=>g=b):=
 ((((A_ w (λg=>g=b)).setCell ⟨b,0,none⟩ e (λ_=>rfl)).setCell ⟨b,1,none⟩ h (λ_=>rfl)).setCell ⟨b,2,none⟩ l (λ_=>rfl)).setCell ⟨b,3,none⟩ m (λ_=>rfl)
def Blk.four{w:Aw}{b t:Nat}{u0 e u2 g:Ax}(h:Blk w b [u0,e,u2,g] t)(e g l m:Ax):Blk ((((w.setCell ⟨b,0,none⟩ e).setCell ⟨b,1,none⟩ g).setCell ⟨b,2,none⟩ l).setCell ⟨b,3,none⟩ m) b [e,g,l,m] t:=
 (((h.set 0 e).set 1 g).set 2 l).set 3 m
def rA(w:Aw)(bp:Nat)(s:BA)(i:Nat)(et:Av)(ex:Ax)(e:Ak)(w':Aw):Prop:=
 ∃(a b:Int) (c d ev:Value),e=.returned (.tuple #[.agg #[Z_ a,.int .u8 b,c,d],ev])/\IfV c/\(∃q,d=.pointer q)/\Fr w w' (· = bp)/\
  ((∃f j,ev=.nilIface/\PAt w' bp s j/\j<=s.size/\cP w' (λg=>w.heap.size<=g) s f (Z_ a) (.int .u8 b) c d/\(zR s i=.ok (f,j)\/(zR s i=.error s.size/\j=s.size)))\/
   (∃k,zR s i=.error k/\zO w' w.heap.size ev (k:Int) (.iface et ex)/\∃j,j<=s.size/\PAt w' bp s j))
def fL{w W:Aw}{bp:Nat}{s:BA}{k j lo:Nat}{l:Ax}(hk:zR s i=.error k)(p:zO W lo l (k:Int) (.iface et ex))(hf:Fr w W (· = bp))(r:w.heap.size<lo)(r:bp<w.heap.size)(h:PAt W bp s j)(q:j<=s.size):rA w bp s i et ex (.returned (.tuple #[.agg #[O_,.int .u8 0,.nilIface,.pointer none],l])) ((((W.setCell ⟨w.heap.size,0,none⟩ (O_)).setCell ⟨w.heap.size,1,none⟩ (.int .u8 0)).setCell ⟨w.heap.size,2,none⟩ .nilIface).setCell ⟨w.heap.size,3,none⟩ (.pointer none)):=by
 have m:=Fr.four W w.heap.size (O_) (.int .u8 0) .nilIface (.pointer none);exact⟨0,0,.nilIface,.pointer none,l,rfl,.inl rfl,⟨_,rfl⟩,hf.trans m (λx hx e=>M_),.inr ⟨k,hk,(p.fr m (λg hg e=>M_)).ls M_,j,q,m.bl h M_⟩⟩
def ZF{w:Aw}{bp:Nat}{s:BA}(h:PAt w bp s i)(hG:pW w et ex)(H:bp≠0)(hs:s.size<=300)(hi:i<=s.size):Calls prog 218 #[P_ bp] w (rA w bp s i et ex):=by
 obtain⟨d7,Y⟩:=y_ (rA w bp s i et ex);rw[<- Y.o];have a3:=h.lt;have h0:=zy (show PAt (w.alloc (.cells #[O_,.int .u8 0,.nilIface,.pointer none] 194)) bp s i from E_ h _);have F0:=zy (show Fr w (w.alloc (.cells #[O_,.int .u8 0,.nilIface,.pointer none] 194)) (λx=>x=bp) from(A_ w _).alloc _);have B0:=zy (B_ w #[O_,.int .u8 0,.nilIface,.pointer none] 194);have b5:=zy (by simp:(w.alloc (.cells #[O_,.int .u8 0,.nilIface,.pointer none] 194)).heap.size=w.heap.size+1);have G0:=zy (hG.fr F0 (Ne.symm H));have b4:=zy hG;obtain⟨x,hx⟩:=x_ (bt s i);cases hsm:zl x with
 |false=>
  have a1:=zy (show zR s i=.error i by unfold zR;rw[hx,hsm];rfl);replace hsm:=zy (show zl (bt s i)=false by rw[hx];exact hsm);replace hx:=zy hx;go_in;go_wp2_with (first
   |(go_at_call 219;apply(xE h0 G0 H hs hi).mono;rintro e w1 ⟨a,b,ev,rfl,G,hm⟩;obtain⟨g,a0,rfl,m,h1⟩:∃g,(w.alloc (.cells #[O_,.int .u8 0,.nilIface,.pointer none] 194)).heap.size<=g/\ev=.iface 184 (P_ g)/\Blk w1 g [I_ i,.iface et ex] 186/\PAt w1 bp s i:=xl_;have z:=(G.bl B0 M_).alloc (.cells #[Z_ a,.int .u8 b] 191);obtain⟨r0,r1,r2,r3⟩:=z.d4;obtain⟨g0,g1,g2,g3⟩:=z.t4;replace z:=zy z;replace G:=zy G;replace m:=zy m;replace h1:=zy h1))
  have F:=Blk.four z (O_) (.int .u8 0) (.nilIface) (.pointer none);obtain⟨q0,q1,q2,q3⟩:=F.d4;refine bodyPost_ret (v:=.tuple #[.agg #[O_,.int .u8 0,.nilIface,.pointer none],.iface 184 (P_ g)]) xj_ rfl ?_;rw[Y.o];exact fL a1 (lo:=(w.alloc (.cells #[O_,.int .u8 0,.nilIface,.pointer none] 194)).heap.size) ⟨g,a0,rfl,m.o.alloc _⟩ ((F0.o.trans G u_).alloc _) (by rw[b5.o];omega) a3 (E_ h1 _) hi
 |true=>
  have a5:i+1<=s.size:=zp (xX (by rw[hx];exact hsm));have N:=zy (And.intro hx hsm);replace hsm:=zy (show zl (bt s i)=true by rw[hx];exact hsm);replace hx:=zy hx;go_in;go_upto_region 4 with(go_at_call 219;apply(xE h0 G0 H hs hi).mono;rintro e w1 ⟨a,b,ev,rfl,G,hm⟩;obtain⟨rfl,rfl,rfl,h1⟩:a=(i:Int)/\b=(x:Int)/\ev=.nilIface/\PAt w1 bp s (i+1):=xh_;have P1:=E_ h1 (.cells #[I_ i,U_ x] 191);have F1:=(F0.o.trans G u_).alloc (.cells #[I_ i,U_ x] 191);have G1:=b4.o.fr F1 (Ne.symm H);have L1:=B_ w1 #[I_ i,U_ x] 191;have z:=(G.bl B0 M_).alloc (.cells #[I_ i,U_ x] 191);have d6:=G.size;have b6:=zy (x7_:(w1.alloc (.cells #[I_ i,U_ x] 191)).heap.size=w1.heap.size+1);rw[b5.o]at d6;replace P1:=zy (show PAt _ bp s (i+1) from P1);revert F1 G1 L1 z;refine g_ λF1 G1 L1 z=>?_);by_cases B:bt s (i+1)=58;case neg=>
   have a1:=zy (show zR s i=.error (i+1) by unfold zR;rw[N.o.1,N.o.2,i_ rfl,n_ B]);replace B:=zy B;go_wp2_with (go_at_call 110;apply(yT 58 P1 G1 H hs a5 rfl D_).mono;rintro e X ⟨v2,rfl,C,hE⟩;obtain⟨g,a0,rfl,m,J⟩:∃g,(w1.alloc (.cells #[I_ i,U_ x] 191)).heap.size<=g/\v2=.iface 184 (P_ g)/\Blk X g [Z_ ((i+1:Nat):Int),.iface et ex] 186/\PAt X bp s (i+1):=(by rcases hE with⟨hq,_⟩|⟨_,⟨g,q1,q2,q3⟩,q4⟩;(exact absurd hq B);exact⟨g,q1,q2,q3,q4⟩);have A:=C.bl z M_;obtain⟨r0,r1,r2,r3⟩:=A.d4;obtain⟨g0,g1,g2,g3⟩:=A.t4;replace A:=zy A;replace C:=zy C;replace m:=zy m;replace J:=zy J);have F:=Blk.four A (O_) (.int .u8 0) (.nilIface) (.pointer none);obtain⟨q0,q1,q2,q3⟩:=F.d4;refine bodyPost_ret (v:=.tuple #[.agg #[O_,.int .u8 0,.nilIface,.pointer none],.iface 184 (P_ g)]) xj_ rfl ?_;rw[Y.o];exact fL a1 (lo:=(w1.alloc (.cells #[I_ i,U_ x] 191)).heap.size) ⟨g,a0,rfl,m⟩ (F1.o.trans C u_) (by rw[b6.o];omega) a3 J a5
  case pos=>
  have a6:i+2<=s.size:=zp (s:=s) (i:=i+1) M_;have a2:=xV (s:=s) a6;replace B:=zy B;go_upto_region 7 with(go_at_call 110;apply(yT 58 P1 G1 H hs a5 rfl D_).mono;rintro e X ⟨v2,rfl,C,hE⟩;obtain⟨rfl,J⟩:v2=.nilIface/\PAt X bp s (i+2):=(by rcases hE with⟨_,q1,q2,_⟩|⟨hq,_⟩;(exact⟨q1,q2⟩);exact absurd B.o hq);have G:=C.size;rw[b6.o]at G;have A:=C.bl z M_;have L2:=C.bl L1 M_;have F2:=F1.o.trans C u_;have G2:=zy (b4.o.fr F2 (Ne.symm H));replace A:=zy A;replace L2:=zy L2;replace F2:=zy F2;replace J:=zy J);cases hp:pT s (i+2) with
  |error k=>
   have a1:=zy (show zR s i=.error k by unfold zR;rw[N.o.1,N.o.2,i_ rfl,i_ B.o,hp]);replace hp:=zy hp;go_wp2_with (go_at_call 69;apply(kE hs _ (i+2) l_ a6 X bp et ex J G2 H).mono;rintro e u ⟨v3,b7,_,rfl,D,hm⟩;rw[hp.o]at hm;obtain⟨⟨g,a0,rfl,m⟩,p,l,Z⟩:=hm;have I:=D.bl A M_;obtain⟨r0,r1,r2,r3⟩:=I.d4;obtain⟨g0,g1,g2,g3⟩:=I.t4;replace I:=zy I;replace D:=zy D;replace m:=zy m;replace Z:=zy Z);have F:=Blk.four I (O_) (.int .u8 0) (.nilIface) (.pointer none);obtain⟨q0,q1,q2,q3⟩:=F.d4;refine bodyPost_ret (v:=.tuple #[.agg #[O_,.int .u8 0,.nilIface,.pointer none],.iface 184 (P_ g)]) xj_ rfl ?_;rw[Y.o];exact fL a1 (lo:=X.heap.size) ⟨g,a0,rfl,m⟩ (F2.o.trans D u_) M_ a3 Z l
  |ok r=>
  obtain⟨t,j⟩:=r;have hj:=a2.1 t j hp;replace hp:=zy hp;go_upto_region 11 with(go_at_call 69;apply(kE hs _ (i+2) l_ a6 X bp et ex J G2 H).mono;rintro e u ⟨v3,b7,b8,rfl,D,hm⟩;rw[hp.o]at hm;obtain⟨rfl,Z,a8⟩:=hm;obtain⟨p,q,rfl⟩:∃T x,v3=.iface T x:=(by cases a8<;>exact⟨_,_,rfl⟩);have z:=D.size;have I:=D.bl A M_;have A:=D.bl L2 M_;have C:=F2.o.trans D u_;have z:=A.c0;have l1:=A.c1;have z:=(A_ u N_).alloc (.cells #[I_ i,U_ x,.iface p q,.pointer none] 194);have a9:(u.alloc (.cells #[I_ i,U_ x,.iface p q,.pointer none] 194)).heap.size=u.heap.size+1:=x7_;have D4:=z.bl I id;have E4:=B_ u #[I_ i,U_ x,.iface p q,.pointer none] 194;have F4:=C.trans z v_;have P4:=z.bl Z id;have V4:=zy ((a8.mono (Q:=λg=>u.heap.size≠g/\w.heap.size<g/\w1.heap.size<g) (λg a0 m=>M_)).fr z u_);revert D4 E4 F4;refine h_ λD4 E4 F4=>?_;replace P4:=zy (show PAt _ bp s j from P4);replace a9:=zy a9);by_cases M:bt s j=61;case neg=>
   have a7:=zy (show zR s i=.ok (⟨x,i,t,none⟩,j) by unfold zR;rw[N.o.1,N.o.2,i_ rfl,i_ B.o,hp.o];simp only;rw[n_ M]);replace M:=zy M;go_wp2_with (go_at_call 111;apply(pS 61 P4 hs hj.2 rfl D_ M).mono;rintro e w5 ⟨rfl,l,R⟩;have E:=l.bl D4 M_;have E5:=l.bl E4 M_;obtain⟨r0,r1,r2,r3⟩:=E.d4;obtain⟨g0,g1,g2,g3⟩:=E.t4;obtain⟨e0,e1,e2,e3⟩:=E5.d4;revert l R E E5;refine g_ λl R E E5=>?_)
   have F:=Blk.four E (I_ i) (U_ x) (.iface p q) (.pointer none);obtain⟨q0,q1,q2,q3⟩:=F.d4;refine bodyPost_ret (v:=.tuple #[.agg #[I_ i,U_ x,.iface p q,.pointer none],.nilIface]) xj_ rfl ?_;rw[Y.o];have K:=Fr.four w5 w.heap.size (I_ i) (U_ x) (.iface p q) (.pointer none);refine⟨(i:Int),(x:Int),.iface p q,.pointer none,.nilIface,rfl,.inr ⟨_,_,rfl⟩,⟨_,rfl⟩,(F4.o.trans l u_).trans K (λy hy e=>M_),.inl ⟨⟨x,i,t,none⟩,j,rfl,K.bl R M_,hj.2,⟨rfl,rfl,?_,rfl⟩,.inl a7⟩⟩;exact((V4.o.fr l (λg hg e=>M_)).fr K (λg hg e=>M_)).mono (λg _ hg=>M_)
  case pos=>
   have d2:j+1<=s.size:=zp (s:=s) (i:=j) M_;have a7:=zy (show zR s i=(match pD s (j+1) 0 with|none=>.error s.size|some e=>.ok (⟨x,i,t,some (j+1,e)⟩,e)) by unfold zR;rw[N.o.1,N.o.2,i_ rfl,i_ B.o,hp.o];simp only;rw[i_ M];cases pD s (j+1) 0<;>rfl);replace M:=zy M;go_wp2_with (first
    |(go_at_call 111;apply(gD 61 P4 hs hj.2 rfl D_ M).mono;rintro e w5 ⟨rfl,l,R⟩;have m:=l.size;rw[a9.o]at m;have E:=l.bl D4 M_;have E5:=zy (l.bl E4 M_);revert l R E;refine h_ λl R E=>?_)
    |(go_at_call 233;apply(sE R hs d2).mono;rintro e w6 ⟨k6,O,a4,m,b9,m,rfl,C,U,B⟩;have m:=U.size;have D:=U.bl E M_;have z:=U.bl E5 M_;have d3:=z.cell 3;have m:=z.th 3;have A:=z.set 3 (P_ O);have V:Fr w6 (w6.setCell ⟨u.heap.size,3,none⟩ (P_ O)) (λg=>g=u.heap.size):=(A_ w6 (λg=>g=u.heap.size)).setCell ⟨u.heap.size,3,none⟩ _ (λ_=>rfl);have m:=V.bl D M_;obtain⟨r0,r1,r2,r3⟩:=m.f4;obtain⟨g0,g1,g2,g3⟩:=m.t4;obtain⟨e0,e1,e2,e3⟩:=A.f4;simp only[am_,an_,aa_,ab_]at d3 r0 r1 r2 r3 e0 e1 e2 e3;replace m:=zy m;replace A:=zy A;replace V:=zy V;replace U:=zy U;replace B:=zy B;replace C:=zy C;replace a4:=zy a4))
   have F:=Blk.four m (I_ i) (U_ x) (.iface p q) (P_ O);obtain⟨q0,q1,q2,q3⟩:=F.d4;refine bodyPost_ret (v:=.tuple #[.agg #[I_ i,U_ x,.iface p q,P_ O],.nilIface]) xj_ rfl ?_;rw[Y.o];have K:=Fr.four (w6.setCell ⟨u.heap.size,3,none⟩ (P_ O)) w.heap.size (I_ i) (U_ x) (.iface p q) (P_ O);have V7:=((((V4.o.fr l (λg hg e=>M_)).fr U (λg hg e=>M_)).fr V (λg hg e=>M_)).fr K (λg hg e=>M_)).mono (Q:=λg=>w.heap.size<=g) (λg _ hg=>M_);have P7:=K.bl (V.o.bl B M_) M_;have B7:=K.bl (V.o.bl C M_) M_;refine⟨(i:Int),(x:Int),.iface p q,P_ O,.nilIface,rfl,.inr ⟨_,_,rfl⟩,⟨_,rfl⟩,(((F4.o.trans l u_).trans U u_).trans V (λy hy e=>M_)).trans K (λy hy e=>M_),.inl ⟨⟨x,i,t,some (j+1,k6)⟩,k6,rfl,P7,b9,⟨rfl,rfl,V7,?_⟩,?_⟩⟩
   .exact⟨O,.nilIface,M_,rfl,.inl rfl,B7⟩
   .have hk:=a4.o;rw[a7.o];cases hd:pD s (j+1) 0 with
    |none=>rw[hd]at hk;exact .inr ⟨rfl,hk⟩
    |some e=>rw[hd]at hk;simp only[b5_]at hk;subst hk;exact .inl rfl
end Go.Proofs.YtlmebjdmdogmfaaGreatDoor
