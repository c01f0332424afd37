import Derived.Test.YtiifagiebikmdaaGreatDoorW28
import Derived.Test.YtiifagiebikmdaaGreatDoorA00
set_option maxHeartbeats 16000000
set_option maxRecDepth 100000
set_option linter.unusedSimpArgs false
open Go.Proofs.Tryz
namespace Go.Proofs.YtiifagiebikmdaaGreatDoor
open Go.RowKit
variable {v:Value}{fs:List PF}
section
variable {w:World} {P:Nat->Prop} {s:BA} {g:Nat} {cs:List Value} (hb:Blk w g cs 153) (x:Value)
theorem zfn (hb:Blk w g cs 153) (x:Value){b e k n:Nat}{xs:List Value}(ho:w.ownsRow b e k v n xs) (i:e≠153):(w.setCell ⟨g,2,none⟩ x).ownsRow b e k v n xs:=by
 refine za_ ho (Fr.one w ⟨g,2,none⟩ x) (λ g' a d=>?_);have f:g'=g:=d;subst f
 rcases ho.2 with⟨h,_⟩|⟨m,j,l,rfl,_,c,_⟩
 ·rw[h] at a;simp[Value.ownBlock] at a
 ·simp only[Value.ownBlock,ag_] at a;subst a;unfold Blk at hb;rw[hb] at c;simp only[ag_,Obj.cells.injEq] at c;exact i c.2.1.symm
theorem TyV.put (hb:Blk w g cs 153) (x:Value){t:PT}(h:TyV w P t v):TyV (w.setCell ⟨g,2,none⟩ x) P t v:=by
 induction h with
 | base c p h=>exact .base c p h
 | name c p h=>exact .name c p h
 | wrap c p h ih=>exact .wrap c p ih
 | alts p X ho hP h ih=>exact .alts p X (zfn hb x ho (by decide)) hP ih
theorem DfV.put (hb:Blk w g cs 153) (x:Value) (i:IfV x){o:Option (Nat×Nat)}{d:Value}(h:DfV w P s o d):DfV (w.setCell ⟨g,2,none⟩ x) P s o d:=by
 match o with
 | none=>exact h
 | some (a,e)=>
  obtain⟨g',j,h1,b,f,c⟩:=h
  by_cases hg:g'=g
  ·subst hg;exact⟨g',x,h1,b,i,c.set 2 x⟩
  ·exact⟨g',j,h1,b,f,c.other (a:=⟨g,2,none⟩) x hg⟩
theorem vu_.put (hb:Blk w g cs 153) (x:Value) (n:IfV x){ys:List Value}(h:vu_ w P s fs ys):vu_ (w.setCell ⟨g,2,none⟩ x) P s fs ys:=λ i f e=>by
 obtain⟨a,b,c,d,h1,k,l,m,j⟩:=h i f e;exact⟨a,b,c,d,h1,k,l,m,j.1,j.2.1,j.2.2.1.put hb x,j.2.2.2.put hb x n⟩
theorem j8_.put (hb:Blk w g cs 153) (x:Value) (a:IfV x){fv:Value}{ys:List Value}(h:j8_ w P s fs fv ys):j8_ (w.setCell ⟨g,2,none⟩ x) P s fs fv ys:=
 ⟨zfn hb x h.row (by decide),h.off,h.V.put hb x a⟩
theorem UnkV.put (hb:Blk w g cs 153) (x:Value){o:Option (Nat×Nat)}{d:Value}(h:UnkV w P o d):UnkV (w.setCell ⟨g,2,none⟩ x) P o d:=by
 match o with
 | none=>exact h
 | some (a,e)=>
  obtain⟨g',h1,i,b⟩:=h;refine⟨g',h1,i,b.other (a:=⟨g,2,none⟩) x (λ c=>?_)⟩;have f:g'=g:=c;subst f;unfold Blk at hb b;rw[hb] at b;simp only[ag_,Obj.cells.injEq] at b;exact absurd b.2.1 (by decide)
theorem vn_.put (hb:Blk w g cs 153) (x:Value) (a:IfV x){b:PB}(h:vn_ w P s b v):vn_ (w.setCell ⟨g,2,none⟩ x) P s b v:=by
 cases h with
 | recd p ho hP h=>exact .recd p (zfn hb x ho (by decide)) hP (h.put hb x a)
 | enum p ho hP h=>exact .enum p (zfn hb x ho (by decide)) hP (h.put hb x)
 | bytes p n=>exact .bytes p n
theorem DRow.put (hb:Blk w g cs 153) (x:Value) (j:IfV x){ds:List PD}{sv:Value}{xs:List Value}(h:DRow w P s ds sv xs):DRow (w.setCell ⟨g,2,none⟩ x) P s ds sv xs:=
 ⟨zfn hb x h.row (by decide),h.off,λ i d e=>by
  obtain⟨c,h1,a,b,f⟩:=h.V i d e
  exact⟨c,h1,a,b,f.put hb x j⟩,h.len⟩
end
theorem DRow.mono {w:World}{P Q:Nat->Prop}{s:BA}{ds:List PD}{sv:Value}{xs:List Value}(h:DRow w P s ds sv xs) (a:∀ g,g<w.heap.size->P g->Q g):DRow w Q s ds sv xs:=
 ⟨h.row,λ g e=>a g (h.row.lt g e).2 (h.off g e),h.V.mono a,h.len⟩
theorem zup {s:BA}{env:Nat->Option PB}{q:Nat}{f:PF}(h:fs[q]?=some f):(fs.drop q).flatMap (dfB s env)=dfB s env f++(fs.drop (q+1)).flatMap (dfB s env):=by
 have hl:=(as_.1 h).1;rw[a7_ hl,bl_,(as_.1 h).2]
def zvq (w:World) (P:Nat->Prop) (s:BA) (ds:List PD) (sv:Value) (xs:List Value) (nt:TypeId) (nx:Value) (L:List Nat) (e:Ending) (w':World):Prop:=
 ∃ v,e=.returned v/\Fr w w' P/\match L with | []=>v=.nilIface/\DRow w' P s ds sv xs/\(∀ t x,TyV w P t x->TyV w' P t x)|y::_=>∃ ev,yd_ w' w.heap.size v (y:Int) ev/\ErrD w' w.heap.size nt nx ev
structure RDM (w0 w:World) (P:Nat->Prop) (s:BA) (ds:List PD) (sv rv:Value) (xs:List Value) (fv:Value) (ys:List Value) (W:World):Prop where
 fr:Fr w W P
 D:DRow W P s ds sv xs
 F:j8_ W (λ g=>P g\/w.heap.size+1<=g) s (zf_ ds) fv ys
 B:Blk W w.heap.size [sv,rv] 85
 G:xd_ w0 W
 T:∀ t x,TyV w P t x->TyV W P t x
section
variable {w0 w W W':World} {P:Nat->Prop} {s:BA} {ds:List PD} {sv rv:Value} {xs:List Value} {fv:Value} {ys:List Value}
theorem RDM.new (M:RDM w0 w P s ds sv rv xs fv ys W) (hk:w0.heap.size<=w.heap.size) (a:Fr W W' (λ _=>False)):RDM w0 w P s ds sv rv xs fv ys W':=
 ⟨M.fr.trans a v_,M.D.fr a u_,M.F.fr a u_,a.blk M.B id,M.G.fr a (ai_ hk M.fr.size) (λ _ f=>f.elim),λ t x h=>(M.T t x h).fr a u_⟩
theorem RDM.put (M:RDM w0 w P s ds sv rv xs fv ys W) (hk:w0.heap.size<=w.heap.size) (f:∀ g,P g->w0.heap.size<=g){g:Nat}{cs:List Value}(hb:Blk W g cs 153) (hg:P g\/w.heap.size+1<=g) (x:Value) (d:IfV x):RDM w0 w P s ds sv rv xs fv ys (W.setCell ⟨g,2,none⟩ x):=by
 have j:w0.heap.size<=g:=by
  rcases hg with h|h
  ·exact f g h
  ·omega
 refine⟨M.fr.setCell ⟨g,2,none⟩ x (λ h=>?_),M.D.put hb x d,M.F.put hb x d,M.B.other (a:=⟨g,2,none⟩) x (λ e=>?_),M.G.fr (Fr.one W ⟨g,2,none⟩ x) (ai_ hk M.fr.size) (λ g' e=>?_),λ t i h=>(M.T t i h).put hb x⟩
 ·rcases hg with c|c
  ·exact c
  ·have:g<w.heap.size:=h;omega
 ·have b:w.heap.size=g:=e;have hB:=M.B;rw[b] at hB;unfold Blk at hb hB;rw[hb] at hB;simp only[ag_,Obj.cells.injEq] at hB;exact absurd hB.2.1 (by decide)
 ·have b:g'=g:=e;omega
end
theorem zdg {w0 w:World}{P:Nat->Prop}{s:BA}{ds:List PD}{sv:Value}{rT:TypeId}{rx:Value}{xs:List Value}{nt:TypeId}{nx:Value}(D:DRow w P s ds sv xs) (hG:xd_ w0 w) (hk:w0.heap.size<=w.heap.size) (b8:∀ g,P g->w0.heap.size<=g) (a4:∀ g,P g->g<w.heap.size) (hE:ErrV 3 w0 nt nx) (hs:s.size<=300) (e0:(zf_ ds).length<=300) (e2:∀ f∈zf_ ds,okT (zc_ ds) f.ty) (d6:j4_ ds) (hI:xr_ w0) (hQ:xs_ w0) (hN:zn1 w0) :
 Calls prog 53 #[.agg #[sv,.iface rT rx]] w (zvq w P s ds sv xs nt nx (zc4 s ds)):=by
 refine hq_ λ e5 Q_=>?_;obtain⟨r,u,rfl⟩:=zo_ D.row;have z:Fr w (w.alloc (.cells #[.slice r ds.length u,.iface rT rx] 85)) (λ _=>False):=(Fr.refl w _).alloc _
 have b6:(w.alloc (.cells #[.slice r ds.length u,.iface rT rx] 85)).heap.size=w.heap.size+1:=by simp
 have L:=zfl (rv:=.iface rT rx) (D.fr z u_) e0 (λ g hg=>a5_ (a4 g hg) z.size);rw[b6] at L;have a3:H_ (∀ w1 fv ys,Fr (w.alloc (.cells #[.slice r ds.length u,.iface rT rx] 85)) w1 (λ _=>False)->j8_ w1 (λ g=>P g\/w.heap.size+1<=g) s (zf_ ds) fv ys->RDM w0 w P s ds (.slice r ds.length u) (.iface rT rx) xs fv ys w1):=q_ (λ w1 fv ys R O=>⟨(z.mono v_).trans R v_,(D.fr z u_).fr R u_,O,R.blk (Blk.new w #[.slice r ds.length u,.iface rT rx] 85) id,(hG.fr z hk (λ _ f=>f.elim)).fr R (by omega) (λ _ f=>f.elim),λ t x h=>(h.fr z u_).fr R u_⟩);replace L:=q_ L;clear D z b6 hG
 go_in
 go_wp2_with (go_at_call 80;refine L.o.mono ?_;rintro e w1 ⟨fv,ys,rfl,a7,O⟩;have b:=a3.o w1 fv ys a7 O;obtain⟨fa,fc,rfl⟩:=zo_ O.row;replace b:=q_ b;clear a7 O)
 have b7:H_ (∃ q:Nat,Value.int .i64 0=.int .i64 (q:Int)/\q<=(zf_ ds).length/\(zf_ ds).length+1-q<=(zf_ ds).length+1/\RDM w0 w P s ds (.slice r ds.length u) (.iface rT rx) xs (.slice fa (zf_ ds).length fc) ys w1/\zc4 s ds=((zf_ ds).drop q).flatMap (dfB s (zc_ ds))):=q_ ⟨0,rfl,ak_ _,by omega,b.o,rfl⟩;clear b L a3
 go_loopg [10] ((zf_ ds).length+1) (λ m v W=>∃ q:Nat,v=.int .i64 (q:Int)/\q<=(zf_ ds).length/\(zf_ ds).length+1-q<=m/\RDM w0 w P s ds (.slice r ds.length u) (.iface rT rx) xs (.slice fa (zf_ ds).length fc) ys W/\zc4 s ds=((zf_ ds).drop q).flatMap (dfB s (zc_ ds)))
 case atStart=>exact b7.o
 case round=>
  clear b7;obtain⟨q,rfl,hq,hm,M,he⟩:=hrel
  by_cases Z:q<(zf_ ds).length
  ·have e1:(q:Int)<((zf_ ds).length:Int):=by omega
   have hd:(zf_ ds)[q]?=some (zf_ ds)[q]:=an_ Z;have a9:(zf_ ds)[q]∈zf_ ds:=a0_ Z;generalize (zf_ ds)[q]=f at hd a9;obtain⟨g,e6,d9⟩:=zh_ M.F.row (by omega);cases d9;obtain⟨T,x,d,c0,c1,c2,c3,hT,N⟩:=M.F.cells hd;rw[zup hd] at he;obtain⟨l,a8⟩:∃ l,f.letter=l:=⟨_,rfl⟩;obtain⟨pl,b4⟩:∃ p,f.place=p:=⟨_,rfl⟩;rw[a8] at c1;rw[b4] at c0;have e3:=e2 f a9;have A:=(Fr.refl wr (λ _=>False)).alloc (.cells #[.int .i64 (pl:Int),.int .u8 (l:Int),.iface T x,.pointer d] 149);have n:=Blk.new wr #[.int .i64 (pl:Int),.int .u8 (l:Int),.iface T x,.pointer d] 149;have b:=M.new hk A;clear a8 b4
   cases Y:f.dflt with
   | none=>
    rw[Y] at N
    have d0:d=none:=by
     have:Value.pointer d=.pointer none:=N;cases this;rfl
    subst d0;have d2:=q_ (show zc4 s ds=((zf_ ds).drop (q+1)).flatMap (dfB s (zc_ ds)) by rw[he];unfold dfB;rw[Y];rfl);replace b:=q_ b;clear N hT A n he M
    go_wp2_with fail
    go_roundg ((zf_ ds).length+1-(q+1))
    case measure=>omega
    case rel=>exact⟨q+1,rfl,Z,l_,b.o,d2.o⟩
   | some ae=>
    obtain⟨a,V⟩:=ae;rw[Y] at N;obtain⟨gd,xd,d8,b9,e8,a2⟩:=N;cases b9
    have a6:dfB s (zc_ ds) f=if (vp_ (zc_ ds) true f.ty (s.extract a V)).isSome=true then [] else [a]:=by unfold dfB;rw[Y]
    rw[a6] at he;have I:=A.blk a2 id;have e9:=A.size;have C:=A.drew;have H:=M.new hk C;have J:=zj6 (s:=s.extract a V) (P:=λ g=>(P g\/w.heap.size+1<=g)/\g<wr.heap.size) (rT:=rT) (rx:=rx) (H.D.mono (λ g _ h=>⟨.inl h,by have:=a4 g h;have:=M.fr.size;omega⟩)) ((hT.mono (Q:=λ g=>(P g\/w.heap.size+1<=g)/\g<wr.heap.size) (λ g h1 c=>⟨c,h1⟩)).fr C u_) H.G (ai_ hk H.fr.size) (λ g hg=>by have:=C.size;omega) hE (by rw[bb_];omega) e3 d6 hI hQ hN;have s0:=b.B.c0;have s1:=b.B.c1;have n2:=n.c2;have n3:=n.c3;have d1:=I.c1;have a5:=q_ (And.intro H (And.intro (C.blk a2 id) (And.intro n.drew J)));clear b I n J hT A a6 a2 M H C
    go_wp2_with fail
    obtain⟨b,I,n,J⟩:=a5.o;have d7:=q_ (show w.heap.size<=(wr.alloc (.cells #[.int .i64 (pl:Int),.int .u8 (l:Int),.iface T x,.pointer (some ⟨gd,0,none⟩)] 149)).drew.heap.size from b.fr.size);refine z9_ (λ W=>W.cell? ⟨w.heap.size,0,none⟩=some (.slice r ds.length u)/\W.cell? ⟨w.heap.size,1,none⟩=some (.iface rT rx)/\W.cell? ⟨wr.heap.size,2,none⟩=some (.iface T x)/\W.cell? ⟨wr.heap.size,3,none⟩=some (.pointer (some ⟨gd,0,none⟩))/\W.cell? ⟨gd,1,none⟩=some (.string (s.extract a V))) (by kernel_rfl) ?_;refine tA_ 0 rfl (by kernel_rfl) (λ _ _ _ h=>h) (by rintro W ⟨h1,c,i,j,k⟩;go_simp<;>rfl) ?_;refine tA_ 1 rfl (by kernel_rfl) (λ _ _ _ h=>h) (by rintro W ⟨h1,c,i,j,k⟩;go_simp<;>rfl) ?_;refine tA_ 2 rfl (by kernel_rfl) (λ _ _ _ h=>h) (by rintro W ⟨h1,c,i,j,k⟩;go_simp<;>rfl) ?_;refine tA_ 3 rfl (by kernel_rfl) (λ _ _ _ h=>h) (by rintro W ⟨h1,c,i,j,k⟩;go_simp<;>rfl) ?_;refine tA_ 4 rfl (by kernel_rfl) (λ _ _ _ h=>h) (by rintro W ⟨h1,c,i,j,k⟩;go_simp<;>rfl) ?_;refine tA_ 5 rfl (by kernel_rfl) (λ _ _ _ h=>h) (by rintro W ⟨h1,c,i,j,k⟩;go_simp<;>rfl) ?_;refine tA_ 6 rfl (by kernel_rfl) (λ _ _ _ h=>h) (by rintro W ⟨h1,c,i,j,k⟩;go_simp<;>rfl) ?_;refine tA_ 7 rfl (by kernel_rfl) (λ _ _ _ h=>h) (by rintro W ⟨h1,c,i,j,k⟩;go_simp<;>rfl) ?_;refine zu_ 8 rfl (by kernel_rfl) ⟨s0,s1,n2,n3,d1⟩ (λ K hK=>?_);go_simp;refine J.mono ?_;rintro e U ⟨v2,e7,rfl,S,a0⟩;refine hK _ _ ?_;clear hK K;have y:=b.new hk S;have N2:=S.blk n id;have E:=S.blk I id;have x0:=y.B.c0;have x1:=y.B.c1;have m2:=N2.c2;have m3:=N2.c3;obtain⟨b0,b1,b2⟩:=E.d3;have bg:=E.thaw 2;clear J b I n a5 s0 s1 n2 n3 d1 c0 c1 c2 c3;refine tA_ 9 rfl (by kernel_rfl) (λ _ _ _ h=>h) (by rintro W ⟨h1,c,i,j,k⟩;go_simp<;>rfl) ?_;refine tA_ 10 rfl (by kernel_rfl) (λ _ _ _ h=>h) (by rintro W ⟨h1,c,i,j,k⟩;go_simp<;>rfl) ?_;refine tA_ 11 rfl (by kernel_rfl) (λ _ _ _ h=>h) (by rintro W ⟨h1,c,i,j,k⟩;go_simp<;>rfl) ?_;refine tA_ 12 rfl (by kernel_rfl) (λ _ _ _ h=>h) (by rintro W ⟨h1,c,i,j,k⟩;go_simp<;>rfl) ?_;refine tA_ 13 rfl (by kernel_rfl) (λ _ _ _ h=>h) (by rintro W ⟨h1,c,i,j,k⟩;go_simp<;>rfl) ?_;refine z8_ (by kernel_rfl) ⟨x0,x1,m2,m3,b1⟩ ?_ _;replace y:=q_ y;replace E:=q_ E;replace S:=q_ S;clear x0 x1 m2 b1 N2
    by_cases a1:(vp_ (zc_ ds) true f.ty (s.extract a V)).isSome=true
    ·rw[if_pos a1] at a0 he;rw[ba_] at he;obtain⟨rfl,dT,dx,rfl⟩:=a0;replace he:=q_ he;clear b0 a1
     go_wp2_with fail
     go_roundg ((zf_ ds).length+1-(q+1))
     case measure=>omega
     case rel=>exact⟨q+1,rfl,Z,l_,y.o.put hk b8 E.o d8 (.iface dT dx) (.inr ⟨_,_,rfl⟩),he.o⟩
    ·rw[if_neg a1] at a0 he;obtain⟨rfl,X⟩:=a0;obtain⟨eT,ex,rfl⟩:=X.iface;replace he:=q_ he;replace X:=q_ X;clear b2 bg a1
     go_wp2_with (go_at_call 77;refine(vf_ (a:Int) _).mono ?_;rintro e w3 ⟨rfl,b5⟩;rw[b5];clear b5)
     try go_ret
     rw[Q_.o];have e4:=y.o.fr.size;have A3:Fr U (U.alloc (.cells #[.int .i64 (a:Int),.iface eT ex] 141)) (λ _=>False):=(Fr.refl U _).alloc _;refine⟨_,rfl,y.o.fr.trans A3 v_,?_⟩;rw[he.o];exact⟨.iface eT ex,⟨U.heap.size,e4,rfl,Blk.new U _ _⟩,(X.o.fr A3 u_).less (by have:=d7.o;omega)⟩
  ·have e1:¬ ((q:Int)<((zf_ ds).length:Int)):=by omega
   rw[bq_ (by omega),b0_] at he;replace he:=q_ he;replace M:=q_ M
   go_wp2_with fail
   try go_ret
   rw[Q_.o];refine⟨.nilIface,rfl,M.o.fr,?_⟩;rw[he.o];exact⟨rfl,M.o.D,M.o.T⟩
end Go.Proofs.YtiifagiebikmdaaGreatDoor
