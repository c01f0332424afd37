import Derived.Test.YtahhhgbojlkjnaaGreatDoorW11
set_option maxHeartbeats 16000000
set_option maxRecDepth 100000
set_option linter.defProp false
set_option linter.unusedSimpArgs false
open Go.Proofs.Tryz
namespace Go.Proofs.YtahhhgbojlkjnaaGreatDoor
open Go.RowKit
variable {P Q S:Au}{i:Nat}{d ex v a b c:Ax}{w' w5:Aw}{et:As}{o:Ac}{f:PF}{fs:Am}
def iS{s:BA}(hs:s.size<=300)(z:i<=s.size)(h1:¬zY (bt s i)=true)(r:¬(bt s i=91\/bt s i=123))(t:¬bt s i=40)(m:¬(65<=bt s i/\bt s i<=70)):vB s i:=by
 intro w bp et ex h y B;obtain⟨E,A⟩:=y_ (vP w bp s i et ex);rw[<- A.o];have g:=zy (And.intro h (A_ w (λx=>x=bp)));have C:=zy (Ji h1 r t m);obtain⟨x,hx⟩:=x_ (bt s i);rw[hx]at h1 r t m;have hn:H_ (zZ x=false):=zy (by
  cases hc:zZ x with
  |false=>rfl
  |true=>exact absurd yd_ m)
 simp only[zY,av_,beq_iff_eq,not_or]at h1;have E:x≠110/\x≠116/\x≠105/\x≠108/\x≠115/\x≠91/\x≠123/\x≠40:=M_;replace hx:=zy hx;replace y:=zy y;replace h:=zy h;go_in;go_wp2_with (first
  |(go_at_call 112;apply(yr g.o.1).mono;rintro e w' ⟨rfl,l⟩;rw[l])
  |(go_at_call 111;apply(yl g.o.1 hs z).mono;rintro e w' ⟨rfl,l⟩;rw[hx.o];replace g:=zy (And.intro (g.o.1.si l) (g.o.2.si l)))
  |(go_at_call 115;apply(yF g.o.1 hs z hx M_ D_).mono;rintro e w' ⟨rfl,r,m⟩;replace g:=zy (And.intro m (g.o.2.trans r u_)))
  |(go_at_call 110;apply(gh x _).mono;rintro e w' ⟨rfl,l⟩;rw[l,hn.o])
  |(go_at_call 74;apply(vz g.o.1 (y.o.fr g.o.2 (Ne.symm B))).mono;rintro e l ⟨v,rfl,u,q⟩;replace u:=zy u;replace q:=zy q))
 try go_ret
 rw[A.o];have D:=g.o.2.size;refine⟨.nilIface,v,.inl rfl,rfl,g.o.2.trans q v_,?_⟩;rw[C.o];exact⟨u.o.ls D,i,z,q.o.bl g.o.1 id⟩
def ng(w:Aw)(bp:Nat)(s:BA)(i d:Nat)(et:As)(ex:Ax)(e:Ah)(w':Aw):Prop:=
 ∃v ev,IfV v/\e=.returned (.tuple #[v,ev])/\Fr w w' (· = bp)/\
 match pT s i with
 | .ok (t,j)=>if bt s j=d then ev=.nilIface/\PAt w' bp s (j+1)/\TyV w' (λg=>w.heap.size<=g) t v else yq w' w.heap.size ev (j:Int) (.iface et ex)/\∃j,j<=s.size/\PAt w' bp s j
 | .error k=>yq w' w.heap.size ev (k:Int) (.iface et ex)/\∃j,j<=s.size/\PAt w' bp s j
def dD{w:Aw}{bp:Nat}{s:BA}{c:Int}(d:Nat)(H:vB s i)(h:PAt w bp s i)(m:pF w et ex)(B:bp≠0)(hs:s.size<=300)(J:i<=s.size)(hd:c=(d:Int))(I:0<d):Calls prog 116 #[P_ bp,.int .u8 c] w (ng w bp s i d et ex):=by
 subst hd;obtain⟨N,u⟩:=y_ (ng w bp s i d et ex);rw[<- u.o];have D:=zy (H w bp et ex h m B);have A:=xR (s:=s) J;cases hp:pT s i with
 |error k=>
  replace hp:=zy hp;replace m:=zy m;go_in;go_wp2_with (go_at_call 73;apply D.o.mono;rintro e w1 ⟨v,F,_,rfl,l,hm⟩;rw[hp.o]at hm;obtain⟨⟨g,x,rfl,q⟩,z,y,h1⟩:=hm;replace l:=zy l;replace h1:=zy h1;replace q:=zy q);try go_ret
  rw[u.o];refine⟨.nilIface,_,.inl rfl,rfl,l,?_⟩;rw[hp.o];exact⟨⟨g,x,rfl,q⟩,z,y,h1⟩
 |ok r=>
  obtain⟨t,j⟩:=r;have E:=A.1 t j hp;have H:=h.lt;replace hp:=zy hp;replace m:=zy m;go_in;go_wp2_with (first
   |(go_at_call 73;apply D.o.mono;rintro e w1 ⟨v,F,z,rfl,l,hm⟩;rw[hp.o]at hm;obtain⟨rfl,h1,C⟩:=hm;replace z:=zy z;replace l:=zy l;replace h1:=zy h1;replace C:=zy C)
   |(go_at_call 114;apply(yO d h1 (m.o.fr l (Ne.symm B)) B hs E.2 rfl I).mono;rintro e m ⟨M,rfl,q,y⟩;replace q:=zy q;replace y:=zy y))
  try go_ret
  rw[u.o];have K:=l.o.size;refine⟨v,M,z,rfl,l.o.trans q u_,?_⟩;rw[hp.o];rcases y.o with⟨hb,rfl,x,_⟩|⟨hb,G,x⟩
  .show(if bt s j=d then _ else _);rw[i_ hb];exact⟨rfl,x,C.o.fr q (λg hg e=>M_)⟩
  .show(if bt s j=d then _ else _);rw[n_ hb];exact⟨G.ls K,j,E.2,x⟩
def cq4_{p:Prop}(h:p:=by
 intro w bp et ex h A C;obtain⟨M,E⟩:=y_ (vP w bp s i et ex);rw[<- E.o];have l:=zy (And.intro h (A_ w (λx=>x=bp)));have H:i<s.size:=zr M_;have K:=zy (nA (s:=s) (i:=i) M_);have N:=h.lt;replace hx:=zy hx;replace A:=zy A;replace h:=zy h;replace hT:=zy hT;go_in;go_wp2_with (first
  |(go_at_call 112;apply(yr l.o.1).mono;rintro e w' ⟨rfl,z⟩;rw[z])
  |(go_at_call 111;apply(yl l.o.1 hs hi).mono;rintro e w' ⟨rfl,z⟩;rw[hx.o];replace l:=zy (And.intro (l.o.1.si z) (l.o.2.si z));clear z)
  |(go_at_call 115;apply(yG l.o.1 hs hi hx.o D_ D_).mono;rintro e w' ⟨rfl,y,u⟩;have q:=zy (And.intro u (l.o.2.trans y u_));clear y u)
  |(go_at_call 115;apply(yF l.o.1 hs hi hx.o D_ D_).mono;rintro e w' ⟨rfl,y,u⟩;replace l:=zy (And.intro u (l.o.2.trans y u_));clear y u)
  |(go_at_call 116;(first|(have:=cc1;apply(dD 125 hT.o q.o.1 (A.o.fr q.o.2 (Ne.symm C)) C hs H rfl D_).mono)|(apply(dD 93 hT.o q.o.1 (A.o.fr q.o.2 (Ne.symm C)) C hs H rfl D_).mono));rintro e U ⟨v,F,J,rfl,B,hm⟩;replace B:=zy B;replace hm:=zy hm;rcases J with rfl|⟨O,R,rfl⟩))
 all_goals
  try go_ret
  rw[E.o];have D:=q.o.2.size;(first|(have:=cc1;refine⟨.iface (qB 123) (.agg #[I_ i,_]),F,.inr ⟨_,_,rfl⟩,rfl,q.o.2.trans B.o u_,?_⟩)|(refine⟨.iface (qB 91) (.agg #[I_ i,_]),F,.inr ⟨_,_,rfl⟩,rfl,q.o.2.trans B.o u_,?_⟩));rw[K.o];have m:=hm.o;cases hp:pT s (i+1) with
  |error k=>
   rw[hp]at m;exact⟨m.1.ls D,m.2⟩
  |ok r=>
   obtain⟨t,j⟩:=r;rw[hp]at m;simp only at m⊢;rw[hx.o];(first|(have:=cc1;by_cases hb:bt s j=125)|(by_cases hb:bt s j=93))
   .rw[i_ hb]at m;(first|(have:=cc1;rw[show xl 123=125 from rfl,i_ hb])|(rw[show xl 91=93 from rfl,i_ hb]));obtain⟨rfl,G,I⟩:=m;(first|(have:=cc1;exact⟨rfl,G,.wrap 123 i (I.mono (λg _ hg=>ai_ D hg))⟩)|(exact⟨rfl,G,.wrap 91 i (I.mono (λg _ hg=>ai_ D hg))⟩))
   .rw[n_ hb]at m;(first|(have:=cc1;rw[show xl 123=125 from rfl,n_ hb])|(rw[show xl 91=93 from rfl,n_ hb]));exact⟨m.1.ls D,m.2⟩):p:=h
def Ki{s:BA}(hs:s.size<=300)(hi:i<=s.size)(hx:bt s i=91)(hT:vB s (i+1)):vB s i:=by
 exact cq4_
def Jp{s:BA}(hs:s.size<=300)(hi:i<=s.size)(hx:bt s i=123)(hT:vB s (i+1)):vB s i:=by
 have cc1:=Nat
 exact cq4_
structure UM(w:Aw)(bp:Nat)(s:BA)(j:Nat)(p:Int)(sv:Ax)(ds:Af)(X:Cx)(W:Aw):Prop where
 here:PAt W bp s j
 fr:Fr w W (· = bp)
 lt:bp<w.heap.size
 hB:w.heap.size+1<=W.heap.size
 b:Blk W w.heap.size [Z_ p,sv] 205
 row:W.ownsRow (w.heap.size+1) 63 1 sv ds.length ((List.range ds.length).map X)
 ty:∀i t,ds[i]?=some t->TyV W (λg=>w.heap.size+1<=g/\sv.ownBlock≠some g) t (X i)
section
variable {w W W':Aw} {bp:Nat} {s:BA} {j j':Nat} {p:Int} {sv:Ax} {ds:Af} {X:Cx}
def UM.call(M:UM w bp s j p sv ds X W)(h:PAt W' bp s j')(l:Fr W W' (· = bp)):UM w bp s j' p sv ds X W':=by
 have:=M.lt;exact⟨h,M.fr.trans l u_,M.lt,ai_ M.hB l.size,l.bl M.b M_,zk M.row l (λg hg e=>by have:=M.row.lt g hg;omega),λi t e=>(M.ty i t e).fr l (λg hg e=>M_)⟩
def UM.item(M:UM w bp s j p sv ds X W){o:Cj}{m:Ax}{t:PT}(hg:(W.alloc o).grownBy w5 sv.ownBlock)(ho:w5.ownsRow (w.heap.size+1) 63 1 m (ds.length+1) ((List.range ds.length).map X++[v]))(hl:m.ownBlock=sv.ownBlock\/m.ownBlock=some (W.alloc o).heap.size)(E:TyV W (λg=>w.heap.size+1<=g/\sv.ownBlock≠some g) t v):UM w bp s j p m (ds++[t]) (λi=>if i<ds.length then X i else v) (w5.setCell ⟨w.heap.size,1,none⟩ m):=by
 have l:=M.lt;have D:=M.hB;have z:Fr W w5 (λg=>sv.ownBlock=some g):=T_ ((A_ W _).alloc o) hg (λk e _=>e);have hn:∀g,m.ownBlock=some g->w.heap.size+1<=g/\(sv.ownBlock=some g\/W.heap.size<=g):=λg l=>by
  rcases hl with e|e
  .exact⟨(M.row.lt g (e▸l)).1,.inl (e▸l)⟩
  .rw[e]at l;simp only[ae_]at l;have:(W.alloc o).heap.size=W.heap.size+1:=x8_
   exact⟨M_,.inr M_⟩
 have A:Fr w5 (w5.setCell ⟨w.heap.size,1,none⟩ m) (λg=>g=w.heap.size):=(A_ w5 (λg=>g=w.heap.size)).setCell ⟨w.heap.size,1,none⟩ m (λ_=>rfl);have y:Fr W (w5.setCell ⟨w.heap.size,1,none⟩ m) (λg=>sv.ownBlock=some g\/g=w.heap.size):=(z.mono (λ_ _ e=>.inl e)).trans A (λ_ _ e=>.inr e);have C:=z.bl M.b (λe=>by have:=M.row.lt _ e;omega);have B:∀{u x},TyV W (λg=>w.heap.size+1<=g/\sv.ownBlock≠some g) u x->TyV (w5.setCell ⟨w.heap.size,1,none⟩ m) (λg=>w.heap.size+1<=g/\m.ownBlock≠some g) u x:=λhx=>
  ((hx.mono (Q:=λg=>(w.heap.size+1<=g/\sv.ownBlock≠some g)/\g<W.heap.size) (λ_ h1 z=>⟨z,h1⟩)).fr y (λg l e=>by
    rcases e with e|e
    .exact l.1.2 e
    .have:=l.1.1;omega)).mono (λg _ l=>⟨l.1.1,λe=>by
    rcases(hn g e).2 with q|q
    .exact l.1.2 q
    .have:=l.2;omega⟩)
 refine⟨y.bl M.here (λe=>?_),M.fr.trans y (λx hx e=>?_),M.lt,ai_ D y.size,C.set 1 m,?_,λi u hu=>?_⟩
 .rcases e with e|e
  .have:=M.row.lt _ e;omega
  .omega
 .rcases e with e|e
  .have:=M.row.lt _ e;omega
  .omega
 .rw[ah_,ap_,bt_,bh_,aw_,a5_,n_ (b2_ _)];have e:(List.range ds.length).map (λi=>if i<ds.length then X i else v)=(List.range ds.length).map X:=List.map_congr_left (λi r=>by rw[i_ (List.mem_range.1 r)]);rw[e];exact zk ho A (λg l e=>by have:=hn g l;omega)
 .by_cases r:i<ds.length
  .rw[ay_ r]at hu;simp only[r,if_true];exact B (M.ty i u hu)
  .rw[ax_ M_]at hu;have h0:i-ds.length=0:=by
    rcases b6_ (i-ds.length) with h|h
    .exact h
    .rw[bq_ x4_]at hu;cases hu
   rw[h0]at hu;simp only[aa_,ae_]at hu;subst hu;simp only[r,if_false];exact B E
def UM.ie(M:UM w bp s j p sv ds X W){o:Cj}(hg:(W.alloc o).grownBy w5 sv.ownBlock):w5.cell? ⟨w.heap.size,1,none⟩=some sv/\w5.frozen? ⟨w.heap.size,1,none⟩=false:=by
 have l:Fr W w5 (λg=>sv.ownBlock=some g):=T_ ((A_ W _).alloc o) hg (λk e _=>e);have h:=l.bl M.b (λe=>by have:=M.row.lt _ e;omega);exact⟨h.cell 1,h.th 1⟩
def UM.alts(M:UM w bp s j p sv ds X W)(i:Nat)(hp:p=(i:Int)):TyV W (λg=>w.heap.size<=g) (.alts i ds) (.iface 205 (.agg #[Z_ p,sv])):=by
 subst hp;exact .alts i X (yP M.row) (λg e=>by have:=M.row.lt g e;omega) (λk t e=>(M.ty k t e).mono (λg _ hg=>by have:=hg.1;omega))
end
def Gu:Tryz.prog.underlying 203=some (.slice 63):=K_
def Bq:(Tryz.prog.info? 63).map (λi=>(i.zero,i.size,i.bytes))=some (some .nilIface,1,16):=K_
def QP(w:Aw)(bp:Nat)(s:BA)(i p:Nat)(et:As)(ex:Ax)(e:Ah)(w':Aw):Prop:=
 ∃v ev,IfV v/\e=.returned (.tuple #[v,ev])/\Fr w w' (· = bp)/\
 match pA s i with
 | .ok (ts,j)=>if bt s j=41 then ev=.nilIface/\PAt w' bp s (j+1)/\TyV w' (λg=>w.heap.size<=g) (.alts p ts) v else yq w' w.heap.size ev (j:Int) (.iface et ex)/\∃j,j<=s.size/\PAt w' bp s j
 | .error k=>yq w' w.heap.size ev (k:Int) (.iface et ex)/\∃j,j<=s.size/\PAt w' bp s j
def Bd(w:Aw)(bp:Nat)(s:BA)(i:Nat)(p:Int)(m:Nat)(W:Aw):Prop:=
 ∃j sv ds X,UM w bp s j p sv ds X W/\j<=s.size/\i+ds.length<=j/\s.size+1-j<=m/\pA s i=bA ds (pA s j)
def VU{w:Aw}{bp:Nat}{s:BA}{p:Int}(h:PAt w bp s i):UM w bp s i p (L_) [] (λ_=>.nilIface) (w.alloc (.cells #[Z_ p,L_] 205)):=
 ⟨h.alloc _,(A_ w _).alloc _,h.lt,by simp,B_ w _ _,World.ownsRow_nil _ _ _ _,λi t h=>by simp at h⟩
def oc{w:Aw}{bp:Nat}{s:BA}{p:Nat}(hT:∀j,i<=j->j<=s.size->vB s j)(h:PAt w bp s i)(R:pF w et ex)(a1:bp≠0)(hs:s.size<=300)(hi:i<=s.size):Calls prog 117 #[P_ bp,I_ p] w (QP w bp s i p et ex):=by
 obtain⟨b8,Q_⟩:=y_ (QP w bp s i p et ex);rw[<- Q_.o];have b4:=zy (show Bd w bp s i (p:Int) (s.size+1) (w.alloc (.cells #[I_ p,L_] 205)) from⟨i,_,[],_,VU h,hi,by simp,M_,(tA _).symm⟩);replace R:=zy R;replace hT:=zy hT;go_in;go_wp2;go_loopg [] (s.size+1) (λm W=>Bd w bp s i (p:Int) m W);case atStart=>exact b4
 case round=>
  obtain⟨j,sv,ds,X,M,hj,d6,hm,q⟩:=hrel;obtain⟨sa,sc,rfl⟩:=zh M.row;have d1:ds.length<=300:=M_;have hC:=zy (hT.o j M_ hj wr bp et ex M.here (R.o.fr M.fr (Ne.symm a1)) a1);have b7:=M.fr.size;have b9:=M.hB;have a2:=xR (s:=s) hj;rw[sh s j hj]at q;cases hp:pT s j with
  |error k=>
   rw[hp]at q;replace q:=zy q;replace hp:=zy hp;replace M:=zy M;go_wp2_with (go_at_call 73;apply hC.o.mono;rintro e w1 ⟨v,ev,_,rfl,A,hm⟩;rw[hp.o]at hm;obtain⟨⟨g,u,rfl,l⟩,B,z,h1⟩:=hm;replace A:=zy A;replace h1:=zy h1;replace l:=zy l);try go_ret
   rw[Q_.o];refine⟨.nilIface,_,.inl rfl,rfl,M.o.fr.trans A u_,?_⟩;rw[q.o];exact⟨⟨g,ai_ b7 u,rfl,l⟩,B,z,h1⟩
  |ok r=>
   obtain⟨t,u⟩:=r;have V:=a2.1 t u hp;rw[hp]at q;simp only at q;obtain⟨ti,a5,a6,a7,a8⟩:=info_parts Bq;replace hp:=zy hp;replace M:=zy M;by_cases I:bt s u=44
   .rw[i_ I,mL]at q;replace q:=zy q;have B:u<s.size:=zr M_;replace I:=zy I;go_wp2_with (first
     |(go_at_call 73;apply hC.o.mono;rintro e w1 ⟨v,ev,_,rfl,A,hm⟩;rw[hp.o]at hm;obtain⟨rfl,h1,G⟩:=hm;obtain⟨J,N,rfl⟩:∃T x,v=.iface T x:=(by cases G<;>exact⟨_,_,rfl⟩);have l:=M.o.call h1 A;have a4:=zy (G.mono (Q:=λg=>w.heap.size+1<=g/\(Value.slice sa ds.length sc).ownBlock≠some g) (λg _ hg=>⟨M_,λe=>by have:=M.o.row.lt g e;omega⟩));have t1:=l.b.c1;have b5:=l.hB;replace l:=zy l)
     |(at_builtin;go_must (refine wpList_append_own_at _ rfl _ _ 203 rfl (w.heap.size+1) 63 ti _ 1 16 Gu a5 a6 a7 a8 rfl D_ (.slice sa ds.length sc) ds.length ((List.range ds.length).map X) rfl ?hown _ 1 1 [.iface J N] rfl rfl (zL _ #[.iface J N] _ _ ?nn) ?one ?b1 ?b2 ?b3 ?_)
       case hown=>exact World.ownsRow.alloc l.o.row _
       case nn=>simp
       case one=>simp[Value.oneCell']
       case b1=>unfold maxLen;omega
       case b2=>omega
       case b3=>simp;omega
       intro v5 w5 F E a3 Y
       have z:=l.o.item E F Y a4
       obtain⟨e5,f5⟩:=l.o.ie E
       obtain⟨g5,a0,rfl⟩:=zu F M_
       replace z:=zy z)
     |(go_at_call 115;apply(yG z.o.here hs V.2 I D_ D_).mono;rintro e Z ⟨rfl,U,O⟩;have H:=zy (z.o.call O U)))
    go_roundg (s.size+1-(u+1));case measure=>omega
    case rel=>exact⟨u+1,_,ds++[t],_,H,B,by rw[ah_,ap_];omega,l_,q⟩
   .rw[n_ I]at q;obtain⟨y,hy⟩:=x_ (bt s u);rw[hy]at I;replace hy:=zy hy;replace q:=zy q;go_wp2_with (first
     |(go_at_call 73;apply hC.o.mono;rintro e w1 ⟨v,ev,_,rfl,A,hm⟩;rw[hp.o]at hm;obtain⟨rfl,h1,G⟩:=hm;obtain⟨J,N,rfl⟩:∃T x,v=.iface T x:=(by cases G<;>exact⟨_,_,rfl⟩);have l:=M.o.call h1 A;have a4:=zy (G.mono (Q:=λg=>w.heap.size+1<=g/\(Value.slice sa ds.length sc).ownBlock≠some g) (λg _ hg=>⟨M_,λe=>by have:=M.o.row.lt g e;omega⟩));have t1:=l.b.c1;have b5:=l.hB;replace l:=zy l)
     |(at_builtin;go_must (refine wpList_append_own_at _ rfl _ _ 203 rfl (w.heap.size+1) 63 ti _ 1 16 Gu a5 a6 a7 a8 rfl D_ (.slice sa ds.length sc) ds.length ((List.range ds.length).map X) rfl ?hown _ 1 1 [.iface J N] rfl rfl (zL _ #[.iface J N] _ _ ?nn) ?one ?b1 ?b2 ?b3 ?_)
       case hown=>exact World.ownsRow.alloc l.o.row _
       case nn=>simp
       case one=>simp[Value.oneCell']
       case b1=>unfold maxLen;omega
       case b2=>omega
       case b3=>simp;omega
       intro v5 w5 F E a3 Y
       have z:=l.o.item E F Y a4
       obtain⟨e5,f5⟩:=l.o.ie E
       obtain⟨g5,a0,rfl⟩:=zu F M_
       replace z:=zy z)
     |(go_at_call 115;apply(yF z.o.here hs V.2 hy M_ D_).mono;rintro e Z ⟨rfl,U,O⟩;have H:=zy (z.o.call O U)))
    have u0:=H.o.b.c0;have u1:=H.o.b.c1;have l:zw Z Z.drew:=zw.drew Z;have C:=H.o.call (H.o.here.si l) ((A_ Z _).si l);have l:=zy (yO (c:=41) 41 C.here (R.o.fr C.fr (Ne.symm a1)) a1 hs V.2 rfl D_);replace C:=zy C;refine tr_ 5 (λW=>z_ W w.heap.size 0 (I_ p)/\z_ W w.heap.size 1 (S_ g5 (ds.length+1) a0)) ?_;refine tz_ 0 ?_;refine tz_ 1 ?_;refine tz_ 2 ?_;refine yz 3 rfl K_ (λ_=>⟨u0,u1⟩) (λK hK=>?_);go_simp;apply l.o.mono;rintro e w8 ⟨v8,rfl,l,hE⟩;refine hK _ _ ?_;have B:∃z,z<=s.size/\UM w bp s z (p:Int) (S_ g5 (ds.length+1) a0) (ds++[t]) (λi=>if i<ds.length then X i else .iface J N) w8:=by
     rcases hE with⟨_,_,D,a9⟩|⟨_,_,D⟩
     .exact⟨u+1,a9,C.o.call D l⟩
     .exact⟨u,V.2,C.o.call D l⟩
    obtain⟨z,z,B⟩:=B;have z:=B.b.c0;have A:=B.b.c1;refine t1_ 4 ⟨z,A⟩ ?_;refine t1_ 5 ⟨z,A⟩ ?_;refine td_ ?_ _;revert l hE B;refine h_ λl hE B=>?_;go_wp2;try go_ret
    rw[Q_.o];refine⟨.iface 205 (.agg #[I_ p,(S_ g5 (ds.length+1) a0)]),v8,.inr ⟨_,_,rfl⟩,rfl,B.o.fr,?_⟩;rw[q.o];show(if bt s u=41 then _ else _);have b6:=C.o.fr.size;rcases hE.o with⟨hb,rfl,D,a9⟩|⟨hb,hF,D⟩
    .rw[i_ hb];exact⟨rfl,D,B.o.alts p rfl⟩
    .rw[n_ hb];exact⟨hF.ls b6,u,V.2,D⟩
def Ke{s:BA}(hs:s.size<=300)(F:i<=s.size)(hx:bt s i=40)(D:∀j,i<j->j<=s.size->vB s j):vB s i:=by
 intro w bp et ex h B I;obtain⟨O,H⟩:=y_ (vP w bp s i et ex);rw[<- H.o];have m:=zy (And.intro h (A_ w (λx=>x=bp)));have K:i<s.size:=zr M_;have M:=zy (Yx (s:=s) (i:=i) hx);replace hx:=zy hx;replace B:=zy B;replace h:=zy h;replace D:=zy D;go_in;go_wp2_with (first
  |(go_at_call 112;apply(yr m.o.1).mono;rintro e w' ⟨rfl,y⟩;rw[y])
  |(go_at_call 111;apply(yl m.o.1 hs F).mono;rintro e w' ⟨rfl,y⟩;rw[hx.o];replace m:=zy (And.intro (m.o.1.si y) (m.o.2.si y)))
  |(go_at_call 115;apply(yG m.o.1 hs F hx D_ D_).mono;rintro e w' ⟨rfl,u,t⟩;have z:=zy (And.intro t (m.o.2.trans u u_)))
  |(go_at_call 115;apply(yF m.o.1 hs F hx D_ D_).mono;rintro e w' ⟨rfl,u,t⟩;replace m:=zy (And.intro t (m.o.2.trans u u_)))
  |(go_at_call 117;apply(oc (p:=i) (λj h1 A=>D.o j M_ A) z.o.1 (B.o.fr z.o.2 (Ne.symm I)) I hs K).mono;rintro e m ⟨v,J,C,rfl,E,hm⟩;replace E:=zy E;replace hm:=zy hm;replace C:=zy C))
 try go_ret
 rw[H.o];have G:=z.o.2.size;refine⟨v,J,C,rfl,z.o.2.trans E u_,?_⟩;rw[M.o];have q:=hm.o;cases hp:pA s (i+1) with
 |error k=>
  rw[hp]at q;exact⟨q.1.ls G,q.2⟩
 |ok r=>
  obtain⟨l,j⟩:=r;rw[hp]at q;simp only at q⊢;by_cases hb:bt s j=41
  .rw[i_ hb]at q⊢;obtain⟨rfl,A,N⟩:=q;exact⟨rfl,A,N.mono (λg _ hg=>ai_ G hg)⟩
  .rw[n_ hb]at q⊢;exact⟨q.1.ls G,q.2⟩
def wY{s:BA}(hs:s.size<=300):∀(n i:Nat),s.size-i<=n->i<=s.size->vB s i:=by
 intro n;induction n with
 |zero=>
  intro i hn e;have h0:bt s i=0:=pZ M_;exact iS hs e zu_ zu_ zu_ zu_
 |succ n ih=>
  intro i hn e;have next:i<s.size->∀j,i<j->j<=s.size->vB s j:=λ_ j h1 g=>ih j M_ g;by_cases h1:zY (bt s i)=true
  .have l:=h1;simp only[zY,av_,beq_iff_eq]at l;rcases l with(((h|h)|h)|h)|h
   .exact Jm hs e h
   .exact Jb hs e h
   .exact Jl hs e h
   .exact Jc hs e h
   .exact Ju hs e h
  .by_cases g:bt s i=91\/bt s i=123
   .have l:i<s.size:=zr M_;rcases g with g|g
    .exact Ki hs e g (next l (i+1) M_ l)
    .exact Jp hs e g (next l (i+1) M_ l)
   .by_cases l:bt s i=40
    .exact Ke hs e l (next (zr M_))
    .by_cases m:65<=bt s i/\bt s i<=70
     .exact Xx hs e (by simp[zZ];omega)
     .exact iS hs e h1 g l m
def rJ(w:Aw)(bp:Nat)(s:BA)(i:Nat)(et:As)(ex:Ax)(e:Ah)(w':Aw):Prop:=
 ∃(a:Int) (b:Int) (ev:Value),e=.returned (.tuple #[.agg #[Z_ a,.int .u8 b],ev])/\Fr w w' (· = bp)/\
  ((zt (bt s i)=true/\a=(i:Int)/\b=(bt s i:Int)/\ev=.nilIface/\PAt w' bp s (i+1)/\i<s.size)\/(zt (bt s i)=false/\yq w' w.heap.size ev (i:Int) (.iface et ex)/\PAt w' bp s i))
def cwxI1_{p:Prop}(h:p:=by
 (first|(have:=cc1;have n1:¬((x:Int)<97):=M_;have n2:(122:Int)<(x:Int):=M_)|(have n1:(x:Int)<97:=M_));go_in;go_wp2_with (first
  |(go_at_call 112;apply(yr h0.o).mono;rintro e w' ⟨rfl,hw'⟩;rw[hw'];clear hw')
  |(go_at_call 111;apply(yl h0.o hs hi).mono;rintro e w1 ⟨rfl,hw1⟩;rw[hx.o];have h1:=h0.o.si hw1;have F1:=(A_ (w.alloc (.cells #[O_,.int .u8 0] 182)) (λg=>g=bp)).si hw1;have D0:=F1.bl B0.o M_;have P1:=F_ h1 (.cells #[I_ i,U_ x] 182);have D1:=D0.alloc (.cells #[I_ i,U_ x] 182);have G1:=zy ((hG.o.fr (F0.o.trans F1 u_) (Ne.symm hne)).fr ((A_ w1 N_).alloc (.cells #[I_ i,U_ x] 182)) id);revert F1 P1 D1;refine h_ λF1 P1 D1=>?_;clear D0 h1)
  |(go_at_call 74;apply(vz P1.o G1.o).mono;rintro e w2 ⟨v,rfl,hF,hf2⟩;have D2:=hf2.bl D1.o id;have r0:=D2.c0;have r1:=D2.c1;have g0:=D2.th 0;have g1:=D2.th 1;revert hF hf2 D2;refine h_ λhF hf2 D2=>?_))
 have S2:=(D2.o.set 0 (O_)).set 1 (.int .u8 0);have q0:=S2.cell 0;have q1:=S2.cell 1;simp only[an_,ao_,aa_,ab_]at q0 q1;refine bodyPost_ret (v:=.tuple #[.agg #[O_,.int .u8 0],v]) yb_ rfl ?_;rw[Q_.o];exact fin.o w2 v w1 hF.o hf2.o P1.o F1.o):p:=h
def xI{w:Aw}{bp:Nat}{s:BA}(h:PAt w bp s i)(hG:pF w et ex)(hne:bp≠0)(hs:s.size<=300)(hi:i<=s.size):Calls prog 165 #[P_ bp] w (rJ w bp s i et ex):=by
 obtain⟨q,Q_⟩:=y_ (rJ w bp s i et ex);rw[<- Q_.o];have q:=h.lt;have h0:=zy (show PAt (w.alloc (.cells #[O_,.int .u8 0] 182)) bp s i from F_ h _);have F0:=zy (show Fr w (w.alloc (.cells #[O_,.int .u8 0] 182)) (λx=>x=bp) from(A_ w _).alloc _);have B0:=zy (B_ w #[O_,.int .u8 0] 182);obtain⟨x,hx⟩:=x_ (bt s i);replace hG:=zy hG;replace h:=zy h;cases l:zt x with
 |true=>
  have hr:97<=x/\x<=122:=by simpa[zt] using l
  have r:i<s.size:=zr M_;have n1:¬((x:Int)<97):=M_;have n2:¬((122:Int)<(x:Int)):=M_;replace hx:=zy hx;replace l:=zy l;go_in;go_wp2_with (first
   |(go_at_call 112;apply(yr h0).mono;rintro e w' ⟨rfl,hw'⟩;rw[hw'])
   |(go_at_call 111;apply(yl h0 hs hi).mono;rintro e w1 ⟨rfl,hw1⟩;rw[hx.o];have h1:=h0.o.si hw1;have F1:=(A_ (w.alloc (.cells #[O_,.int .u8 0] 182)) (λg=>g=bp)).si hw1;have D0:=F1.bl B0 M_;have P1:=F_ h1 (.cells #[I_ i,U_ x] 182);have c1:=PAt.c1 P1;have m:=PAt.th P1 1;have m:=F1.size;have q:=E_ (B_ w1 #[I_ i,U_ x] 182) (a:=⟨bp,1,none⟩) (Z_ ((i:Int)+1)) (by show ¬(w1.heap.size=bp);simp at m;omega);have m:=E_ (D0.alloc (.cells #[I_ i,U_ x] 182)) (a:=⟨bp,1,none⟩) (Z_ ((i:Int)+1)) (by show ¬(w.heap.size=bp);omega);have P2:=zy (PAt.inc P1);have t:=q.c0;have l1:=q.c1;have r0:=m.c0;have r1:=m.c1;have g0:=m.th 0;have g1:=m.th 1;replace F1:=zy F1;replace D0:=zy D0;replace h1:=zy h1;replace P1:=zy P1;replace q:=zy q;replace m:=zy m))
  have S2:=(m.o.set 0 (I_ i)).set 1 (U_ x);have q0:=S2.cell 0;have q1:=S2.cell 1;simp only[an_,ao_,aa_,ab_]at q0 q1;refine bodyPost_ret (v:=.tuple #[.agg #[I_ i,U_ x],.nilIface]) yb_ rfl ?_;rw[Q_.o];refine⟨_,_,_,rfl,?_,.inl ⟨by rw[hx.o];exact l,rfl,by rw[hx.o],rfl,?_,r⟩⟩
  .exact(((((F0.o.trans F1 u_).alloc _).setCell _ _ (λ_=>rfl)).setCell _ _ (λm=>absurd m (b2_ _))).setCell _ _ (λm=>absurd m (b2_ _)))
  .exact E_ (E_ P2 (a:=⟨w.heap.size,0,none⟩) _ (by show ¬(bp=w.heap.size);omega)) (a:=⟨w.heap.size,1,none⟩) _ (by show ¬(bp=w.heap.size);omega)
 |false=>
  have hr:x<97\/122<x:=by
   have:=l;simp only[zt,Bool.and_eq_false_iff,decide_eq_false_iff_not]at this;omega
  replace hx:=zy hx;replace l:=zy l;have fin:H_ (∀(w2:World) (v:Value) (w1:World),yq w2 (w1.alloc (.cells #[I_ i,U_ x] 182)).heap.size v (i:Int) (.iface et ex)->Fr (w1.alloc (.cells #[I_ i,U_ x] 182)) w2 N_->PAt (w1.alloc (.cells #[I_ i,U_ x] 182)) bp s i->Fr (w.alloc (.cells #[O_,.int .u8 0] 182)) w1 (λg=>g=bp)->
   rJ w bp s i et ex (.returned (.tuple #[.agg #[O_,.int .u8 0],v])) ((w2.setCell ⟨w.heap.size,0,none⟩ (O_)).setCell ⟨w.heap.size,1,none⟩ (.int .u8 0))):=zy (λw2 v w1 hF hf2 P1 F1=>by
   have hz:(w.alloc (.cells #[O_,.int .u8 0] 182)).heap.size=w.heap.size+1:=x8_
   have q:(w1.alloc (.cells #[I_ i,U_ x] 182)).heap.size=w1.heap.size+1:=x8_
   have q:=F1.size
   have m:Fr w2 ((w2.setCell ⟨w.heap.size,0,none⟩ (O_)).setCell ⟨w.heap.size,1,none⟩ (.int .u8 0)) (λg=>g=w.heap.size):=((A_ w2 (λg=>g=w.heap.size)).setCell ⟨w.heap.size,0,none⟩ _ (λ_=>rfl)).setCell ⟨w.heap.size,1,none⟩ _ (λ_=>rfl)
   refine⟨_,_,_,rfl,?_,.inr ⟨by rw[hx.o];exact l,(hF.fr m (λg hg e=>M_)).ls M_,m.bl (hf2.bl P1 id) M_⟩⟩
   exact((((F0.o.trans F1 u_).alloc _).trans hf2 v_).trans m (λy hy e=>M_)))
  rcases hr with hr|hr
  .exact cwxI1_
  .have cc1:=Nat;exact cwxI1_
def rK(w:Aw)(bp:Nat)(s:BA)(i:Nat)(p:Int)(et:As)(ex:Ax)(e:Ah)(w':Aw):Prop:=
 ∃v ev,IfV v/\e=.returned (.tuple #[v,ev])/\Fr w w' (· = bp)/\
  ((48<=bt s i/\bt s i<=57/\v=.iface 218 (.agg #[Z_ p,Z_ ((bt s i-48:Nat):Int)])/\ev=.nilIface/\PAt w' bp s (i+1)/\i<s.size)\/(¬(48<=bt s i/\bt s i<=57)/\yq w' w.heap.size ev (i:Int) (.iface et ex)/\PAt w' bp s i))
def cwot1_{p:Prop}(h:p:=by
 (first|(have:=cc1;have n1:¬((x:Int)<48):=M_;have n2:(57:Int)<(x:Int):=M_)|(have n1:(x:Int)<48:=M_));go_in;go_wp2_with (first
  |(go_at_call 111;apply(yl h.o hs hi).mono;rintro e w1 ⟨rfl,hw1⟩;rw[hx.o];have h1:=zy (h.o.si hw1);replace hw1:=zy hw1)
  |(go_at_call 74;apply(vz h1.o (hG.o.fr ((A_ w N_).si hw1.o) id)).mono;rintro e w2 ⟨v,rfl,hF,hf2⟩;replace hF:=zy hF;replace hf2:=zy hf2))
 try go_ret
 rw[Q_.o];exact fin.o w1 w2 v hw1.o hF.o hf2.o):p:=h
def ot{w:Aw}{bp:Nat}{s:BA}{p:Int}(h:PAt w bp s i)(hG:pF w et ex)(hs:s.size<=300)(hi:i<=s.size):Calls prog 151 #[P_ bp,Z_ p] w (rK w bp s i p et ex):=by
 obtain⟨l,Q_⟩:=y_ (rK w bp s i p et ex);rw[<- Q_.o];obtain⟨x,hx⟩:=x_ (bt s i);replace hG:=zy hG;by_cases hr:48<=x/\x<=57
 .have g:i<s.size:=zr M_;have n1:¬((x:Int)<48):=M_;have n2:¬((57:Int)<(x:Int)):=M_;replace hx:=zy hx;replace h:=zy h;go_in;go_wp2_with (go_at_call 111;apply(yl h hs hi).mono;rintro e w1 ⟨rfl,hw1⟩;rw[hx.o];have h1:=h.o.si hw1;have c1:=h1.c1;have l:=h1.th 1;replace h1:=zy h1;replace hw1:=zy hw1);try go_ret
  rw[Q_.o];refine⟨.iface 218 (.agg #[Z_ p,Z_ ((x:Int)-48)]),.nilIface,.inr ⟨_,_,rfl⟩,rfl,((A_ w _).si hw1).setCell _ _ (λ_=>rfl),.inl ⟨by rw[hx.o];exact hr.1,by rw[hx.o];exact hr.2,?_,rfl,h1.o.inc,g⟩⟩;rw[hx.o,show((x-48:Nat):Int)=(x:Int)-48 by omega]
 .replace hx:=zy hx;have fin:H_ (∀(w1 w2:World) (v:Value),zw w w1->yq w2 w1.heap.size v (i:Int) (.iface et ex)->Fr w1 w2 N_->rK w bp s i p et ex (.returned (.tuple #[.nilIface,v])) w2):=zy (λw1 w2 v hw1 hF hf2=>by
   have g:=((A_ w N_).si hw1).size
   exact⟨.nilIface,v,.inl rfl,rfl,((A_ w _).si hw1).trans hf2 v_,.inr ⟨by rw[hx.o];exact hr,hF.ls g,hf2.bl (h.si hw1) id⟩⟩)
  have g:x<48\/57<x:=M_;replace h:=zy h;rcases g with hr|hr
  .exact cwot1_
  .have cc1:=Nat;exact cwot1_
structure AM(w:Aw)(bp:Nat)(s:BA)(j b0:Nat)(L:Az)(T ET:As)(k:Nat)(sv:Ax)(n:Nat)(xs:Az)(W:Aw):Prop where
 here:PAt W bp s j
 fr:Fr w W (· = bp)
 lt:bp<w.heap.size
 w0:w.heap.size<=b0
 hB:b0+1<=W.heap.size
 b:Blk W b0 L T
 row:W.ownsRow (b0+1) ET k sv n xs
section
variable {w W W':Aw} {bp:Nat} {s:BA} {j j' b0:Nat} {L:Az} {T ET:As} {k:Nat} {sv:Ax} {n:Nat} {xs:Az}
def AM.call(M:AM w bp s j b0 L T ET k sv n xs W)(h:PAt W' bp s j')(l:Fr W W' (· = bp)):AM w bp s j' b0 L T ET k sv n xs W':=by
 have:=M.lt;have:=M.w0;exact⟨h,M.fr.trans l u_,M.lt,M.w0,ai_ M.hB l.size,l.bl M.b M_,zk M.row l (λg hg e=>by have:=M.row.lt g hg;omega)⟩
def AM.alloc(M:AM w bp s j b0 L T ET k sv n xs W)(o:Cj):AM w bp s j b0 L T ET k sv n xs (W.alloc o):=M.call (F_ M.here o) ((A_ W _).alloc o)
def AM.item(M:AM w bp s j b0 L T ET k sv n xs W){h:Ax}{m:Nat}{xs':Az}{l:Aw}(h0:Fr W l N_)(hg:l.grownBy w5 sv.ownBlock)(ho:w5.ownsRow (b0+1) ET k h m xs')(hl:h.ownBlock=sv.ownBlock\/h.ownBlock=some l.heap.size)(c:Nat):AM w bp s j b0 (L.set c h) T ET k h m xs' (w5.setCell ⟨b0,c,none⟩ h)/\Fr W (w5.setCell ⟨b0,c,none⟩ h) (λg=>sv.ownBlock=some g\/g=b0)/\(∀g,h.ownBlock=some g->b0+1<=g/\(sv.ownBlock=some g\/W.heap.size<=g)):=by
 have l:=M.lt;have l:=M.w0;have u:=M.hB;have l:=h0.size;have q:Fr W w5 (λg=>sv.ownBlock=some g):=T_ (h0.mono v_) hg (λk e _=>e);have hn:∀g,h.ownBlock=some g->b0+1<=g/\(sv.ownBlock=some g\/W.heap.size<=g):=λg l=>by
  rcases hl with e|e
  .exact⟨(M.row.lt g (e▸l)).1,.inl (e▸l)⟩
  .rw[e]at l;simp only[ae_]at l;exact⟨M_,.inr M_⟩
 have r:Fr w5 (w5.setCell ⟨b0,c,none⟩ h) (λg=>g=b0):=(A_ w5 (λg=>g=b0)).setCell ⟨b0,c,none⟩ h (λ_=>rfl);have m:Fr W (w5.setCell ⟨b0,c,none⟩ h) (λg=>sv.ownBlock=some g\/g=b0):=(q.mono (λ_ _ e=>.inl e)).trans r (λ_ _ e=>.inr e);have t:=q.bl M.b (λe=>by have:=M.row.lt _ e;omega);refine⟨⟨m.bl M.here (λe=>?_),M.fr.trans m (λx hx e=>?_),M.lt,M.w0,ai_ u m.size,t.set c h,zk ho r (λg l e=>by have:=hn g l;omega)⟩,m,hn⟩
 .rcases e with e|e
  .have:=M.row.lt _ e;omega
  .omega
 .rcases e with e|e
  .have:=M.row.lt _ e;omega
  .omega
def AM.ie(M:AM w bp s j b0 L T ET k sv n xs W){h:Aw}(h0:Fr W h N_)(hg:h.grownBy w5 sv.ownBlock):Blk w5 b0 L T:=by
 have h:Fr W w5 (λg=>sv.ownBlock=some g):=T_ (h0.mono v_) hg (λk e _=>e);exact h.bl M.b (λe=>by have:=M.row.lt _ e;omega)
end
def DfV(w:Aw)(P:Au)(s:BA)(o:Ac)(d:Ax):Prop:=
 match o with
 |none=>d=.pointer none
 |some (a,e)=>∃g x,P g/\d=P_ g/\IfV x/\Blk w g [I_ a,.string (s.extract a e),x] 189
def DfV.mono{w:Aw}{s:BA}(h:DfV w P s o d)(r:∀g,g<w.heap.size->P g->Q g):DfV w Q s o d:=by
 match o with
 |none=>exact h
 |some (a,e)=>
  obtain⟨g,x,h1,m,q,l⟩:=h;exact⟨g,x,r g l.lt h1,m,q,l⟩
def DfV.fr{w:Aw}{s:BA}(h:DfV w P s o d)(t:Fr w w' S)(r:∀g,P g->¬S g):DfV w' P s o d:=by
 match o with
 |none=>exact h
 |some (a,e)=>
  obtain⟨g,x,h1,l,m,q⟩:=h;exact⟨g,x,h1,l,m,t.bl q (r g h1)⟩
def cm(w:Aw)(P:Au)(s:BA)(f:PF)(a b c d:Ax):Prop:=
 a=I_ f.place/\b=U_ f.letter/\TyV w P f.ty c/\DfV w P s f.dflt d
def cm.mono{w:Aw}{s:BA}(h:cm w P s f a b c d)(e:∀g,g<w.heap.size->P g->Q g):cm w Q s f a b c d:=
 ⟨h.1,h.2.1,h.2.2.1.mono e,h.2.2.2.mono e⟩
def cm.fr{w:Aw}{s:BA}(h:cm w P s f a b c d)(l:Fr w w' S)(e:∀g,P g->¬S g):cm w' P s f a b c d:=
 ⟨h.1,h.2.1,h.2.2.1.fr l e,h.2.2.2.fr l e⟩
def xJ(w:Aw)(P:Au)(s:BA)(fs:Am)(xs:Az):Prop:=
 ∀i f,fs[i]?=some f->∃a b c d,xs[4*i]?=some a/\xs[4*i+1]?=some b/\xs[4*i+2]?=some c/\xs[4*i+3]?=some d/\cm w P s f a b c d
def xJ.mono{w:Aw}{s:BA}{xs:Az}(h:xJ w P s fs xs)(t:∀g,g<w.heap.size->P g->Q g):xJ w Q s fs xs:=λi f e=>by
 obtain⟨a,b,c,d,h1,l,m,q,r⟩:=h i f e;exact⟨a,b,c,d,h1,l,m,q,r.mono t⟩
def xJ.fr{w:Aw}{s:BA}{xs:Az}(h:xJ w P s fs xs)(u:Fr w w' S)(t:∀g,P g->¬S g):xJ w' P s fs xs:=λi f e=>by
 obtain⟨a,b,c,d,h1,l,m,q,r⟩:=h i f e;exact⟨a,b,c,d,h1,l,m,q,r.fr u t⟩
def xJ.snoc{w:Aw}{s:BA}{xs:Az}(h:xJ w P s fs xs)(hl:xs.length=fs.length*4)(x:cm w P s f a b c d):xJ w P s (fs++[f]) (xs++[a,b,c,d]):=λi f' e=>by
 by_cases g:i<fs.length
 .rw[ay_ g]at e;obtain⟨a',g,l,m,h1,q,r,t,u⟩:=h i f' e;exact⟨a',g,l,m,by rw[ay_ M_];exact h1,by rw[ay_ M_];exact q,by rw[ay_ M_];exact r,by rw[ay_ M_];exact t,u⟩
 .have l:i=fs.length:=by
   have:=(am_.1 e).1;simp at this;omega
  subst l;rw[ax_ l_,Nat.sub_self]at e;simp only[aa_,ae_]at e;subst e;refine⟨a,b,c,d,?_,?_,?_,?_,x⟩
  .rw[ax_ M_,show 4*fs.length-xs.length=0 by omega];rfl
  .rw[ax_ M_,show 4*fs.length+1-xs.length=1 by omega];rfl
  .rw[ax_ M_,show 4*fs.length+2-xs.length=2 by omega];rfl
  .rw[ax_ M_,show 4*fs.length+3-xs.length=3 by omega];rfl
def yu(l:Av):List Value:=l.flatMap (λq=>[I_ q.2,U_ q.1])
def qV(w:Aw)(P:Au)(o:Ac)(d:Ax):Prop:=
 match o with
 |none=>d=.pointer none
 |some (c,p)=>∃g,P g/\d=P_ g/\Blk w g [I_ p,U_ c] 182
def qV.mono{w:Aw}(h:qV w P o d)(q:∀g,g<w.heap.size->P g->Q g):qV w Q o d:=by
 match o with
 |none=>exact h
 |some (a,e)=>
  obtain⟨g,h1,m,l⟩:=h;exact⟨g,q g l.lt h1,m,l⟩
def qV.fr{w:Aw}(h:qV w P o d)(r:Fr w w' S)(q:∀g,P g->¬S g):qV w' P o d:=by
 match o with
 |none=>exact h
 |some (a,e)=>
  obtain⟨g,h1,l,m⟩:=h;exact⟨g,h1,l,r.bl m (q g h1)⟩
def pB(s:BA)(p:Nat)(b:PB):Prop:=∃j,xu s p=.ok (b,j)
inductive yM (w:Aw) (P:Au) (s:BA):PB->Value->Prop
 |recd (p:Nat) {fs:List PF} {sv:Value} {xs:List Value} (ho:w.ownsRow 0 185 4 sv fs.length xs) (hP:∀g,sv.ownBlock=some g->P g) (h:xJ w P s fs xs) (hp:pB s p (.recd fs)):yM w P s (.recd fs) (.iface 210 (.agg #[I_ p,sv]))
 |enum (p:Nat) {l:List (Nat×Nat)} {o:Option (Nat×Nat)} {sv u:Value} (ho:w.ownsRow 0 182 2 sv l.length (yu l)) (hP:∀g,sv.ownBlock=some g->P g) (hu:qV w P o u) (hp:pB s p (.enum l o)):yM w P s (.enum l o) (.iface 215 (.agg #[I_ p,sv,u]))
 |bytes (p n:Nat) (hp:pB s p (.bytes n)):yM w P s (.bytes n) (.iface 218 (.agg #[I_ p,I_ n]))
def yM.mono{w:Aw}{s:BA}{b:PB}(h:yM w P s b v)(l:∀g,g<w.heap.size->P g->Q g):yM w Q s b v:=by
 cases h with
 |recd p ho hP h hp=>exact .recd p ho (λg e=>l g (ho.lt g e).2 (hP g e)) (h.mono l) hp
 |enum p ho hP h hp=>exact .enum p ho (λg e=>l g (ho.lt g e).2 (hP g e)) (h.mono l) hp
 |bytes p n hp=>exact .bytes p n hp
def yM.fr{w:Aw}{s:BA}{b:PB}(h:yM w P s b v)(m:Fr w w' S)(l:∀g,P g->¬S g):yM w' P s b v:=by
 cases h with
 |recd p ho hP h hp=>exact .recd p (zk ho m (λg e=>l g (hP g e))) hP (h.fr m l) hp
 |enum p ho hP h hp=>exact .enum p (zk ho m (λg e=>l g (hP g e))) hP (h.fr m l) hp
 |bytes p n hp=>exact .bytes p n hp
def aP(w:Aw)(bp:Nat)(s:BA)(i:Nat)(e:Ah)(w':Aw):Prop:=
 ∃k g,k=(pD s i 0).getD s.size/\i<=k/\k<=s.size/\w.heap.size<=g/\e=.returned (P_ g)/\Blk w' g [I_ i,.string (s.extract i k),.nilIface] 189/\Fr w w' (· = bp)/\PAt w' bp s k
def QM(w:Aw)(bp:Nat)(s:BA)(i:Nat)(n:Nat)(ov:Ax)(W:Aw):Prop:=
 ∃k o:Nat,ov=I_ o/\pD s i 0=pD s k o/\i<=k/\o<=k/\k<=s.size/\PAt W bp s k/\Fr w W (· = bp)/\s.size-k<=n
def eW{c:Nat}(h:ku c=true):c=40\/c=91\/c=123\/c=60:=by
 simp only[ku,av_,beq_iff_eq]at h;omega
def ik{c:Nat}(h:jR c=true):c=41\/c=93\/c=125\/c=62:=by
 simp only[jR,av_,beq_iff_eq]at h;omega
def dc{c:Nat}(h:ku c=false)(e:jR c=false):c≠40/\c≠91/\c≠123/\c≠60/\c≠41/\c≠93/\c≠125/\c≠62:=by
 refine⟨?_,?_,?_,?_,?_,?_,?_,?_⟩<;>(rintro rfl;first|(revert h;decide)|(revert e;decide))
def nI{w:Aw}{bp:Nat}{s:BA}(h:PAt w bp s i)(hs:s.size<=300)(N:i<=s.size):Calls prog 183 #[P_ bp] w (aP w bp s i):=by
 obtain⟨J,C⟩:=y_ (aP w bp s i);rw[<- C.o];have I:=zy (show QM w bp s i (s.size-i) (O_) w from⟨i,0,rfl,rfl,l_,aj_ _,N,h,A_ _ _,l_⟩);replace h:=zy h;go_in;go_wp2_with (go_at_call 112;apply(yr h).mono;rintro e w' ⟨rfl,G⟩;rw[G];clear G);go_loopg [4] (s.size-i) (λn Z W=>QM w bp s i n Z W);case atStart=>exact I
 case round=>
  clear I;obtain⟨k,o,rfl,z,O,a5,U,h1,y,hn⟩:=hrel;have c0:=h1.c0;have c1:=h1.c1;replace z:=zy z;have u:bp<wr.heap.size:=h1.lt;have a2:(i:Int)<=(k:Int):=M_;have a3:(k:Int)<=(s.size:Int):=M_;replace y:=zy y;replace h1:=zy h1;have D:H_ (∀W,zw wr W->(pD s i 0).getD s.size=k->J (.returned (P_ W.heap.size)) (W.alloc (.cells #[I_ i,.string (s.extract i k),.nilIface] 189))):=zy (λW r he=>by
   rw[C.o]
   have E:=y.o.si r
   exact⟨k,W.heap.size,he.symm,O,U,E.size,rfl,B_ W _ _,E.alloc _,F_ (h1.o.si r) _⟩)
  by_cases hk:k<s.size
  .have R:(k:Int)<(s.size:Int):=M_;obtain⟨c,hc⟩:=x_ (bt s k);have a0:((s[k]'hk).toNat:Int)=(c:Int):=by rw[<- hc,vS s k hk]
   have g:=Yv o hk;rw[hc,<- z.o]at g;replace hc:=zy hc;have f1:=h1.o.th 1;by_cases m:o=0/\(c=44\/c=41)
   .rw[i_ m]at g;have A:=zy (show(pD s i 0).getD s.size=k by rw[g];rfl);clear g;obtain⟨rfl,M⟩:=m;rcases M with rfl|rfl;all_goals
     go_wp2;go_quiet (fail);go_wp2;go_quiet (fail);go_wp2;refine tr_ 13 (λW=>z_ W bp 0 (.string s)/\z_ W bp 1 (I_ k)) ?_;refine tz_ 0 ?_;refine tz_ 1 ?_;refine tz_ 2 ?_;refine tz_ 3 ?_;refine tz_ 4 ?_;refine tz_ 5 ?_;refine tz_ 6 ?_;refine tz_ 7 ?_;refine tz_ 8 ?_;refine tz_ 9 ?_;refine tz_ 10 ?_;refine tz_ 11 ?_;refine t1_ 12 ⟨c0,c1⟩ ?_;refine t1_ 13 ⟨(World.cell?_alloc_past _ _ _ (by exact u)).trans c0,(World.cell?_alloc_past _ _ _ (by exact u)).trans c1⟩ ?_;refine td_ ?_ _;go_wp2;try go_ret
     exact D.o (wr.drewN _) (zw.drewN _ _) A
   .rw[n_ m]at g;replace g:=zy g;have q:H_ (∀(B:Int) (W:World),B=(qn c o:Nat)->zw wr W->QM w bp s i (s.size-(k+1)) (Z_ B) (W.setCell ⟨bp,1,none⟩ (Z_ ((k:Int)+1)))):=zy (λB W V r=>by
     have K:=h1.o.si r
     exact⟨k+1,qn c o,by rw[V],g,M_,by unfold qn;split<;>(try split)<;>omega,hk,K.inc,(y.o.si r).setCell _ _ (λ_=>rfl),l_⟩)
    replace m:=zy m;cases ho:ku c<;>cases l:jR c
    case true.true=>exact(lX ho l).elim
    case false.false=>
     have hlv:=zy (by simp[qn,ho,l]:qn c o=o);obtain⟨m1,m2,m3,m4,m5,m6,m7,m8⟩:=dc ho l;clear ho l;have e1:((c:Int)==40)=false:=x4_
     have e2:((c:Int)==91)=false:=x4_
     have e3:((c:Int)==123)=false:=x4_
     have e4:((c:Int)==60)=false:=x4_
     have e5:((c:Int)==41)=false:=x4_
     have e6:((c:Int)==93)=false:=x4_
     have e7:((c:Int)==125)=false:=x4_
     have e8:((c:Int)==62)=false:=x4_
     by_cases t:o=0
     .subst t;have e9:((c:Int)==44)=false:=by have:=m.o;simp;omega
      go_wp2;go_quiet (fail);go_wp2;go_quiet (fail);go_wp2;go_roundg (s.size-(k+1));case measure=>omega
      case rel=>exact q.o _ _ yh_ x2_
     .have H:((o:Int)==0)=false:=x4_
      go_wp2;go_quiet (fail);go_wp2;go_quiet (fail);go_wp2;go_roundg (s.size-(k+1));case measure=>omega
      case rel=>exact q.o _ _ yh_ x2_
    case true.false=>
     have hlv:=zy (by simp[qn,ho]:qn c o=o+1);have x:=eW ho;clear ho l;rcases x with rfl|rfl|rfl|rfl;all_goals
      by_cases t:o=0
      .subst t;go_wp2;go_quiet (fail);go_wp2;go_quiet (fail);go_wp2;go_roundg (s.size-(k+1));case measure=>omega
       case rel=>exact q.o _ _ yh_ x2_
      .have H:((o:Int)==0)=false:=x4_
       have Y:(o:Int)<=300:=M_;go_wp2;go_quiet (fail);go_wp2;go_quiet (fail);go_wp2;go_roundg (s.size-(k+1));case measure=>omega
       case rel=>exact q.o _ _ yh_ x2_
    case false.true=>
     have hlv:=zy (by simp[qn,ho,l]:qn c o=o-1);have x:=ik l;clear ho l;by_cases t:o=0
     .subst t;have F:c=93\/c=125\/c=62:=by have:=m.o;omega
      clear x;rcases F with rfl|rfl|rfl;all_goals
       go_wp2;go_quiet (fail);go_wp2;go_quiet (fail);go_wp2;go_roundg (s.size-(k+1));case measure=>omega
       case rel=>exact q.o _ _ yh_ x2_
     .have H:((o:Int)==0)=false:=x4_
      have Y:(o:Int)<=300:=M_;have a4:max ((o:Int)-1) 0=(o:Int)-1:=M_;rcases x with rfl|rfl|rfl|rfl;all_goals
       go_wp2;go_quiet (fail);go_wp2;go_quiet (fail);go_wp2;go_roundg (s.size-(k+1));case measure=>omega
       case rel=>exact q.o _ _ yh_ x2_
  .have F:k=s.size:=M_;have A:=zy (show(pD s i 0).getD s.size=k by rw[z.o,Jo M_,Option.getD_none];exact F.symm);have R:¬((k:Int)<(s.size:Int)):=M_;clear F;go_wp2;go_quiet (fail);go_wp2;refine tr_ 13 (λW=>z_ W bp 0 (.string s)/\z_ W bp 1 (I_ k)) ?_;refine tz_ 0 ?_;refine tz_ 1 ?_;refine tz_ 2 ?_;refine tz_ 3 ?_;refine tz_ 4 ?_;refine tz_ 5 ?_;refine tz_ 6 ?_;refine tz_ 7 ?_;refine tz_ 8 ?_;refine tz_ 9 ?_;refine tz_ 10 ?_;refine tz_ 11 ?_;refine t1_ 12 ⟨c0,c1⟩ ?_;refine t1_ 13 ⟨(World.cell?_alloc_past _ _ _ (by exact u)).trans c0,(World.cell?_alloc_past _ _ _ (by exact u)).trans c1⟩ ?_;refine td_ ?_ _;go_wp2;try go_ret
   exact D.o (wr.drewN _) (zw.drewN _ _) A
end Go.Proofs.YtahhhgbojlkjnaaGreatDoor
