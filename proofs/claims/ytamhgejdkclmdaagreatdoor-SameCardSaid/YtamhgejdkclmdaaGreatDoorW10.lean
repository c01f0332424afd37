import Derived.Test.YtamhgejdkclmdaaGreatDoorW09
set_option maxHeartbeats 16000000
set_option maxRecDepth 100000
set_option linter.defProp false
set_option linter.unusedSimpArgs false
set_option linter.unusedVariables false
open Go.Proofs.Tryz
namespace Go.Proofs.YtamhgejdkclmdaaGreatDoor
open Go.RowKit
variable {i:Nat}{et:Av}{ex:Ax}
def TyV.iface{w:Aw}{P:Az}{t:PT}{v:Ax}(h:TyV w P t v):∃T x,v=.iface T x:=by
 cases h<;>exact⟨_,_,rfl⟩
def Zw(w:Aw)(bp:Nat)(s:BA)(i p:Nat)(et:Av)(ex:Ax)(e:Ak)(w':Aw):Prop:=
 ∃v ev,IfV v/\e=.returned (.tuple #[v,ev])/\Fr w w' (· = bp)/\
 match yf s i with
 | .ok (fs,j)=>ev=.nilIface/\PAt w' bp s j/\(pB s p (.recd fs)->yX w' (λg=>w.heap.size<=g) s (.recd fs) v)
 | .error k=>zA w' w.heap.size ev (k:Int) (.iface et ex)/\∃j,j<=s.size/\PAt w' bp s j
section
variable {w W W2:Aw} {bp:Nat} {s:BA} {j b0:Nat} {L:Ay} {T ET:Av} {k:Nat} {sv v5:Ax} {n:Nat} {xs:Ay}
def keepF{fs:An}{ys:Ay}(b:Fr W W2 (λg=>sv.ownBlock=some g\/g=b0))(hn:∀g,v5.ownBlock=some g->b0+1<=g/\(sv.ownBlock=some g\/W.heap.size<=g))(h:xX W (λg=>b0+1<=g/\sv.ownBlock≠some g) s fs ys):xX W2 (λg=>b0+1<=g/\v5.ownBlock≠some g) s fs ys:=
 ((h.mono (Q:=λg=>(b0+1<=g/\sv.ownBlock≠some g)/\g<W.heap.size) (λ_ h1 a=>⟨a,h1⟩)).fr b (λg hg e=>by
   rcases e with e|e
   .exact hg.1.2 e
   .have:=hg.1.1;omega)).mono (λg _ hg=>⟨hg.1.1,λe=>by
   rcases(hn g e).2 with q|q
   .exact hg.1.2 q
   .have:=hg.2;omega⟩)
def Ur{f:PF}{a b c d:Ax}(m:Fr W W2 (λg=>sv.ownBlock=some g\/g=b0))(hn:∀g,v5.ownBlock=some g->b0+1<=g/\(sv.ownBlock=some g\/W.heap.size<=g))(h:cV W (λg=>b0+1<=g/\sv.ownBlock≠some g) s f a b c d):cV W2 (λg=>b0+1<=g/\v5.ownBlock≠some g) s f a b c d:=
 ((h.mono (Q:=λg=>(b0+1<=g/\sv.ownBlock≠some g)/\g<W.heap.size) (λ_ h1 l=>⟨l,h1⟩)).fr m (λg hg e=>by
   rcases e with e|e
   .exact hg.1.2 e
   .have:=hg.1.1;omega)).mono (λg _ hg=>⟨hg.1.1,λe=>by
   rcases(hn g e).2 with q|q
   .exact hg.1.2 q
   .have:=hg.2;omega⟩)
end
structure RF(w:Aw)(bp:Nat)(s:BA)(j b0:Nat)(p:Int)(sv:Ax)(fs:An)(xs:Ay)(W:Aw):Prop where
 A:AM w bp s j b0 [Z_ p,sv] 228 195 4 sv fs.length xs W
 F:xX W (λg=>b0+1<=g/\sv.ownBlock≠some g) s fs xs
section
variable {w W W':Aw} {bp:Nat} {s:BA} {j j' b0:Nat} {p:Int} {sv:Ax} {fs:An} {xs:Ay}
def RF.call(M:RF w bp s j b0 p sv fs xs W)(h:PAt W' bp s j')(hf:Fr W W' (· = bp)):RF w bp s j' b0 p sv fs xs W':=by
 have h1:=M.A.lt;have a:=M.A.w0;exact⟨M.A.call h hf,M.F.fr hf (λg hg e=>M_)⟩
def RF.alloc(M:RF w bp s j b0 p sv fs xs W)(o:Obj):RF w bp s j b0 p sv fs xs (W.alloc o):=M.call (C_ M.A.here o) ((A_ W _).alloc o)
def RF.si(M:RF w bp s j b0 p sv fs xs W)(a:zq W W'):RF w bp s j b0 p sv fs xs W':=M.call (M.A.here.si a) ((A_ W _).si a)
def RF.item(M:RF w bp s j b0 p sv fs xs W){o:Obj}{e:Aw}{v5 a b c d:Ax}{f:PF}(hg:(W.alloc o).grownBy e sv.ownBlock)(ho:e.ownsRow (b0+1) 195 4 v5 (fs.length+1) (xs++[a,b,c,d]))(hl:v5.ownBlock=sv.ownBlock\/v5.ownBlock=some (W.alloc o).heap.size)(hv:cV W (λg=>b0+1<=g/\sv.ownBlock≠some g) s f a b c d):RF w bp s j b0 p v5 (fs++[f]) (xs++[a,b,c,d]) (e.setCell ⟨b0,1,none⟩ v5):=by
 obtain⟨h1,e,h⟩:=M.A.item ((A_ W _).alloc o) hg ho hl 1;refine⟨?_,(keepF e h M.F).snoc M.A.row.1 (Ur e h hv)⟩;rw[ah_,ap_];exact h1
def RF.body(M:RF w bp s j b0 p sv fs xs W)(q:Nat)(hp:p=(q:Int))(hb:pB s q (.recd fs)):yX W (λg=>w.heap.size<=g) s (.recd fs) (.iface 228 (.agg #[Z_ p,sv])):=by
 subst hp;have:=M.A.w0;exact .recd q (yr M.A.row) (λg e=>by have:=M.A.row.lt g e;omega) (M.F.mono (λg _ hg=>by have:=hg.1;omega)) hb
end
def Bn(w:Aw)(bp:Nat)(s:BA)(i b0:Nat)(p:Int)(m:Nat)(W:Aw):Prop:=
 ∃j sv fs xs,RF w bp s j b0 p sv fs xs W/\j<=s.size/\i+fs.length<=j/\s.size+1-j<=m/\xm s i=vX fs (xm s j)
def ui:Tryz.prog.underlying 189=some (.slice 195):=K_
def oG:(Tryz.prog.info? 195).map (λi=>(i.zero,i.size,i.bytes))=some (some (.agg #[O_,.int .u8 0,.nilIface,.pointer none]),4,40):=K_
def ah{w:Aw}{bp:Nat}{s:BA}{p:Nat}(h:PAt w bp s i)(H:pF w et ex)(U:bp≠0)(hs:s.size<=300)(hi:i<=s.size):Calls prog 143 #[P_ bp,I_ p] w (Zw w bp s i p et ex):=by
 obtain⟨f2,G⟩:=y_ (Zw w bp s i p et ex);rw[<- G.o];have e3:=h.lt;have f9:=World.block_lt_of_cell? w ⟨0,0,none⟩ H;replace H:=zy H;have t:=zy (yL 40 (c:=40) h H U hs hi rfl D_);clear h;by_cases h40:bt s i=40;case neg=>
  have E:=zy (show yf s i=.error i by unfold yf;rw[n_ h40]);replace h40:=zy h40;go_in;go_wp2_with (go_at_call 99;apply t.o.mono;rintro e w1 ⟨V,rfl,q,hm⟩;obtain⟨g,a2,rfl,z,h1⟩:∃g,w.heap.size<=g/\V=.iface 185 (P_ g)/\Blk w1 g [I_ i,.iface et ex] 187/\PAt w1 bp s i:=xn_;replace q:=zy q;replace z:=zy z;replace h1:=zy h1);try go_ret
  rw[G.o];refine⟨.nilIface,_,.inl rfl,rfl,q,?_⟩;rw[E.o];exact⟨⟨g,a2,rfl,z⟩,i,hi,h1⟩
 case pos=>
 have a9:i+1<=s.size:=zm (s:=s) (i:=i) M_;by_cases y:bt s (i+1)=41;case pos=>
  have E:=zy (show yf s i=.ok ([],i+2) by unfold yf;rw[i_ h40,i_ y]);replace h40:=zy h40;replace y:=zy y;go_in;go_wp2_with (first
   |(go_at_call 99;apply t.o.mono;rintro e w1 ⟨V,rfl,q,hm⟩;obtain⟨rfl,h1⟩:V=.nilIface/\PAt w1 bp s (i+1):=xj_;have b5:=q.size;replace q:=zy q;replace h1:=zy h1)
   |(go_at_call 100;apply(gI 41 (C_ h1 (.cells #[I_ p,L_] 228)) hs a9 rfl D_ y).mono;rintro e X ⟨rfl,l,r⟩;have Y:=l.bl (B_ w1 #[I_ p,L_] 228) M_;have c0:=Y.c0;have c1:=Y.c1;revert l r Y;refine h_ λl r Y=>?_))
  try go_ret
  rw[G.o];refine⟨.iface 228 (.agg #[I_ p,L_]),.nilIface,.inr ⟨_,_,rfl⟩,rfl,(q.o.alloc _).trans l u_,?_⟩;rw[E.o];exact⟨rfl,r,.recd p (World.ownsRow_nil _ _ _ _) (λg e=>by simp[Value.ownBlock]at e) (λi f e=>by simp at e)⟩
 case neg=>
  have E:=zy (show yf s i=xm s (i+1) by unfold yf;rw[i_ h40,n_ y]);replace h40:=zy h40;replace y:=zy y;go_in;go_wp2_with (first
   |(go_at_call 99;apply t.o.mono;rintro e w1 ⟨V,rfl,q,hm⟩;obtain⟨rfl,h1⟩:V=.nilIface/\PAt w1 bp s (i+1):=xj_;have b5:=q.size;replace q:=zy q;replace h1:=zy h1;clear t)
   |(go_at_call 100;apply(pE 41 (C_ h1 (.cells #[I_ p,L_] 228)) hs a9 rfl D_ y).mono;rintro e X ⟨rfl,l,r⟩;have start:Bn w bp s (i+1) w1.heap.size (p:Int) (s.size+1) X:=⟨i+1,L_,[],[],⟨⟨r,(q.o.alloc _).trans l u_,e3,b5,(by have:=l.size;simp at this;omega),l.bl (B_ w1 #[I_ p,L_] 228) M_,World.ownsRow_nil _ _ _ _⟩,(λi f e=>by simp at e)⟩,a9,x8_,M_,(rE _).symm⟩;replace start:=zy start;obtain⟨b0,b8⟩:=e_ w1.heap.size;rw[<- b8]at start⊢;clear l r h1 q b8 b5))
  go_loopg [] (s.size+1) (λm W=>Bn w bp s (i+1) b0 (p:Int) m W);case atStart=>exact start
  case round=>
   clear start;obtain⟨j,sv,fs,xs,M,hj,g0,hm,I⟩:=hrel;obtain⟨sa,sc,rfl⟩:=zw M.A.row;have f8:fs.length<=300:=M_;have hC:=zy (ZP M.A.here (H.o.fr M.A.fr (Ne.symm U)) U hs hj);have e0:=M.A.fr.size;have f6:=M.A.hB;have g3:=M.A.w0;have e2:=zy (vg (s:=s) hj);have a6:=zy (bu s j hj);obtain⟨ti,e6,e7,e8,e9⟩:=info_parts oG;replace M:=zy M;replace I:=zy I;go_wp2_with (first
    |(go_at_call 188;apply hC.o.mono;rintro e X ⟨a,b,c,d,ev,rfl,b7,⟨J,rfl⟩,l,hm⟩;replace l:=zy l;rcases hm with⟨f,B,rfl,r,a3,hv,a5⟩|⟨k,hk,⟨g,a2,rfl,z⟩,j3,b9,Z⟩
      obtain⟨N,O,rfl⟩:=hv.2.2.1.iface
      have F:=(M.o.call r l).alloc (.cells #[Z_ a,.int .u8 b,.iface N O,.pointer J] 195)
      have b6:=(hv.mono (Q:=λg=>b0+1<=g/\(Value.slice sa fs.length sc).ownBlock≠some g) (λg _ hg=>⟨M_,λe=>by have:=M.o.A.row.lt g e;omega⟩)).fr ((A_ X N_).alloc (.cells #[Z_ a,.int .u8 b,.iface N O,.pointer J] 195)) u_
      have N1:=B_ X #[Z_ a,.int .u8 b,.iface N O,.pointer J] 195
      have t1:=F.A.b.c1
      obtain⟨n0,n1,n2,n3⟩:=N1.d4
      have f7:=(M.o.call r l).A.hB
      replace F:=zy F
      replace b6:=zy b6
      replace a5:=zy a5
      clear r hv N1 b7
      rotate_left
      replace hk:=zy hk
      replace z:=zy z
      replace Z:=zy Z
      rcases b7 with rfl|⟨cT,cx,rfl⟩)
    |(at_builtin;go_must (refine wpList_append_own_at _ rfl _ _ 189 rfl (b0+1) 195 ti _ 4 40 ui e6 e7 e8 e9 rfl D_ (.slice sa fs.length sc) fs.length xs rfl ?hown _ 1 1 [Z_ a,.int .u8 b,.iface N O,.pointer J] rfl rfl (zF _ #[Z_ a,.int .u8 b,.iface N O,.pointer J] _ _ ?nn) ?one ?b1 ?b2 ?b3 ?_)
      case hown=>exact World.ownsRow.alloc F.o.A.row _
      case nn=>simp
      case one=>simp[Value.oneCell']
      case b1=>unfold maxLen;omega
      case b2=>omega
      case b3=>simp;omega
      intro v5 w5 b4 a8 f1 d2
      have R:=F.o.item a8 b4 d2 b6
      have B5:=F.o.A.ie ((A_ _ _).alloc _) a8
      have e5:=B5.c1
      have f5:=B5.th 1
      obtain⟨g5,a7,rfl⟩:=zp b4 M_
      clear a8 d2 f1 b4 B5
      replace R:=zy R)
    |(go_at_call 100;apply(uZ 44 R.o.A.here hs a3 rfl D_).mono;rintro e w6 ⟨tb,rfl,a0,hT⟩;replace a0:=zy a0;rcases hT with⟨D,rfl,S,f0⟩|⟨D,rfl,S⟩<;>replace D:=zy D<;>replace S:=zy S))
   ·
    try go_ret
    rw[G.o];refine⟨.nilIface,_,.inl rfl,rfl,(M.o.A.fr.trans l u_).alloc _,?_⟩;rw[E.o,I.o,a6.o,hk.o];exact⟨⟨g,aj_ e0 a2,rfl,z.o.alloc _⟩,j3,b9,C_ Z _⟩
   ·
    try go_ret
    rw[G.o];refine⟨.nilIface,_,.inl rfl,rfl,(M.o.A.fr.trans l u_).alloc _,?_⟩;rw[E.o,I.o,a6.o,hk.o];exact⟨⟨g,aj_ e0 a2,rfl,z.o.alloc _⟩,j3,b9,C_ Z _⟩
   .have u:=R.o.call S a0;replace u:=zy u;have d8:H_ (xm s (i+1)=vX (fs++[f]) (xm s (B+1))/\j<B):=zy (by
     rcases a5.o with a4|⟨d7,rfl⟩
     .have:=(e2.o.1 f B a4)
      rw[I.o,a6.o,a4]
      simp only
      rw[n_ (by rw[D.o];decide),i_ D.o,fH]
      exact⟨rfl,M_⟩
     .have:=D.o
      rw[wi l_]at this
      exact absurd this D_)
    have g2:=d8.o.2;go_roundg (s.size+1-(B+1));case measure=>omega
    case rel=>exact⟨B+1,_,fs++[f],_,u,f0,by rw[ah_,ap_];omega,l_,d8.o.1⟩
   .have u:=R.o.call S a0;replace u:=zy u;have u0:=u.o.A.b.c0;have u1:=u.o.A.b.c1;have e4:zq w6 w6.drew:=zq.drew w6;have C:=u.o.si e4;have e1:=zy (yL (c:=41) 41 C.A.here (H.o.fr C.A.fr (Ne.symm U)) U hs a3 rfl D_);replace C:=zy C;refine tr_ 5 (λW=>z_ W b0 0 (I_ p)/\z_ W b0 1 (S_ g5 (fs.length+1) a7)) ?_;refine tz_ 0 ?_;refine tz_ 1 ?_;refine tz_ 2 ?_;refine zh 3 rfl K_ (λ_=>⟨u0,u1⟩) (λK hK=>?_);go_simp;apply e1.o.mono;rintro e w8 ⟨v8,rfl,a1,t⟩;refine hK _ _ ?_;clear hK K;have x:∃j8,j8<=s.size/\RF w bp s j8 b0 (p:Int) (S_ g5 (fs.length+1) a7) (fs++[f]) (xs++[Z_ a,.int .u8 b,.iface N O,.pointer J]) w8:=by
     rcases t with⟨_,_,v,d6⟩|⟨_,_,v⟩
     .exact⟨B+1,d6,C.o.call v a1⟩
     .exact⟨B,a3,C.o.call v a1⟩
    obtain⟨j8,g1,x⟩:=x;have x0:=x.A.b.c0;have x1:=x.A.b.c1;refine t1_ 4 ⟨x0,x1⟩ ?_;refine t1_ 5 ⟨x0,x1⟩ ?_;refine td_ ?_ _;revert a1 t x;refine h_ λa1 t x=>?_;clear x0 x1 u0 u1;go_wp2;try go_ret
    rw[G.o];refine⟨.iface 228 (.agg #[I_ p,(S_ g5 (fs.length+1) a7)]),v8,.inr ⟨_,_,rfl⟩,rfl,x.o.A.fr,?_⟩;rw[E.o,I.o,a6.o];have d9:=C.o.A.fr.size;rcases a5.o with a4|⟨d7,rfl⟩
    .rw[a4];simp only;rcases t.o with⟨hb,rfl,v,d6⟩|⟨hb,hF,v⟩
     .rw[i_ hb];exact⟨rfl,v,x.o.body p rfl⟩
     .rw[n_ hb,n_ D.o];exact⟨hF.ls d9,B,a3,v⟩
    .rw[d7];rcases t.o with⟨hb,_⟩|⟨hb,hF,v⟩
     .rw[wi l_]at hb;exact absurd hb D_
     .exact⟨hF.ls d9,_,l_,v⟩
def sj(w:Aw)(bp:Nat)(s:BA)(i p:Nat)(et:Av)(ex:Ax)(e:Ak)(w':Aw):Prop:=
 ∃v ev,IfV v/\e=.returned (.tuple #[v,ev])/\Fr w w' (· = bp)/\
 match xl s i with
 | .ok ((l,o),j)=>ev=.nilIface/\PAt w' bp s j/\(pB s p (.enum l o)->yX w' (λg=>w.heap.size<=g) s (.enum l o) v)
 | .error k=>zA w' w.heap.size ev (k:Int) (.iface et ex)/\∃j,j<=s.size/\PAt w' bp s j
def fP(l:As)(c p:Nat):zI (l++[(c,p)])=zI l++[I_ p,U_ c]:=by
 simp[zI]
def AM.put{w W:Aw}{bp:Nat}{s:BA}{j b0:Nat}{L:Ay}{T ET:Av}{k:Nat}{sv:Ax}{n:Nat}{xs:Ay}(M:AM w bp s j b0 L T ET k sv n xs W)(c:Nat)(v:Ax):AM w bp s j b0 (L.set c v) T ET k sv n xs (W.setCell ⟨b0,c,none⟩ v):=by
 have h1:=M.lt;have a:=M.w0;have a:Fr W (W.setCell ⟨b0,c,none⟩ v) (λg=>g=b0):=(A_ W (λg=>g=b0)).setCell ⟨b0,c,none⟩ v (λ_=>rfl);exact⟨a.bl M.here M_,M.fr.trans a (λx hx e=>M_),M.lt,M.w0,aj_ M.hB a.size,M.b.set c v,zj M.row a (λg hg e=>by have:=M.row.lt g hg;omega)⟩
def BY(w:Aw)(bp:Nat)(s:BA)(i b0:Nat)(p:Int)(m:Nat)(W:Aw):Prop:=
 ∃j sv l,AM w bp s j b0 [Z_ p,sv,.pointer none] 233 192 2 sv l.length (zI l) W/\j<=s.size/\i+l.length<=j/\s.size+1-j<=m/\xl s i=gB s l (qS s j)
def kN:Tryz.prog.underlying 230=some (.slice 192):=K_
def JU:(Tryz.prog.info? 192).map (λi=>(i.zero,i.size,i.bytes))=some (some (.agg #[O_,.int .u8 0]),2,16):=K_
def nV{w W:Aw}{bp:Nat}{s:BA}{j b0 x y p:Nat}{l:As}{sv u:Ax}{o:Ac}{L:Ay}(M:AM w bp s j b0 L 233 192 2 sv (l.length+1) (zI l++[I_ y,U_ x]) W)(hu:qu W (λg=>w.heap.size<=g) o u)(hb:pB s p (.enum (l++[(x,y)]) o)):yX W (λg=>w.heap.size<=g) s (.enum (l++[(x,y)]) o) (.iface 233 (.agg #[I_ p,sv,u])):=by
 have:=M.w0;refine .enum p ?_ (λg e=>by have:=M.row.lt g e;omega) hu hb;rw[fP,ah_,ap_];exact yr M.row
def VR{w:Aw}{bp:Nat}{s:BA}{p:Nat}(h:PAt w bp s i)(hG:pF w et ex)(X:bp≠0)(hs:s.size<=300)(hi:i<=s.size):Calls prog 144 #[P_ bp,I_ p] w (sj w bp s i p et ex):=by
 obtain⟨f2,Q_⟩:=y_ (sj w bp s i p et ex);rw[<- Q_.o];have e4:=h.lt;have f9:=World.block_lt_of_cell? w ⟨0,0,none⟩ hG;replace hG:=zy hG;have Q:=zy (yL 40 (c:=40) h hG X hs hi rfl D_);clear h;by_cases h40:bt s i=40;case neg=>
  have d2:=zy (show xl s i=.error i by unfold xl;rw[n_ h40]);replace h40:=zy h40;go_in;go_wp2_with (go_at_call 99;apply Q.o.mono;rintro e w1 ⟨v1,rfl,a3,hm⟩;obtain⟨g,a9,rfl,U,h1⟩:∃g,w.heap.size<=g/\v1=.iface 185 (P_ g)/\Blk w1 g [I_ i,.iface et ex] 187/\PAt w1 bp s i:=xn_;replace a3:=zy a3;replace U:=zy U;replace h1:=zy h1);try go_ret
  rw[Q_.o];refine⟨.nilIface,_,.inl rfl,rfl,a3,?_⟩;rw[d2.o];exact⟨⟨g,a9,rfl,U⟩,i,hi,h1⟩
 case pos=>
  have e7:i+1<=s.size:=zm (s:=s) (i:=i) M_;have d2:=zy (show xl s i=gB s [] (qS s (i+1)) by rw[aU,i_ h40]);replace h40:=zy h40;go_in;go_wp2_with (go_at_call 99;apply Q.o.mono;rintro e w1 ⟨v1,rfl,a3,hm⟩;obtain⟨rfl,h1⟩:v1=.nilIface/\PAt w1 bp s (i+1):=xj_;have e8:=a3.size;have start:=zy (⟨i+1,L_,[],⟨C_ h1 _,a3.alloc _,e4,e8,x8_,B_ w1 _ _,World.ownsRow_nil _ _ _ _⟩,e7,x8_,M_,d2⟩:BY w bp s i w1.heap.size (p:Int) (s.size+1) (w1.alloc (.cells #[I_ p,L_,.pointer none] 233)));clear a3 hm h1 Q);obtain⟨b0,e3⟩:=e_ w1.heap.size;rw[<- e3]at start⊢;clear e3;go_loopg [] (s.size+1) (λm W=>BY w bp s i b0 (p:Int) m W);case atStart=>exact start
  case round=>
   clear start d2;obtain⟨j,sv,l,M,hj,g0,hm,D⟩:=hrel;obtain⟨sa,sc,rfl⟩:=zw M.row;have f8:l.length<=300:=M_;have hC:=zy (xR M.here (hG.o.fr M.fr (Ne.symm X)) X hs hj);have f0:=M.fr.size;have f7:=M.hB;have g2:=M.w0;rw[gP]at D;obtain⟨ti,b6,b7,b8,b9⟩:=info_parts JU;replace M:=zy M;obtain⟨x,hx⟩:=x_ (bt s j);cases hsm:zl x with
   |false=>
    have a5:=zy (show xl s i=.error j by rw[D,hx,hsm];rfl);replace hsm:=zy (show zl (bt s j)=false by rw[hx];exact hsm);replace hx:=zy hx;clear D;go_wp2_with (first
     |(go_at_call 189;apply hC.o.mono;rintro e N ⟨a,b,O,rfl,t,hm⟩;obtain⟨g,a9,rfl,U,r⟩:∃g,wr.heap.size<=g/\O=.iface 185 (P_ g)/\Blk N g [I_ j,.iface et ex] 187/\PAt N bp s j:=xk_;replace t:=zy t;replace U:=zy U;replace r:=zy r))
    try go_ret
    rw[Q_.o];refine⟨.nilIface,_,.inl rfl,rfl,(M.o.fr.trans t u_).alloc _,?_⟩;rw[a5.o];exact⟨⟨g,aj_ f0 a9,rfl,U.o.alloc _⟩,j,hj,C_ r _⟩
   |true=>
   have a0:j+1<=s.size:=zm (xh (by rw[hx];exact hsm));rw[hx,hsm,i_ rfl]at D;replace hsm:=zy (show zl (bt s j)=true by rw[hx];exact hsm);replace hx:=zy hx;obtain⟨y,hy⟩:=x_ (bt s (j+1));rw[hy]at D;by_cases e2:y=44;case pos=>
    subst e2;rw[i_ rfl]at D;replace D:=zy D;have a6:j+1+1<=s.size:=zm (s:=s) (i:=j+1) M_;replace hy:=zy hy;go_wp2_with (first
     |(go_at_call 189;apply hC.o.mono;rintro e N ⟨a,b,O,rfl,t,hm⟩;obtain⟨rfl,rfl,rfl,r⟩:a=(j:Int)/\b=(x:Int)/\O=.nilIface/\PAt N bp s (j+1):=x2_;have f:=(M.o.call r t).alloc (.cells #[I_ j,U_ x] 192);have G:=B_ N #[I_ j,U_ x] 192;have t1:=f.b.c1;have n0:=G.c0;have n1:=G.c1;have d8:=(M.o.call r t).hB;replace f:=zy f;clear r t G hm)
     |(at_builtin;go_must (refine wpList_append_own_at _ rfl _ _ 230 rfl (b0+1) 192 ti _ 2 16 kN b6 b7 b8 b9 rfl D_ (.slice sa l.length sc) l.length (zI l) rfl ?hown _ 1 1 [I_ j,U_ x] rfl rfl (zF _ #[I_ j,U_ x] _ _ ?nn) ?one ?b1 ?b2 ?b3 ?_)
       case hown=>exact World.ownsRow.alloc f.o.row _
       case nn=>simp
       case one=>simp[Value.oneCell']
       case b1=>unfold maxLen;omega
       case b2=>omega
       case b3=>simp;omega
       intro v5 w5 J I a7 V
       have d:=(f.o.item ((A_ _ _).alloc _) I J V 1).1
       have E:=f.o.ie ((A_ _ _).alloc _) I
       have e5:=E.c1
       have f5:=E.th 1
       obtain⟨S,R,rfl⟩:=zp J M_
       clear I V a7 J E
       replace d:=zy d)
     |(go_at_call 100;apply(yV d.o.here hs a0 hy D_ D_).mono;rintro e w6 ⟨rfl,B,A⟩;have u:=zy (d.o.call A B);clear B A))
    go_roundg (s.size+1-(j+2));case measure=>omega
    case rel=>
     refine⟨j+2,S_ S (l.length+1) R,l++[(x,j)],?_,a6,by rw[ah_,ap_];omega,l_,D⟩;rw[fP,ah_,ap_];exact u
   case neg=>
   rw[n_ e2]at D;by_cases e1:y=33;case neg=>
    have a5:=zy (show xl s i=if bt s (j+1)=41 then .ok ((l++[(x,j)],none),j+2) else .error (j+1) by rw[D];unfold oM;rw[hy,n_ e1]);replace hy:=zy hy;clear D;go_wp2_with (first
     |(go_at_call 189;apply hC.o.mono;rintro e N ⟨a,b,O,rfl,t,hm⟩;obtain⟨rfl,rfl,rfl,r⟩:a=(j:Int)/\b=(x:Int)/\O=.nilIface/\PAt N bp s (j+1):=x2_;have f:=(M.o.call r t).alloc (.cells #[I_ j,U_ x] 192);have G:=B_ N #[I_ j,U_ x] 192;have t1:=f.b.c1;have n0:=G.c0;have n1:=G.c1;have d8:=(M.o.call r t).hB;replace f:=zy f;clear r t G hm)
     |(at_builtin;go_must (refine wpList_append_own_at _ rfl _ _ 230 rfl (b0+1) 192 ti _ 2 16 kN b6 b7 b8 b9 rfl D_ (.slice sa l.length sc) l.length (zI l) rfl ?hown _ 1 1 [I_ j,U_ x] rfl rfl (zF _ #[I_ j,U_ x] _ _ ?nn) ?one ?b1 ?b2 ?b3 ?_)
       case hown=>exact World.ownsRow.alloc f.o.row _
       case nn=>simp
       case one=>simp[Value.oneCell']
       case b1=>unfold maxLen;omega
       case b2=>omega
       case b3=>simp;omega
       intro v5 w5 J I a7 V
       have d:=(f.o.item ((A_ _ _).alloc _) I J V 1).1
       have E:=f.o.ie ((A_ _ _).alloc _) I
       have e5:=E.c1
       have f5:=E.th 1
       obtain⟨S,R,rfl⟩:=zp J M_
       clear I V a7 J E
       replace d:=zy d)
     |(go_at_call 100;apply(yJ d.o.here hs a0 hy M_ D_).mono;rintro e w6 ⟨rfl,B,A⟩;have a2:=d.o.call A B;clear d;have d:=zy a2;clear a2 B A))
    obtain⟨u0,u1,u2⟩:=d.o.b.f3;simp only[am_,ao_,aa_,ab_]at u0 u1 u2;obtain⟨wd,b5⟩:=e_ ((w6).drew);have a8:zq (w6) wd:=b5▸zq.drew _;have v:=d.o.call (d.o.here.si a8) ((A_ _ _).si a8);have d7:=zy (yL (c:=41) 41 v.here (hG.o.fr v.fr (Ne.symm X)) X hs a0 rfl D_);replace v:=zy v;refine tr_ 5 (λW=>z_ W b0 0 (I_ p)/\z_ W b0 1 (S_ S (l.length+1) R)/\z_ W b0 2 (.pointer none)) ?_;refine tz_ 0 ?_;refine tz_ 1 ?_;refine tz_ 2 ?_;refine zh 3 rfl K_ (λ_=>⟨u0,u1,u2⟩) (λK hK=>?_);go_simp;rw[<- b5];apply d7.o.mono;rintro e w8 ⟨v8,rfl,Y,Q⟩;refine hK _ _ ?_;clear hK K;have F:∃j8,j8<=s.size/\AM w bp s j8 b0 [I_ p,(S_ S (l.length+1) R),.pointer none] 233 192 2 (S_ S (l.length+1) R) (l.length+1) (zI l++[I_ j,U_ x]) w8:=by
     rcases Q with⟨_,_,H,b4⟩|⟨_,_,H⟩
     .exact⟨_,b4,v.o.call H Y⟩
     .exact⟨_,a0,v.o.call H Y⟩
    obtain⟨j8,e6,F⟩:=F;obtain⟨x0,x1,x2⟩:=F.b.d3;refine t1_ 4 ⟨x0,x1,x2⟩ ?_;refine t1_ 5 ⟨x0,x1,x2⟩ ?_;refine td_ ?_ _;revert Y Q F;refine h_ λY Q F=>?_;clear x0 x1 x2 u0 u1 u2;go_wp2;try go_ret
    rw[Q_.o];refine⟨.iface 233 (.agg #[I_ p,(S_ S (l.length+1) R),.pointer none]),v8,.inr ⟨_,_,rfl⟩,rfl,F.o.fr,?_⟩;have e0:=v.o.fr.size;have f1:=v.o.w0;rw[a5.o];rcases Q.o with⟨hb,rfl,H,b4⟩|⟨hb,hF,H⟩
    .rw[i_ hb];exact⟨rfl,H,nV F rfl⟩
    .rw[n_ hb];exact⟨hF.ls e0,_,a0,H⟩
   case pos=>
   subst e1;have a6:j+1+1<=s.size:=zm (s:=s) (i:=j+1) M_;have g1:(33:Nat)≠44:=D_;obtain⟨q2,Z⟩:=e_ (j+1+1);obtain⟨z,hz⟩:=x_ (bt s (q2));cases a1:zl z with
   |false=>
    have a5:=zy (show xl s i=.error q2 by rw[D];unfold oM;rw[hy,i_ rfl,show j+1+1=q2 from Z.symm,hz,a1];rfl);rw[<- Z]at a6;replace Z:=zy Z;replace a1:=zy (show zl (bt s (q2))=false by rw[hz];exact a1);replace hy:=zy hy;replace hz:=zy hz;clear D;go_wp2_with (first
     |(go_at_call 189;apply hC.o.mono;rintro e N ⟨a,b,O,rfl,t,hm⟩;obtain⟨rfl,rfl,rfl,r⟩:a=(j:Int)/\b=(x:Int)/\O=.nilIface/\PAt N bp s (j+1):=x2_;have f:=(M.o.call r t).alloc (.cells #[I_ j,U_ x] 192);have G:=B_ N #[I_ j,U_ x] 192;have t1:=f.b.c1;have n0:=G.c0;have n1:=G.c1;have d8:=(M.o.call r t).hB;replace f:=zy f;clear r t G hm)
     |(at_builtin;go_must (refine wpList_append_own_at _ rfl _ _ 230 rfl (b0+1) 192 ti _ 2 16 kN b6 b7 b8 b9 rfl D_ (.slice sa l.length sc) l.length (zI l) rfl ?hown _ 1 1 [I_ j,U_ x] rfl rfl (zF _ #[I_ j,U_ x] _ _ ?nn) ?one ?b1 ?b2 ?b3 ?_)
       case hown=>exact World.ownsRow.alloc f.o.row _
       case nn=>simp
       case one=>simp[Value.oneCell']
       case b1=>unfold maxLen;omega
       case b2=>omega
       case b3=>simp;omega
       intro v5 w5 J I a7 V
       have d:=(f.o.item ((A_ _ _).alloc _) I J V 1).1
       have E:=f.o.ie ((A_ _ _).alloc _) I
       have e5:=E.c1
       have f5:=E.th 1
       obtain⟨S,R,rfl⟩:=zp J M_
       clear I V a7 J E
       replace d:=zy d)
     |(go_at_call 100;apply(yV d.o.here hs a0 hy D_ D_).mono;rintro e w6 ⟨rfl,B,A⟩;have u:=d.o.call A B;rw[<- Z.o]at u;have d6:=zy (xR u.here (hG.o.fr u.fr (Ne.symm X)) X hs a6);replace u:=zy u;clear B A)
     |(go_at_call 100;apply(yJ d.o.here hs a0 hy M_ D_).mono;rintro e w6 ⟨rfl,B,A⟩;have a2:=d.o.call A B;clear d;have d:=zy a2;clear a2 B A)
     |(go_at_call 189;apply d6.o.mono;rintro e C ⟨a,b,O,rfl,a4,hm⟩;obtain⟨g,a9,rfl,U,h7⟩:∃g,w6.heap.size<=g/\O=.iface 185 (P_ g)/\Blk C g [I_ q2,.iface et ex] 187/\PAt C bp s q2:=(by rcases hm with⟨hq,_⟩|⟨_,⟨g,q1,q2,q3⟩,q4⟩;(exact absurd (a1.o.symm.trans hq) D_);exact⟨g,q1,q2,q3,q4⟩);replace a4:=zy a4;replace U:=zy U;replace h7:=zy h7))
    try go_ret
    rw[Q_.o];refine⟨.nilIface,_,.inl rfl,rfl,(u.o.fr.trans a4 u_).alloc _,?_⟩;rw[a5.o];have e9:=u.o.fr.size;exact⟨⟨g,aj_ e9 a9,rfl,U.o.alloc _⟩,_,a6,C_ h7 _⟩
   |true=>
    have d9:q2+1<=s.size:=zm (xh (by rw[hz];exact a1));have a5:=zy (show xl s i=if bt s (q2+1)=41 then .ok ((l++[(x,j)],some (z,q2)),q2+1+1) else .error (q2+1) by rw[D];unfold oM;rw[hy,i_ rfl,show j+1+1=q2 from Z.symm,hz,a1,i_ rfl,show j+1+2=q2+1 by omega,show j+1+3=q2+1+1 by omega]);rw[<- Z]at a6;replace Z:=zy Z;replace a1:=zy (show zl (bt s (q2))=true by rw[hz];exact a1);replace hy:=zy hy;replace hz:=zy hz;clear D;go_wp2_with (first
     |(go_at_call 189;apply hC.o.mono;rintro e N ⟨a,b,O,rfl,t,hm⟩;obtain⟨rfl,rfl,rfl,r⟩:a=(j:Int)/\b=(x:Int)/\O=.nilIface/\PAt N bp s (j+1):=x2_;have f:=(M.o.call r t).alloc (.cells #[I_ j,U_ x] 192);have G:=B_ N #[I_ j,U_ x] 192;have t1:=f.b.c1;have n0:=G.c0;have n1:=G.c1;have d8:=(M.o.call r t).hB;replace f:=zy f;clear r t G hm)
     |(at_builtin;go_must (refine wpList_append_own_at _ rfl _ _ 230 rfl (b0+1) 192 ti _ 2 16 kN b6 b7 b8 b9 rfl D_ (.slice sa l.length sc) l.length (zI l) rfl ?hown _ 1 1 [I_ j,U_ x] rfl rfl (zF _ #[I_ j,U_ x] _ _ ?nn) ?one ?b1 ?b2 ?b3 ?_)
       case hown=>exact World.ownsRow.alloc f.o.row _
       case nn=>simp
       case one=>simp[Value.oneCell']
       case b1=>unfold maxLen;omega
       case b2=>omega
       case b3=>simp;omega
       intro v5 w5 J I a7 V
       have d:=(f.o.item ((A_ _ _).alloc _) I J V 1).1
       have E:=f.o.ie ((A_ _ _).alloc _) I
       have e5:=E.c1
       have f5:=E.th 1
       obtain⟨S,R,rfl⟩:=zp J M_
       clear I V a7 J E
       replace d:=zy d)
     |(go_at_call 100;apply(yV d.o.here hs a0 hy D_ D_).mono;rintro e w6 ⟨rfl,B,A⟩;have u:=d.o.call A B;rw[<- Z.o]at u;have d6:=zy (xR u.here (hG.o.fr u.fr (Ne.symm X)) X hs a6);replace u:=zy u;clear B A)
     |(go_at_call 100;apply(yJ d.o.here hs a0 hy M_ D_).mono;rintro e w6 ⟨rfl,B,A⟩;have a2:=d.o.call A B;clear d;have d:=zy a2;clear a2 B A)
     |(go_at_call 189;apply d6.o.mono;rintro e C ⟨a,b,O,rfl,a4,hm⟩;obtain⟨rfl,rfl,rfl,h7⟩:a=(q2:Int)/\b=(z:Int)/\O=.nilIface/\PAt C bp s (q2+1):=(by rcases hm with⟨_,q1,q2,q3,q4,_⟩|⟨hq,_⟩;(exact⟨q1,q2.trans (by rw[hz.o]),q3,q4⟩);exact absurd (a1.o.symm.trans hq) D_);have M7:=(u.o.call h7 a4).alloc (.cells #[I_ q2,U_ z] 192);have N7:=B_ C #[I_ q2,U_ z] 192;have k2:=M7.b.cell 2;have kg:=M7.b.th 2;simp only[am_,ao_,aa_,ab_]at k2;have f6:=(u.o.call h7 a4).hB;have M8:=M7.put 2 (P_ C.heap.size);have N8:=zy (T_ N7 (a:=⟨b0,2,none⟩) (P_ C.heap.size) (by show ¬(C.heap.size=b0);omega));replace M8:=zy M8;clear h7 a4 N7 hm M7))
    obtain⟨u0,u1,u2⟩:=M8.o.b.f3;simp only[am_,ao_,aa_,ab_]at u0 u1 u2;obtain⟨wd,b5⟩:=e_ (((C.alloc (.cells #[I_ q2,U_ z] 192)).setCell ⟨b0,2,none⟩ (P_ C.heap.size)).drew);have a8:zq ((C.alloc (.cells #[I_ q2,U_ z] 192)).setCell ⟨b0,2,none⟩ (P_ C.heap.size)) wd:=b5▸zq.drew _;have v:=M8.o.call (M8.o.here.si a8) ((A_ _ _).si a8);have d7:=zy (yL (c:=41) 41 v.here (hG.o.fr v.fr (Ne.symm X)) X hs d9 rfl D_);replace v:=zy v;refine tr_ 5 (λW=>z_ W b0 0 (I_ p)/\z_ W b0 1 (S_ S (l.length+1) R)/\z_ W b0 2 (P_ C.heap.size)) ?_;refine tz_ 0 ?_;refine tz_ 1 ?_;refine tz_ 2 ?_;refine zh 3 rfl K_ (λ_=>⟨u0,u1,u2⟩) (λK hK=>?_);go_simp;rw[<- b5];apply d7.o.mono;rintro e w8 ⟨v8,rfl,Y,Q⟩;refine hK _ _ ?_;clear hK K;have F:∃j8,j8<=s.size/\AM w bp s j8 b0 [I_ p,(S_ S (l.length+1) R),P_ C.heap.size] 233 192 2 (S_ S (l.length+1) R) (l.length+1) (zI l++[I_ j,U_ x]) w8:=by
     rcases Q with⟨_,_,H,b4⟩|⟨_,_,H⟩
     .exact⟨_,b4,v.o.call H Y⟩
     .exact⟨_,d9,v.o.call H Y⟩
    obtain⟨j8,e6,F⟩:=F;obtain⟨x0,x1,x2⟩:=F.b.d3;refine t1_ 4 ⟨x0,x1,x2⟩ ?_;refine t1_ 5 ⟨x0,x1,x2⟩ ?_;refine td_ ?_ _;revert Y Q F;refine h_ λY Q F=>?_;clear x0 x1 x2 u0 u1 u2;go_wp2;try go_ret
    rw[Q_.o];refine⟨.iface 233 (.agg #[I_ p,(S_ S (l.length+1) R),P_ C.heap.size]),v8,.inr ⟨_,_,rfl⟩,rfl,F.o.fr,?_⟩;have e0:=v.o.fr.size;have f1:=v.o.w0;rw[a5.o];rcases Q.o with⟨hb,rfl,H,b4⟩|⟨hb,hF,H⟩
    .rw[i_ hb];have hN:Blk w8 C.heap.size [I_ q2,U_ z] 192:=Y.o.bl (((A_ _ N_).si a8).bl N8 id) (by have:=M.o.lt;omega);exact⟨rfl,H,nV F ⟨C.heap.size,M_,rfl,hN⟩⟩
    .rw[n_ hb];exact⟨hF.ls e0,_,d9,H⟩
def sk(w:Aw)(bp:Nat)(s:BA)(i:Nat)(et:Av)(ex:Ax)(e:Ak)(w':Aw):Prop:=
 ∃v ev,IfV v/\e=.returned (.tuple #[v,ev])/\Fr w w' (· = bp)/\
 match yK s i with
 | .ok (b,j)=>ev=.nilIface/\PAt w' bp s j/\yX w' (λg=>w.heap.size<=g) s b v
 | .error k=>zA w' w.heap.size ev (k:Int) (.iface et ex)/\∃j,j<=s.size/\PAt w' bp s j
def tB{w:Aw}{bp:Nat}{s:BA}(h:PAt w bp s i)(B:pF w et ex)(D:bp≠0)(hs:s.size<=300)(hi:i<=s.size):Calls prog 98 #[P_ bp] w (sk w bp s i et ex):=by
 obtain⟨N,E⟩:=y_ (sk w bp s i et ex);rw[<- E.o];have O:=h.lt;have a:=zy (And.intro h (A_ w (λx=>x=bp)));replace B:=zy B;by_cases u:bt s i=114
 .have C:i+1<=s.size:=zm (s:=s) (i:=i) M_;have hp:=zy (tM u);have hx:=zy u;go_in;go_wp2_with (first
   |(go_at_call 97;refine(ym a.o.1).mono ?_;rintro e w' ⟨rfl,z⟩;rw[z])
   |(go_at_call 100;refine(yV a.o.1 hs hi hx D_ D_).mono ?_;rintro e w' ⟨rfl,c,b⟩;have f:=zy (And.intro b (a.o.2.trans c u_)))
   |(go_at_call 143;refine(ah (p:=i) f.o.1 (B.o.fr f.o.2 (Ne.symm D)) D hs C).mono ?_;rintro e M ⟨v,F,m,rfl,q,hm⟩;replace q:=zy q;replace hm:=zy hm;replace m:=zy m))
  try go_ret
  rw[E.o];have t:=f.o.2.size;refine⟨v,F,m,rfl,f.o.2.trans q u_,?_⟩;rw[hp.o];have d:=hm.o;cases y:yf s (i+1) with
  |error k=>rw[y]at d;exact⟨d.1.ls t,d.2⟩
  |ok r=>
   obtain⟨fs,j⟩:=r;rw[y]at d;exact⟨d.1,d.2.1,(d.2.2 ⟨j,by rw[hp.o,y]⟩).mono (λg _ hg=>aj_ t hg)⟩
 .by_cases A:bt s i=101
  .have C:i+1<=s.size:=zm (s:=s) (i:=i) M_;have hp:=zy (lB A);have hx:=zy A;go_in;go_wp2_with (first
    |(go_at_call 97;refine(ym a.o.1).mono ?_;rintro e w' ⟨rfl,z⟩;rw[z])
    |(go_at_call 100;refine(yV a.o.1 hs hi hx D_ D_).mono ?_;rintro e w' ⟨rfl,c,b⟩;have f:=zy (And.intro b (a.o.2.trans c u_)))
    |(go_at_call 100;refine(yJ a.o.1 hs hi hx D_ D_).mono ?_;rintro e w' ⟨rfl,c,b⟩;replace a:=zy (And.intro b (a.o.2.trans c u_)))
    |(go_at_call 144;refine(VR (p:=i) f.o.1 (B.o.fr f.o.2 (Ne.symm D)) D hs C).mono ?_;rintro e M ⟨v,F,m,rfl,q,hm⟩;replace q:=zy q;replace hm:=zy hm;replace m:=zy m))
   try go_ret
   rw[E.o];have t:=f.o.2.size;refine⟨v,F,m,rfl,f.o.2.trans q u_,?_⟩;rw[hp.o];have d:=hm.o;cases y:xl s (i+1) with
   |error k=>rw[y]at d;exact⟨d.1.ls t,d.2⟩
   |ok r=>
    obtain⟨⟨l,o⟩,j⟩:=r;rw[y]at d;exact⟨d.1,d.2.1,(d.2.2 ⟨j,by rw[hp.o,y]⟩).mono (λg _ hg=>aj_ t hg)⟩
  .by_cases G:bt s i=102
   .have C:i+1<=s.size:=zm (s:=s) (i:=i) M_;have hp:=zy (gv G);have hx:=zy G;go_in;go_wp2_with (first
     |(go_at_call 97;refine(ym a.o.1).mono ?_;rintro e w' ⟨rfl,z⟩;rw[z])
     |(go_at_call 100;refine(yV a.o.1 hs hi hx D_ D_).mono ?_;rintro e w' ⟨rfl,c,b⟩;have f:=zy (And.intro b (a.o.2.trans c u_)))
     |(go_at_call 100;refine(yJ a.o.1 hs hi hx D_ D_).mono ?_;rintro e w' ⟨rfl,c,b⟩;replace a:=zy (And.intro b (a.o.2.trans c u_)))
     |(go_at_call 145;refine(ZB (p:=(i:Int)) f.o.1 (B.o.fr f.o.2 (Ne.symm D)) hs C).mono ?_;rintro e M ⟨v,F,m,rfl,q,hm⟩;replace q:=zy q;replace hm:=zy hm;replace m:=zy m))
    try go_ret
    rw[E.o];have t:=f.o.2.size;refine⟨v,F,m,rfl,f.o.2.trans q u_,?_⟩;rw[hp.o];rcases hm.o with⟨I,J,rfl,rfl,q3,_⟩|⟨I,J,q3⟩
    .rw[i_ ⟨I,J⟩];exact⟨rfl,q3,.bytes i _ ⟨_,by rw[hp.o,i_ ⟨I,J⟩]⟩⟩
    .rw[n_ I];exact⟨J.ls t,_,C,q3⟩
   .have hp:=zy (tC u A G);obtain⟨x,hx⟩:=x_ (bt s i);rw[hx]at u A G;replace hx:=zy hx;go_in;go_wp2_with (first
     |(go_at_call 97;refine(ym a.o.1).mono ?_;rintro e w' ⟨rfl,z⟩;rw[z])
     |(go_at_call 100;refine(yJ a.o.1 hs hi hx M_ D_).mono ?_;rintro e w' ⟨rfl,c,b⟩;replace a:=zy (And.intro b (a.o.2.trans c u_)))
     |(go_at_call 75;refine(xS a.o.1 (B.o.fr a.o.2 (Ne.symm D))).mono ?_;rintro e Q ⟨v,rfl,K,H⟩;replace K:=zy K;replace H:=zy H))
    try go_ret
    rw[E.o];have t:=a.o.2.size;refine⟨.nilIface,v,.inl rfl,rfl,a.o.2.trans H v_,?_⟩;rw[hp.o];exact⟨K.o.ls t,i,hi,H.o.bl a.o.1 id⟩
def atD(s:BA)(i:Nat):Bool:=zo (bt s i)&&decide (i+1<s.size)&&decide (bt s (i+1)=61)
def jK{w:Aw}{bp:Nat}{s:BA}(h:PAt w bp s i)(hs:s.size<=300)(hi:i<=s.size):Calls prog 72 #[P_ bp] w λe w'=>e=.returned (.bool (atD s i))/\zq w w':=by
 have c0:=h.c0;have c1:=h.c1;obtain⟨x,hx⟩:=x_ (bt s i);have c:H_ (∀q,Calls prog 96 #[P_ bp] (w.drewN q) λe w'=>e=.returned (U_ x)/\∃m,w'=(w.drewN q).drewN m):=zy (λq=>by rw[<- hx];exact yb (h.si (zq.drewN w q)) hs hi);have d:H_ (∀(q:Nat) (b:Bool),zo x=b->Calls prog 95 #[U_ x] (w.drewN q) λe w'=>e=.returned (.bool b)/\w'=w.drewN q):=zy (λq b hb=>by rw[<- hb];exact wD x _);unfold atD;rw[hx];clear h hx;cases hn:zo x with
 |false=>
  replace hn:=zy hn;go_in;go_wp2;go_quiet (first|(go_at_call 96;exact Calls.quiet_of (c.o _))|(go_at_call 95;exact Calls.quiet_of_same (d.o _ _ hn)));go_wp2;try go_ret
  exact⟨rfl,zq.drewN _ _⟩
 |true=>
  replace hn:=zy hn;by_cases h1:i+1<s.size
  .obtain⟨k,hk⟩:=e_ (i+1);have g:IntKind.i64.wrap ((i:Int)+1)=(k:Int):=xx_
   rw[<- hk]at h1;rw[<- hk];have a:(k:Int)<(s.size:Int):=M_;have f:decide ((k:Int)<(s.size:Int))=true:=decide_eq_true a;have hb:(((s[k]'h1).toNat:Int)==61)=decide (bt s k=61):=by
    rw[vH s k h1];by_cases e:(s[k]'h1).toNat=61
    .rw[e];rfl
    .rw[decide_eq_false e,beq_eq_false_iff_ne];omega
   have hd:decide (k<s.size)=true:=decide_eq_true h1;clear hk;rw[hd,Bool.true_and,Bool.true_and,<- hb];clear hd hb;go_in;go_wp2;go_quiet (first|(go_at_call 96;exact Calls.quiet_of (c.o _))|(go_at_call 95;exact Calls.quiet_of_same (d.o _ _ hn)));go_wp2;try go_ret
   exact⟨rfl,zq.drewN _ _⟩
  .have a:¬((i:Int)+1<(s.size:Int)):=M_;have g:IntKind.i64.wrap ((i:Int)+1)=(i:Int)+1:=xx_
   have f:decide ((i:Int)+1<(s.size:Int))=false:=decide_eq_false a;have hd:decide (i+1<s.size)=false:=decide_eq_false h1;rw[hd,Bool.and_false,Bool.false_and];clear hd;go_in;go_wp2;go_quiet (first|(go_at_call 96;exact Calls.quiet_of (c.o _))|(go_at_call 95;exact Calls.quiet_of_same (d.o _ _ hn)));go_wp2;try go_ret
   exact⟨rfl,zq.drewN _ _⟩
def Fr.three(w:Aw)(b:Nat)(a c d:Ax):Fr w (((w.setCell ⟨b,0,none⟩ a).setCell ⟨b,1,none⟩ c).setCell ⟨b,2,none⟩ d) (λg=>g=b):=
 (((A_ w (λg=>g=b)).setCell ⟨b,0,none⟩ a (λ_=>rfl)).setCell ⟨b,1,none⟩ c (λ_=>rfl)).setCell ⟨b,2,none⟩ d (λ_=>rfl)
def Blk.three{w:Aw}{b t:Nat}{u0 a u2:Ax}(h:Blk w b [u0,a,u2] t)(a c d:Ax):Blk (((w.setCell ⟨b,0,none⟩ a).setCell ⟨b,1,none⟩ c).setCell ⟨b,2,none⟩ d) b [a,c,d] t:=
 ((h.set 0 a).set 1 c).set 2 d
def yX.iface{w:Aw}{P:Az}{s:BA}{b:PB}{v:Ax}(h:yX w P s b v):∃T x,v=.iface T x:=by
 cases h<;>exact⟨_,_,rfl⟩
def PAt.two{w:Aw}{bp:Nat}{s:BA}(h:PAt w bp s i):PAt (w.setCell ⟨bp,1,none⟩ (Z_ ((i:Int)+2))) bp s (i+2):=G_ h 1 _
def Vm(w:Aw)(bp:Nat)(s:BA)(i:Nat)(et:Av)(ex:Ax)(e:Ak)(w':Aw):Prop:=
 ∃(a b:Int) (c ev:Value),e=.returned (.tuple #[.agg #[Z_ a,.int .u8 b,c],ev])/\IfV c/\Fr w w' (· = bp)/\
 match yK s (i+2) with
 | .ok (pb,j)=>if bt s j=59 then ev=.nilIface/\PAt w' bp s (j+1)/\j<s.size/\a=(i:Int)/\b=(bt s i:Int)/\yX w' (λg=>w.heap.size<=g) s pb c else zA w' w.heap.size ev (j:Int) (.iface et ex)/\∃j,j<=s.size/\PAt w' bp s j
 | .error k=>zA w' w.heap.size ev (k:Int) (.iface et ex)/\∃j,j<=s.size/\PAt w' bp s j
def lJ{w:Aw}{bp:Nat}{s:BA}(h:PAt w bp s i)(hG:pF w et ex)(G:bp≠0)(hs:s.size<=300)(hi:i+2<=s.size)(a2:∀pb j,yK s (i+2)=.ok (pb,j)->j<=s.size):Calls prog 73 #[P_ bp] w (Vm w bp s i et ex):=by
 obtain⟨b5,Z⟩:=y_ (Vm w bp s i et ex);rw[<- Z.o];have b6:=h.lt;have h0:=zy (show PAt (w.alloc (.cells #[O_,.int .u8 0,.nilIface] 179)) bp s i from C_ h _);have F0:=zy (show Fr w (w.alloc (.cells #[O_,.int .u8 0,.nilIface] 179)) (λx=>x=bp) from(A_ w _).alloc _);have B0:=zy (B_ w #[O_,.int .u8 0,.nilIface] 179);have a6:=zy (by simp:(w.alloc (.cells #[O_,.int .u8 0,.nilIface] 179)).heap.size=w.heap.size+1);have a0:=zy hG;have a5:i<=s.size:=M_;clear h hG;obtain⟨x,hx⟩:=x_ (bt s i);replace hx:=zy hx;cases hp:yK s (i+2) with
 |error k=>
  replace hp:=zy hp;clear a2;go_in;go_wp2_with (first
   |(go_at_call 97;apply(ym h0).mono;rintro e w' ⟨rfl,N⟩;rw[N];clear N)
   |(go_at_call 96;apply(yb h0 hs a5).mono;rintro e w1 ⟨rfl,C⟩;rw[hx.o];have h1:=h0.o.si C;have z:=(A_ (w.alloc (.cells #[O_,.int .u8 0,.nilIface] 179)) (λg=>g=bp)).si C;have P1:=C_ h1 (.cells #[I_ i,U_ x,.nilIface] 179);have c1:=PAt.c1 P1;have f1:=PAt.th P1 1;have a3:=z.size;rw[a6.o]at a3;have u:=z.alloc (.cells #[I_ i,U_ x,.nilIface] 179);have l:Fr (w1.alloc (.cells #[I_ i,U_ x,.nilIface] 179)) ((w1.alloc (.cells #[I_ i,U_ x,.nilIface] 179)).setCell ⟨bp,1,none⟩ (Z_ ((i:Int)+2))) (λg=>g=bp):=(A_ _ (λg=>g=bp)).setCell ⟨bp,1,none⟩ _ (λ_=>rfl);have B:=l.bl (u.bl B0 M_) M_;have E2:=l.bl (B_ w1 #[I_ i,U_ x,.nilIface] 179) M_;have P2:=PAt.two P1;have f:=(F0.o.trans u u_).trans l u_;have A:=a0.o.fr f (Ne.symm G);have O:=zy (x8_:((w1.alloc (.cells #[I_ i,U_ x,.nilIface] 179)).setCell ⟨bp,1,none⟩ (Z_ ((i:Int)+2))).heap.size=w1.heap.size+1);revert B E2 P2 f A;refine k_ λB E2 P2 f A=>?_;clear h1 z u l C;replace P1:=zy P1)
   |(go_at_call 98;apply(tB P2 A G hs hi).mono;rintro e H ⟨v,ev,hI,rfl,b,hm⟩;rw[hp.o]at hm;obtain⟨⟨g,b7,rfl,a1⟩,j3,a8,E⟩:=hm;have m:=b.bl B M_;obtain⟨r0,r1,r2⟩:=m.d3;obtain⟨g0,g1,g2⟩:=m.t3;replace m:=zy m;replace b:=zy b;replace a1:=zy a1;replace E:=zy E;clear hI))
  have S2:=Blk.three m (O_) (.int .u8 0) .nilIface;obtain⟨q0,q1,q2⟩:=S2.d3;refine bodyPost_ret (v:=.tuple #[.agg #[O_,.int .u8 0,.nilIface],.iface 185 (P_ g)]) z1_ rfl ?_;rw[Z.o];have a:=Fr.three H w.heap.size (O_) (.int .u8 0) .nilIface;have hz:=O.o;refine⟨0,0,.nilIface,_,rfl,.inl rfl,(f.o.trans b u_).trans a (λy hy e=>M_),?_⟩;rw[hp.o];exact⟨⟨g,M_,rfl,a.bl a1 M_⟩,j3,a8,a.bl E M_⟩
 |ok r=>
  obtain⟨pb,j⟩:=r;have hj:j<=s.size:=a2 pb j hp;clear a2;replace hp:=zy hp;go_in;go_wp2_with (first
   |(go_at_call 97;apply(ym h0).mono;rintro e w' ⟨rfl,N⟩;rw[N];clear N)
   |(go_at_call 96;apply(yb h0 hs a5).mono;rintro e w1 ⟨rfl,C⟩;rw[hx.o];have h1:=h0.o.si C;have z:=(A_ (w.alloc (.cells #[O_,.int .u8 0,.nilIface] 179)) (λg=>g=bp)).si C;have P1:=C_ h1 (.cells #[I_ i,U_ x,.nilIface] 179);have c1:=PAt.c1 P1;have f1:=PAt.th P1 1;have a3:=z.size;rw[a6.o]at a3;have u:=z.alloc (.cells #[I_ i,U_ x,.nilIface] 179);have l:Fr (w1.alloc (.cells #[I_ i,U_ x,.nilIface] 179)) ((w1.alloc (.cells #[I_ i,U_ x,.nilIface] 179)).setCell ⟨bp,1,none⟩ (Z_ ((i:Int)+2))) (λg=>g=bp):=(A_ _ (λg=>g=bp)).setCell ⟨bp,1,none⟩ _ (λ_=>rfl);have B:=l.bl (u.bl B0 M_) M_;have E2:=l.bl (B_ w1 #[I_ i,U_ x,.nilIface] 179) M_;have P2:=PAt.two P1;have f:=(F0.o.trans u u_).trans l u_;have A:=a0.o.fr f (Ne.symm G);have O:=zy (x8_:((w1.alloc (.cells #[I_ i,U_ x,.nilIface] 179)).setCell ⟨bp,1,none⟩ (Z_ ((i:Int)+2))).heap.size=w1.heap.size+1);revert B E2 P2 f A;refine k_ λB E2 P2 f A=>?_;clear h1 z u l C;replace P1:=zy P1)
   |(go_at_call 98;apply(tB P2 A G hs hi).mono;rintro e H ⟨v,ev,hI,rfl,b,hm⟩;rw[hp.o]at hm;obtain⟨rfl,E,hv⟩:=hm;obtain⟨q,t,rfl⟩:=hv.iface;have b4:=b.size;rw[O.o]at b4;have m:=b.bl B M_;have R:=b.bl E2 M_;have k2:=R.c2;have kg:=R.th 2;have M:Fr H (H.setCell ⟨w1.heap.size,2,none⟩ (.iface q t)) (λg=>g=w1.heap.size):=(A_ H (λg=>g=w1.heap.size)).setCell ⟨w1.heap.size,2,none⟩ _ (λ_=>rfl);have I:=R.set 2 (.iface q t);have J:=M.bl m M_;have U:=M.bl E M_;have V:=(hv.mono (Q:=λg=>w1.heap.size<g) (λg _ hg=>by have:=O.o;omega)).fr M (λg hg e=>M_);have D:=(f.o.trans b u_).trans M (λy hy e=>M_);have G4:=zy (a0.o.fr D (Ne.symm G));replace I:=zy I;replace J:=zy J;replace U:=zy (show PAt _ bp s j from U);replace V:=zy V;replace D:=zy D;clear hI b E hv m R M))
  obtain⟨u0,X,u2⟩:=I.o.f3;simp only[am_,ao_,aa_,ab_]at u0 X u2;obtain⟨d,a4⟩:=e_ (H.setCell ⟨w1.heap.size,2,none⟩ (.iface q t));rw[<- a4]at u0 X u2⊢;rw[<- a4]at I J U V D G4;clear a4 k2 kg;have hC:=zy (yL (c:=59) 59 (U.o.si (zq.drew d)) (G4.o.fr ((A_ d N_).si (zq.drew d)) id) G hs hj rfl D_);have b9:=D.o.size;have b8:=J.o.lt;refine tr_ 4 (λW=>z_ W w1.heap.size 0 (I_ i)/\z_ W w1.heap.size 1 (U_ x)/\z_ W w1.heap.size 2 (.iface q t)) ?_;refine tz_ 0 ?_;refine tz_ 1 ?_;refine zh 2 rfl K_ (λ_=>⟨u0,X,u2⟩) (λK hK=>?_);go_simp;apply hC.o.mono;rintro e w8 ⟨v8,rfl,a7,hE⟩;refine hK _ _ ?_;clear hK K;have F:Fr d w8 (λg=>g=bp):=((A_ d _).si (zq.drew d)).trans a7 u_;have S:=F.bl I M_;have R8:=F.bl J M_;obtain⟨x0,x1,x2⟩:=S.f3;obtain⟨r0,r1,r2⟩:=R8.f3;obtain⟨g0,g1,g2⟩:=R8.t3;simp only[am_,ao_,aa_,ab_]at x0 x1 x2 r0 r1 r2;have a:=Fr.three w8 w.heap.size (I_ i) (U_ x) (.iface q t);have Y:=a.bl S M_;obtain⟨z0,z1,z2⟩:=Y.f3;simp only[am_,ao_,aa_,ab_]at z0 z1 z2;revert hE F S a Y;refine k_ λhE F S a Y=>?_;refine t1_ 3 ⟨x0,x1,x2⟩ ?_;refine t1_ 4 ⟨z0,z1,z2⟩ ?_;refine td_ ?_ _;have S2:=Blk.three R8 (I_ i) (U_ x) (.iface q t);obtain⟨q0,q1,q2⟩:=S2.d3;clear x0 x1 x2 u0 X u2 z0 z1 z2 r0 r1 r2 g0 g1 g2;go_wp2;refine bodyPost_ret (v:=.tuple #[.agg #[I_ i,U_ x,.iface q t],v8]) z1_ rfl ?_;rw[Z.o];refine⟨(i:Int),(x:Int),.iface q t,v8,rfl,.inr ⟨_,_,rfl⟩,(D.o.trans F u_).trans a (λy hy e=>M_),?_⟩;rw[hp.o];have hz:=O.o;show(if bt s j=59 then _ else _);rcases hE.o with⟨hb,rfl,h8,a9⟩|⟨hb,hF,h8⟩
  .rw[i_ hb];exact⟨rfl,a.o.bl h8 M_,a9,rfl,by rw[hx.o],((V.o.fr F (λg hg e=>M_)).fr a (λg hg e=>M_)).mono (λg _ hg=>M_)⟩
  .rw[n_ hb];exact⟨(hF.fr a (λg hg e=>by have:d.drew.heap.size=d.heap.size:=rfl;omega)).ls (by have:d.drew.heap.size=d.heap.size:=rfl;omega),j,hj,a.o.bl h8 M_⟩
end Go.Proofs.YtamhgejdkclmdaaGreatDoor
