import Derived.Test.YtjkiencmjggakaaGreatDoorW09
set_option maxHeartbeats 16000000
set_option maxRecDepth 100000
set_option linter.defProp false
set_option linter.unusedSimpArgs false
open Go.Proofs.Tryz
namespace Go.Proofs.YtjkiencmjggakaaGreatDoor
open Go.RowKit
variable {i:Nat}{et:TypeId}{ex:Value}
def TyV.iface{w:World}{P:Nat->Prop}{t:PT}{v:Value}(h:TyV w P t v):∃T x,v=.iface T x:=by
 cases h<;>exact⟨_,_,rfl⟩
def eU(w:World)(bp:Nat)(s:BA)(i p:Nat)(et:TypeId)(ex:Value)(e:Ending)(w':World):Prop:=
 ∃v ev,IfV v/\e=.returned (.tuple #[v,ev])/\Fr w w' (· = bp)/\
 match yp s i with
 | .ok (fs,j)=>ev=.nilIface/\PAt w' bp s j/\(pB s p (.recd fs)->ye w' (λg=>w.heap.size<=g) s (.recd fs) v)
 | .error k=>zT w' w.heap.size ev (k:Int) (.iface et ex)/\∃j,j<=s.size/\PAt w' bp s j
section
variable {w W W2:World} {bp:Nat} {s:BA} {j b0:Nat} {L:List Value} {T ET:TypeId} {k:Nat} {sv v5:Value} {n:Nat} {xs:List Value}
def keepF{fs:List PF}{ys:List Value}(b:Fr W W2 (λg=>sv.ownBlock=some g\/g=b0))(hn:∀g,v5.ownBlock=some g->b0+1<=g/\(sv.ownBlock=some g\/W.heap.size<=g))(h:xo W (λg=>b0+1<=g/\sv.ownBlock≠some g) s fs ys):xo W2 (λg=>b0+1<=g/\v5.ownBlock≠some g) s fs ys:=
 ((h.mono (Q:=λg=>(b0+1<=g/\sv.ownBlock≠some g)/\g<W.heap.size) (λ_ h1 a=>⟨a,h1⟩)).fr b (λg hg e=>by
   rcases e with e|e
   .exact hg.1.2 e
   .have:=hg.1.1;omega)).mono (λg _ hg=>⟨hg.1.1,λe=>by
   rcases(hn g e).2 with q|q
   .exact hg.1.2 q
   .have:=hg.2;omega⟩)
def Fb{f:PF}{a b c d:Value}(m:Fr W W2 (λg=>sv.ownBlock=some g\/g=b0))(hn:∀g,v5.ownBlock=some g->b0+1<=g/\(sv.ownBlock=some g\/W.heap.size<=g))(h:uh W (λg=>b0+1<=g/\sv.ownBlock≠some g) s f a b c d):uh W2 (λg=>b0+1<=g/\v5.ownBlock≠some g) s f a b c d:=
 ((h.mono (Q:=λg=>(b0+1<=g/\sv.ownBlock≠some g)/\g<W.heap.size) (λ_ h1 l=>⟨l,h1⟩)).fr m (λg hg e=>by
   rcases e with e|e
   .exact hg.1.2 e
   .have:=hg.1.1;omega)).mono (λg _ hg=>⟨hg.1.1,λe=>by
   rcases(hn g e).2 with q|q
   .exact hg.1.2 q
   .have:=hg.2;omega⟩)
end
structure RF(w:World)(bp:Nat)(s:BA)(j b0:Nat)(p:Int)(sv:Value)(fs:List PF)(xs:List Value)(W:World):Prop where
 A:AM w bp s j b0 [z_ p,sv] 215 189 4 sv fs.length xs W
 F:xo W (λg=>b0+1<=g/\sv.ownBlock≠some g) s fs xs
section
variable {w W W':World} {bp:Nat} {s:BA} {j j' b0:Nat} {p:Int} {sv:Value} {fs:List PF} {xs:List Value}
def RF.call(M:RF w bp s j b0 p sv fs xs W)(h:PAt W' bp s j')(hf:Fr W W' (· = bp)):RF w bp s j' b0 p sv fs xs W':=by
 have h1:=M.A.lt;have a:=M.A.w0;exact⟨M.A.call h hf,M.F.fr hf (λg hg e=>M_)⟩
def RF.alloc(M:RF w bp s j b0 p sv fs xs W)(o:Obj):RF w bp s j b0 p sv fs xs (W.alloc o):=M.call (C_ M.A.here o) ((A_ W _).alloc o)
def RF.si(M:RF w bp s j b0 p sv fs xs W)(a:zq W W'):RF w bp s j b0 p sv fs xs W':=M.call (M.A.here.si a) ((A_ W _).si a)
def RF.item(M:RF w bp s j b0 p sv fs xs W){o:Obj}{e:World}{v5 a b c d:Value}{f:PF}(hg:(W.alloc o).grownBy e sv.ownBlock)(ho:e.ownsRow (b0+1) 189 4 v5 (fs.length+1) (xs++[a,b,c,d]))(hl:v5.ownBlock=sv.ownBlock\/v5.ownBlock=some (W.alloc o).heap.size)(hv:uh W (λg=>b0+1<=g/\sv.ownBlock≠some g) s f a b c d):RF w bp s j b0 p v5 (fs++[f]) (xs++[a,b,c,d]) (e.setCell ⟨b0,1,none⟩ v5):=by
 obtain⟨h1,e,h⟩:=M.A.item ((A_ W _).alloc o) hg ho hl 1;refine⟨?_,(keepF e h M.F).snoc M.A.row.1 (Fb e h hv)⟩;rw[ai_,av_];exact h1
def RF.body(M:RF w bp s j b0 p sv fs xs W)(q:Nat)(hp:p=(q:Int))(hb:pB s q (.recd fs)):ye W (λg=>w.heap.size<=g) s (.recd fs) (.iface 215 (.agg #[z_ p,sv])):=by
 subst hp;have:=M.A.w0;exact .recd q (zS M.A.row) (λg e=>by have:=M.A.row.lt g e;omega) (M.F.mono (λg _ hg=>by have:=hg.1;omega)) hb
end
def Gn(w:World)(bp:Nat)(s:BA)(i b0:Nat)(p:Int)(m:Nat)(W:World):Prop:=
 ∃j sv fs xs,RF w bp s j b0 p sv fs xs W/\j<=s.size/\i+fs.length<=j/\s.size+1-j<=m/\yI s i=vj fs (yI s j)
def pY:Tryz.prog.underlying 183=some (.slice 189):=K_
def iT:(Tryz.prog.info? 189).map (λi=>(i.zero,i.size,i.bytes))=some (some (.agg #[O_,.int .u8 0,.nilIface,.pointer none]),4,40):=K_
def sW{w:World}{bp:Nat}{s:BA}{p:Nat}(h:PAt w bp s i)(I:gI w et ex)(V:bp≠0)(hs:s.size<=300)(hi:i<=s.size):Calls prog 130 #[P_ bp,I_ p] w (eU w bp s i p et ex):=by
 obtain⟨f1,H⟩:=y_ (eU w bp s i p et ex);rw[<- H.o];have e2:=h.lt;replace I:=zy I;have u:=zy (yJ 40 (c:=40) h I V hs hi rfl D_);clear h;by_cases r:bt s i=40;case neg=>
  have F:=zy (show yp s i=.error i by unfold yp;rw[n_ r]);replace r:=zy r;go_in;go_wp2_with (go_at_call 99;apply u.o.mono;rintro e w1 ⟨v1,rfl,q,hm⟩;obtain⟨g,a2,rfl,B,h1⟩:∃g,w.heap.size<=g/\v1=.iface 179 (P_ g)/\Blk w1 g [I_ i,.iface et ex] 181/\PAt w1 bp s i:=(by rcases hm with⟨X,_⟩|⟨_,⟨g,Y,Z,q3⟩,q4⟩;(exact absurd X r);exact⟨g,Y,Z,q3,q4⟩);replace q:=zy q;replace B:=zy B;replace h1:=zy h1);try go_ret
  rw[H.o];refine⟨.nilIface,_,.inl rfl,rfl,q,?_⟩;rw[F.o];exact⟨⟨g,a2,rfl,B⟩,i,hi,h1⟩
 case pos=>
 have a9:i+1<=s.size:=zc (s:=s) (i:=i) M_;by_cases z:bt s (i+1)=41;case pos=>
  have F:=zy (show yp s i=.ok ([],i+2) by unfold yp;rw[i_ r,i_ z]);replace r:=zy r;replace z:=zy z;go_in;go_wp2_with (first
   |(go_at_call 99;apply u.o.mono;rintro e w1 ⟨v1,rfl,q,hm⟩;obtain⟨rfl,h1⟩:v1=.nilIface/\PAt w1 bp s (i+1):=(by rcases hm with⟨_,Y,Z,_⟩|⟨X,_⟩;(exact⟨Y,Z⟩);exact absurd r.o X);have b5:=q.size;replace q:=zy q;replace h1:=zy h1)
   |(go_at_call 100;apply(wP 41 (C_ h1 (.cells #[I_ p,L_] 215)) hs a9 rfl D_ z).mono;rintro e w2 ⟨rfl,l,t⟩;have B2:=l.bl (B_ w1 #[I_ p,L_] 215) M_;have c0:=B2.c0;have c1:=B2.c1;revert l t B2;refine h_ λl t B2=>?_))
  try go_ret
  rw[H.o];refine⟨.iface 215 (.agg #[I_ p,L_]),.nilIface,.inr ⟨_,_,rfl⟩,rfl,(q.o.alloc _).trans l u_,?_⟩;rw[F.o];exact⟨rfl,t,.recd p (World.ownsRow_nil _ _ _ _) (λg e=>by simp[Value.ownBlock]at e) (λi f e=>by simp at e)⟩
 case neg=>
  have F:=zy (show yp s i=yI s (i+1) by unfold yp;rw[i_ r,n_ z]);replace r:=zy r;replace z:=zy z;go_in;go_wp2_with (first
   |(go_at_call 99;apply u.o.mono;rintro e w1 ⟨v1,rfl,q,hm⟩;obtain⟨rfl,h1⟩:v1=.nilIface/\PAt w1 bp s (i+1):=(by rcases hm with⟨_,Y,Z,_⟩|⟨X,_⟩;(exact⟨Y,Z⟩);exact absurd r.o X);have b5:=q.size;replace q:=zy q;replace h1:=zy h1;clear u)
   |(go_at_call 100;apply(gO 41 (C_ h1 (.cells #[I_ p,L_] 215)) hs a9 rfl D_ z).mono;rintro e w2 ⟨rfl,l,t⟩;have start:Gn w bp s (i+1) w1.heap.size (p:Int) (s.size+1) w2:=⟨i+1,L_,[],[],⟨⟨t,(q.o.alloc _).trans l u_,e2,b5,(by have:=l.size;simp at this;omega),l.bl (B_ w1 #[I_ p,L_] 215) M_,World.ownsRow_nil _ _ _ _⟩,(λi f e=>by simp at e)⟩,a9,(by simp),M_,(cn _).symm⟩;replace start:=zy start;obtain⟨b0,v⟩:=e_ w1.heap.size;rw[<- v]at start⊢;clear l t h1 q v b5))
  go_loopg [] (s.size+1) (λm W=>Gn w bp s (i+1) b0 (p:Int) m W);case atStart=>exact start
  case round=>
   clear start;obtain⟨j,sv,fs,xs,M,hj,f7,hm,J⟩:=hrel;obtain⟨sa,sc,rfl⟩:=zl M.A.row;have f4:fs.length<=300:=M_;have hC:=zy (ac M.A.here (I.o.fr M.A.fr (Ne.symm V)) V hs hj);have d9:=M.A.fr.size;have f2:=M.A.hB;have e1:=zy (xU (s:=s) hj);have a6:=zy (fh s j hj);obtain⟨ti,e4,e6,e7,e8⟩:=info_parts iT;replace M:=zy M;replace J:=zy J;go_wp2_with (first
    |(go_at_call 162;apply hC.o.mono;rintro e w2 ⟨a,b,c,d,ev,rfl,b7,⟨N,rfl⟩,l,hm⟩;replace l:=zy l;rcases hm with⟨f,C,rfl,t,a3,hv,a5⟩|⟨k,hk,⟨g,a2,rfl,B⟩,j3,b8,h3⟩
      obtain⟨O,R,rfl⟩:=hv.2.2.1.iface
      have G:=(M.o.call t l).alloc (.cells #[z_ a,.int .u8 b,.iface O R,.pointer N] 189)
      have b6:=(hv.mono (Q:=λg=>b0+1<=g/\(Value.slice sa fs.length sc).ownBlock≠some g) (λg _ hg=>⟨M_,λe=>by have:=M.o.A.row.lt g e;omega⟩)).fr ((A_ w2 N_).alloc (.cells #[z_ a,.int .u8 b,.iface O R,.pointer N] 189)) u_
      have N1:=B_ w2 #[z_ a,.int .u8 b,.iface O R,.pointer N] 189
      have t1:=G.A.b.c1
      obtain⟨n0,n1,n2,n3⟩:=N1.d4
      have f3:=(M.o.call t l).A.hB
      replace G:=zy G
      replace b6:=zy b6
      replace a5:=zy a5
      clear t hv N1 b7
      rotate_left
      replace hk:=zy hk
      replace B:=zy B
      replace h3:=zy h3
      rcases b7 with rfl|⟨cT,cx,rfl⟩)
    |(at_builtin;go_must (refine wpList_append_own_at _ rfl _ _ 183 rfl (b0+1) 189 ti _ 4 40 pY e4 e6 e7 e8 rfl D_ (.slice sa fs.length sc) fs.length xs rfl ?hown _ 1 1 [z_ a,.int .u8 b,.iface O R,.pointer N] rfl rfl (zN _ #[z_ a,.int .u8 b,.iface O R,.pointer N] _ _ ?nn) ?one ?b1 ?b2 ?b3 ?_)
      case hown=>exact World.ownsRow.alloc G.o.A.row _
      case nn=>simp
      case one=>simp[Value.oneCell']
      case b1=>unfold maxLen;omega
      case b2=>omega
      case b3=>simp;omega
      intro v5 w5 b4 a8 f0 b9
      have S:=G.o.item a8 b4 b9 b6
      have B5:=G.o.A.ie ((A_ _ _).alloc _) a8
      have e5:=B5.c1
      have f5:=B5.th 1
      obtain⟨g5,a7,rfl⟩:=zm b4 M_
      clear a8 b9 f0 b4 B5
      replace S:=zy S)
    |(go_at_call 100;apply(pJ 44 S.o.A.here hs a3 rfl D_).mono;rintro e w6 ⟨tb,rfl,a0,hT⟩;replace a0:=zy a0;rcases hT with⟨E,rfl,U,e9⟩|⟨E,rfl,U⟩<;>replace E:=zy E<;>replace U:=zy U))
   ·
    try go_ret
    rw[H.o];refine⟨.nilIface,_,.inl rfl,rfl,(M.o.A.fr.trans l u_).alloc _,?_⟩;rw[F.o,J.o,a6.o,hk.o];exact⟨⟨g,ak_ d9 a2,rfl,B.o.alloc _⟩,j3,b8,C_ h3 _⟩
   ·
    try go_ret
    rw[H.o];refine⟨.nilIface,_,.inl rfl,rfl,(M.o.A.fr.trans l u_).alloc _,?_⟩;rw[F.o,J.o,a6.o,hk.o];exact⟨⟨g,ak_ d9 a2,rfl,B.o.alloc _⟩,j3,b8,C_ h3 _⟩
   .have v:=S.o.call U a0;replace v:=zy v;have d7:H_ (yI s (i+1)=vj (fs++[f]) (yI s (C+1))/\j<C):=zy (by
     rcases a5.o with a4|⟨d6,rfl⟩
     .have:=(e1.o.1 f C a4)
      rw[J.o,a6.o,a4]
      simp only
      rw[n_ (by rw[E.o];decide),i_ E.o,gn]
      exact⟨rfl,M_⟩
     .have:=E.o
      rw[kK l_]at this
      exact absurd this D_)
    have f9:=d7.o.2;go_roundg (s.size+1-(C+1));case measure=>omega
    case rel=>exact⟨C+1,_,fs++[f],_,v,e9,by rw[ai_,av_];omega,l_,d7.o.1⟩
   .have v:=S.o.call U a0;replace v:=zy v;have u0:=v.o.A.b.c0;have u1:=v.o.A.b.c1;have e3:zq w6 w6.drew:=zq.drew w6;have D:=v.o.si e3;have e0:=zy (yJ (c:=41) 41 D.A.here (I.o.fr D.A.fr (Ne.symm V)) V hs a3 rfl D_);replace D:=zy D;refine tr_ 5 (λW=>f_ W b0 0 (I_ p)/\f_ W b0 1 (S_ g5 (fs.length+1) a7)) ?_;refine tz_ 0 ?_;refine tz_ 1 ?_;refine tz_ 2 ?_;refine zw 3 rfl K_ (λ_=>⟨u0,u1⟩) (λK hK=>?_);go_simp;apply e0.o.mono;rintro e w8 ⟨v8,rfl,a1,u⟩;refine hK _ _ ?_;clear hK K;have y:∃j8,j8<=s.size/\RF w bp s j8 b0 (p:Int) (S_ g5 (fs.length+1) a7) (fs++[f]) (xs++[z_ a,.int .u8 b,.iface O R,.pointer N]) w8:=by
     rcases u with⟨_,_,x,d2⟩|⟨_,_,x⟩
     .exact⟨C+1,d2,D.o.call x a1⟩
     .exact⟨C,a3,D.o.call x a1⟩
    obtain⟨j8,f8,y⟩:=y;have x0:=y.A.b.c0;have x1:=y.A.b.c1;refine t1_ 4 ⟨x0,x1⟩ ?_;refine t1_ 5 ⟨x0,x1⟩ ?_;refine td_ ?_ _;revert a1 u y;refine h_ λa1 u y=>?_;clear x0 x1 u0 u1;go_wp2;try go_ret
    rw[H.o];refine⟨.iface 215 (.agg #[I_ p,(S_ g5 (fs.length+1) a7)]),v8,.inr ⟨_,_,rfl⟩,rfl,y.o.A.fr,?_⟩;rw[F.o,J.o,a6.o];have d8:=D.o.A.fr.size;rcases a5.o with a4|⟨d6,rfl⟩
    .rw[a4];simp only;rcases u.o with⟨hb,rfl,x,d2⟩|⟨hb,hF,x⟩
     .rw[i_ hb];exact⟨rfl,x,y.o.body p rfl⟩
     .rw[n_ hb,n_ E.o];exact⟨hF.ls d8,C,a3,x⟩
    .rw[d6];rcases u.o with⟨hb,_⟩|⟨hb,hF,x⟩
     .rw[kK l_]at hb;exact absurd hb D_
     .exact⟨hF.ls d8,_,l_,x⟩
def rA(w:World)(bp:Nat)(s:BA)(i p:Nat)(et:TypeId)(ex:Value)(e:Ending)(w':World):Prop:=
 ∃v ev,IfV v/\e=.returned (.tuple #[v,ev])/\Fr w w' (· = bp)/\
 match xz s i with
 | .ok ((l,o),j)=>ev=.nilIface/\PAt w' bp s j/\(pB s p (.enum l o)->ye w' (λg=>w.heap.size<=g) s (.enum l o) v)
 | .error k=>zT w' w.heap.size ev (k:Int) (.iface et ex)/\∃j,j<=s.size/\PAt w' bp s j
def gj(l:List (Nat×Nat))(c p:Nat):zE (l++[(c,p)])=zE l++[I_ p,U_ c]:=by
 simp[zE]
def AM.put{w W:World}{bp:Nat}{s:BA}{j b0:Nat}{L:List Value}{T ET:TypeId}{k:Nat}{sv:Value}{n:Nat}{xs:List Value}(M:AM w bp s j b0 L T ET k sv n xs W)(c:Nat)(v:Value):AM w bp s j b0 (L.set c v) T ET k sv n xs (W.setCell ⟨b0,c,none⟩ v):=by
 have h1:=M.lt;have a:=M.w0;have a:Fr W (W.setCell ⟨b0,c,none⟩ v) (λg=>g=b0):=(A_ W (λg=>g=b0)).setCell ⟨b0,c,none⟩ v (λ_=>rfl);exact⟨a.bl M.here M_,M.fr.trans a (λx hx e=>M_),M.lt,M.w0,ak_ M.hB a.size,M.b.set c v,zj M.row a (λg hg e=>by have:=M.row.lt g hg;omega)⟩
def Ga(w:World)(bp:Nat)(s:BA)(i b0:Nat)(p:Int)(m:Nat)(W:World):Prop:=
 ∃j sv l,AM w bp s j b0 [z_ p,sv,.pointer none] 220 186 2 sv l.length (zE l) W/\j<=s.size/\i+l.length<=j/\s.size+1-j<=m/\xz s i=wQ s l (qe s j)
def qO:Tryz.prog.underlying 217=some (.slice 186):=K_
def XK:(Tryz.prog.info? 186).map (λi=>(i.zero,i.size,i.bytes))=some (some (.agg #[O_,.int .u8 0]),2,16):=K_
def rK{w W:World}{bp:Nat}{s:BA}{j b0 x y p:Nat}{l:List (Nat×Nat)}{sv u:Value}{o:Option (Nat×Nat)}{L:List Value}(M:AM w bp s j b0 L 220 186 2 sv (l.length+1) (zE l++[I_ y,U_ x]) W)(hu:qh W (λg=>w.heap.size<=g) o u)(hb:pB s p (.enum (l++[(x,y)]) o)):ye W (λg=>w.heap.size<=g) s (.enum (l++[(x,y)]) o) (.iface 220 (.agg #[I_ p,sv,u])):=by
 have:=M.w0;refine .enum p ?_ (λg e=>by have:=M.row.lt g e;omega) hu hb;rw[gj,ai_,av_];exact zS M.row
def YW{w:World}{bp:Nat}{s:BA}{p:Nat}(h:PAt w bp s i)(hG:gI w et ex)(a2:bp≠0)(hs:s.size<=300)(hi:i<=s.size):Calls prog 131 #[P_ bp,I_ p] w (rA w bp s i p et ex):=by
 obtain⟨f9,Q_⟩:=y_ (rA w bp s i p et ex);rw[<- Q_.o];have f1:=h.lt;replace hG:=zy hG;have V:=zy (yJ 40 (c:=40) h hG a2 hs hi rfl D_);clear h;by_cases a8:bt s i=40;case neg=>
  have e1:=zy (show xz s i=.error i by unfold xz;rw[n_ a8]);replace a8:=zy a8;go_in;go_wp2_with (go_at_call 99;apply V.o.mono;rintro e w1 ⟨v1,rfl,a9,hm⟩;obtain⟨g,b9,rfl,a0,h1⟩:∃g,w.heap.size<=g/\v1=.iface 179 (P_ g)/\Blk w1 g [I_ i,.iface et ex] 181/\PAt w1 bp s i:=(by rcases hm with⟨D,_⟩|⟨_,⟨g,E,d,q3⟩,R⟩;(exact absurd D a8);exact⟨g,E,d,q3,R⟩);replace a9:=zy a9;replace a0:=zy a0;replace h1:=zy h1);try go_ret
  rw[Q_.o];refine⟨.nilIface,_,.inl rfl,rfl,a9,?_⟩;rw[e1.o];exact⟨⟨g,b9,rfl,a0⟩,i,hi,h1⟩
 case pos=>
  have f3:i+1<=s.size:=zc (s:=s) (i:=i) M_;have e1:=zy (show xz s i=wQ s [] (qe s (i+1)) by rw[iz,i_ a8]);replace a8:=zy a8;go_in;go_wp2_with (go_at_call 99;apply V.o.mono;rintro e w1 ⟨v1,rfl,a9,hm⟩;obtain⟨rfl,h1⟩:v1=.nilIface/\PAt w1 bp s (i+1):=(by rcases hm with⟨_,E,d,_⟩|⟨D,_⟩;(exact⟨E,d⟩);exact absurd a8.o D);have f4:=a9.size;have start:=zy (⟨i+1,L_,[],⟨C_ h1 _,a9.alloc _,f1,f4,(by simp),B_ w1 _ _,World.ownsRow_nil _ _ _ _⟩,f3,(by simp),M_,e1⟩:Ga w bp s i w1.heap.size (p:Int) (s.size+1) (w1.alloc (.cells #[I_ p,L_,.pointer none] 220)));clear a9 hm h1 V);obtain⟨b0,f0⟩:=e_ w1.heap.size;rw[<- f0]at start⊢;clear f0;go_loopg [] (s.size+1) (λm W=>Ga w bp s i b0 (p:Int) m W);case atStart=>exact start
  case round=>
   clear start e1;obtain⟨j,sv,l,M,hj,g4,hm,G⟩:=hrel;obtain⟨sa,sc,rfl⟩:=zl M.row;have g2:l.length<=300:=M_;have hC:=zy (xK M.here (hG.o.fr M.fr (Ne.symm a2)) a2 hs hj);have f7:=M.fr.size;have g1:=M.hB;have g6:=M.w0;rw[wJ]at G;obtain⟨ti,d7,d8,d9,e0⟩:=info_parts XK;replace M:=zy M;obtain⟨x,hx⟩:=x_ (bt s j);cases Z:zh x with
   |false=>
    have b5:=zy (show xz s i=.error j by rw[G,hx,Z];rfl);replace Z:=zy (show zh (bt s j)=false by rw[hx];exact Z);replace hx:=zy hx;clear G;go_wp2_with (first
     |(go_at_call 163;apply hC.o.mono;rintro e S ⟨a,b,U,rfl,u,hm⟩;obtain⟨g,b9,rfl,a0,t⟩:∃g,wr.heap.size<=g/\U=.iface 179 (P_ g)/\Blk S g [I_ j,.iface et ex] 181/\PAt S bp s j:=(by rcases hm with⟨D,_⟩|⟨_,⟨g,E,d,q3⟩,R⟩;(exact absurd (Z.o.symm.trans D) D_);exact⟨g,E,d,q3,R⟩);replace u:=zy u;replace a0:=zy a0;replace t:=zy t))
    try go_ret
    rw[Q_.o];refine⟨.nilIface,_,.inl rfl,rfl,(M.o.fr.trans u u_).alloc _,?_⟩;rw[b5.o];exact⟨⟨g,ak_ f7 b9,rfl,a0.o.alloc _⟩,j,hj,C_ t _⟩
   |true=>
   have a5:j+1<=s.size:=zc (xy (by rw[hx];exact Z));rw[hx,Z,i_ rfl]at G;replace Z:=zy (show zh (bt s j)=true by rw[hx];exact Z);replace hx:=zy hx;obtain⟨y,hy⟩:=x_ (bt s (j+1));rw[hy]at G;by_cases e9:y=44;case pos=>
    subst e9;rw[i_ rfl]at G;replace G:=zy G;have b6:j+1+1<=s.size:=zc (s:=s) (i:=j+1) M_;replace hy:=zy hy;go_wp2_with (first
     |(go_at_call 163;apply hC.o.mono;rintro e S ⟨a,b,U,rfl,u,hm⟩;obtain⟨rfl,rfl,rfl,t⟩:a=(j:Int)/\b=(x:Int)/\U=.nilIface/\PAt S bp s (j+1):=(by rcases hm with⟨_,E,d,q3,R,_⟩|⟨D,_⟩;(exact⟨E,d.trans (by rw[hx.o]),q3,R⟩);exact absurd (Z.o.symm.trans D) D_);have r:=(M.o.call t u).alloc (.cells #[I_ j,U_ x] 186);have J:=B_ S #[I_ j,U_ x] 186;have t1:=r.b.c1;have n0:=J.c0;have n1:=J.c1;have e4:=(M.o.call t u).hB;replace r:=zy r;clear t u J hm)
     |(at_builtin;go_must (refine wpList_append_own_at _ rfl _ _ 217 rfl (b0+1) 186 ti _ 2 16 qO d7 d8 d9 e0 rfl D_ (.slice sa l.length sc) l.length (zE l) rfl ?hown _ 1 1 [I_ j,U_ x] rfl rfl (zN _ #[I_ j,U_ x] _ _ ?nn) ?one ?b1 ?b2 ?b3 ?_)
       case hown=>exact World.ownsRow.alloc r.o.row _
       case nn=>simp
       case one=>simp[Value.oneCell']
       case b1=>unfold maxLen;omega
       case b2=>omega
       case b3=>simp;omega
       intro v5 w5 Q O b7 a1
       have f:=(r.o.item ((A_ _ _).alloc _) O Q a1 1).1
       have H:=r.o.ie ((A_ _ _).alloc _) O
       have e5:=H.c1
       have f5:=H.th 1
       obtain⟨Y,X,rfl⟩:=zm Q M_
       clear O a1 b7 Q H
       replace f:=zy f)
     |(go_at_call 100;apply(yl f.o.here hs a5 hy D_ D_).mono;rintro e w6 ⟨rfl,C,B⟩;have v:=zy (f.o.call B C);clear C B))
    go_roundg (s.size+1-(j+2));case measure=>omega
    case rel=>
     refine⟨j+2,S_ Y (l.length+1) X,l++[(x,j)],?_,b6,by rw[ai_,av_];omega,l_,G⟩;rw[gj,ai_,av_];exact v
   case neg=>
   rw[n_ e9]at G;by_cases e8:y=33;case neg=>
    have b5:=zy (show xz s i=if bt s (j+1)=41 then .ok ((l++[(x,j)],none),j+2) else .error (j+1) by rw[G];unfold iA;rw[hy,n_ e8]);replace hy:=zy hy;clear G;go_wp2_with (first
     |(go_at_call 163;apply hC.o.mono;rintro e S ⟨a,b,U,rfl,u,hm⟩;obtain⟨rfl,rfl,rfl,t⟩:a=(j:Int)/\b=(x:Int)/\U=.nilIface/\PAt S bp s (j+1):=(by rcases hm with⟨_,E,d,q3,R,_⟩|⟨D,_⟩;(exact⟨E,d.trans (by rw[hx.o]),q3,R⟩);exact absurd (Z.o.symm.trans D) D_);have r:=(M.o.call t u).alloc (.cells #[I_ j,U_ x] 186);have J:=B_ S #[I_ j,U_ x] 186;have t1:=r.b.c1;have n0:=J.c0;have n1:=J.c1;have e4:=(M.o.call t u).hB;replace r:=zy r;clear t u J hm)
     |(at_builtin;go_must (refine wpList_append_own_at _ rfl _ _ 217 rfl (b0+1) 186 ti _ 2 16 qO d7 d8 d9 e0 rfl D_ (.slice sa l.length sc) l.length (zE l) rfl ?hown _ 1 1 [I_ j,U_ x] rfl rfl (zN _ #[I_ j,U_ x] _ _ ?nn) ?one ?b1 ?b2 ?b3 ?_)
       case hown=>exact World.ownsRow.alloc r.o.row _
       case nn=>simp
       case one=>simp[Value.oneCell']
       case b1=>unfold maxLen;omega
       case b2=>omega
       case b3=>simp;omega
       intro v5 w5 Q O b7 a1
       have f:=(r.o.item ((A_ _ _).alloc _) O Q a1 1).1
       have H:=r.o.ie ((A_ _ _).alloc _) O
       have e5:=H.c1
       have f5:=H.th 1
       obtain⟨Y,X,rfl⟩:=zm Q M_
       clear O a1 b7 Q H
       replace f:=zy f)
     |(go_at_call 100;apply(yr f.o.here hs a5 hy M_ D_).mono;rintro e w6 ⟨rfl,C,B⟩;have a7:=f.o.call B C;clear f;have f:=zy a7;clear a7 C B))
    have u0:=f.o.b.cell 0;have u1:=f.o.b.cell 1;have u2:=f.o.b.cell 2;simp only[am_,an_,aa_,ab_]at u0 u1 u2;obtain⟨wd,d6⟩:=e_ ((w6).drew);have b8:zq (w6) wd:=d6▸zq.drew _;have A:=f.o.call (f.o.here.si b8) ((A_ _ _).si b8);have e3:=zy (yJ (c:=41) 41 A.here (hG.o.fr A.fr (Ne.symm a2)) a2 hs a5 rfl D_);replace A:=zy A;refine tr_ 5 (λW=>f_ W b0 0 (I_ p)/\f_ W b0 1 (S_ Y (l.length+1) X)/\f_ W b0 2 (.pointer none)) ?_;refine tz_ 0 ?_;refine tz_ 1 ?_;refine tz_ 2 ?_;refine zw 3 rfl K_ (λ_=>⟨u0,u1,u2⟩) (λK hK=>?_);go_simp;rw[<- d6];apply e3.o.mono;rintro e w8 ⟨v8,rfl,a3,V⟩;refine hK _ _ ?_;clear hK K;have I:∃j8,j8<=s.size/\AM w bp s j8 b0 [I_ p,(S_ Y (l.length+1) X),.pointer none] 220 186 2 (S_ Y (l.length+1) X) (l.length+1) (zE l++[I_ j,U_ x]) w8:=by
     rcases V with⟨_,_,N,d2⟩|⟨_,_,N⟩
     .exact⟨_,d2,A.o.call N a3⟩
     .exact⟨_,a5,A.o.call N a3⟩
    obtain⟨j8,f2,I⟩:=I;obtain⟨x0,x1,x2⟩:=I.b.d3;refine t1_ 4 ⟨x0,x1,x2⟩ ?_;refine t1_ 5 ⟨x0,x1,x2⟩ ?_;refine td_ ?_ _;revert a3 V I;refine h_ λa3 V I=>?_;clear x0 x1 x2 u0 u1 u2;go_wp2;try go_ret
    rw[Q_.o];refine⟨.iface 220 (.agg #[I_ p,(S_ Y (l.length+1) X),.pointer none]),v8,.inr ⟨_,_,rfl⟩,rfl,I.o.fr,?_⟩;have e7:=A.o.fr.size;rw[b5.o];rcases V.o with⟨hb,rfl,N,d2⟩|⟨hb,hF,N⟩
    .rw[i_ hb];exact⟨rfl,N,rK I rfl⟩
    .rw[n_ hb];exact⟨hF.ls e7,_,a5,N⟩
   case pos=>
   subst e8;have b6:j+1+1<=s.size:=zc (s:=s) (i:=j+1) M_;obtain⟨d,a4⟩:=e_ (j+1+1);obtain⟨z,hz⟩:=x_ (bt s (d));cases a6:zh z with
   |false=>
    have b5:=zy (show xz s i=.error d by rw[G];unfold iA;rw[hy,i_ rfl,show j+1+1=d from a4.symm,hz,a6];rfl);rw[<- a4]at b6;replace a4:=zy a4;replace a6:=zy (show zh (bt s (d))=false by rw[hz];exact a6);replace hy:=zy hy;replace hz:=zy hz;clear G;go_wp2_with (first
     |(go_at_call 163;apply hC.o.mono;rintro e S ⟨a,b,U,rfl,u,hm⟩;obtain⟨rfl,rfl,rfl,t⟩:a=(j:Int)/\b=(x:Int)/\U=.nilIface/\PAt S bp s (j+1):=(by rcases hm with⟨_,E,d,q3,R,_⟩|⟨D,_⟩;(exact⟨E,d.trans (by rw[hx.o]),q3,R⟩);exact absurd (Z.o.symm.trans D) D_);have r:=(M.o.call t u).alloc (.cells #[I_ j,U_ x] 186);have J:=B_ S #[I_ j,U_ x] 186;have t1:=r.b.c1;have n0:=J.c0;have n1:=J.c1;have e4:=(M.o.call t u).hB;replace r:=zy r;clear t u J hm)
     |(at_builtin;go_must (refine wpList_append_own_at _ rfl _ _ 217 rfl (b0+1) 186 ti _ 2 16 qO d7 d8 d9 e0 rfl D_ (.slice sa l.length sc) l.length (zE l) rfl ?hown _ 1 1 [I_ j,U_ x] rfl rfl (zN _ #[I_ j,U_ x] _ _ ?nn) ?one ?b1 ?b2 ?b3 ?_)
       case hown=>exact World.ownsRow.alloc r.o.row _
       case nn=>simp
       case one=>simp[Value.oneCell']
       case b1=>unfold maxLen;omega
       case b2=>omega
       case b3=>simp;omega
       intro v5 w5 Q O b7 a1
       have f:=(r.o.item ((A_ _ _).alloc _) O Q a1 1).1
       have H:=r.o.ie ((A_ _ _).alloc _) O
       have e5:=H.c1
       have f5:=H.th 1
       obtain⟨Y,X,rfl⟩:=zm Q M_
       clear O a1 b7 Q H
       replace f:=zy f)
     |(go_at_call 100;apply(yl f.o.here hs a5 hy D_ D_).mono;rintro e w6 ⟨rfl,C,B⟩;have v:=f.o.call B C;rw[<- a4.o]at v;have e2:=zy (xK v.here (hG.o.fr v.fr (Ne.symm a2)) a2 hs b6);replace v:=zy v;clear C B)
     |(go_at_call 100;apply(yr f.o.here hs a5 hy M_ D_).mono;rintro e w6 ⟨rfl,C,B⟩;have a7:=f.o.call B C;clear f;have f:=zy a7;clear a7 C B)
     |(go_at_call 163;apply e2.o.mono;rintro e F ⟨a,b,U,rfl,b4,hm⟩;obtain⟨g,b9,rfl,a0,h7⟩:∃g,w6.heap.size<=g/\U=.iface 179 (P_ g)/\Blk F g [I_ d,.iface et ex] 181/\PAt F bp s d:=(by rcases hm with⟨D,_⟩|⟨_,⟨g,E,d,q3⟩,R⟩;(exact absurd (a6.o.symm.trans D) D_);exact⟨g,E,d,q3,R⟩);replace b4:=zy b4;replace a0:=zy a0;replace h7:=zy h7))
    try go_ret
    rw[Q_.o];refine⟨.nilIface,_,.inl rfl,rfl,(v.o.fr.trans b4 u_).alloc _,?_⟩;rw[b5.o];have f6:=v.o.fr.size;exact⟨⟨g,ak_ f6 b9,rfl,a0.o.alloc _⟩,_,b6,C_ h7 _⟩
   |true=>
    have e6:d+1<=s.size:=zc (xy (by rw[hz];exact a6));have b5:=zy (show xz s i=if bt s (d+1)=41 then .ok ((l++[(x,j)],some (z,d)),d+1+1) else .error (d+1) by rw[G];unfold iA;rw[hy,i_ rfl,show j+1+1=d from a4.symm,hz,a6,i_ rfl,show j+1+2=d+1 by omega,show j+1+3=d+1+1 by omega]);rw[<- a4]at b6;replace a4:=zy a4;replace a6:=zy (show zh (bt s (d))=true by rw[hz];exact a6);replace hy:=zy hy;replace hz:=zy hz;clear G;go_wp2_with (first
     |(go_at_call 163;apply hC.o.mono;rintro e S ⟨a,b,U,rfl,u,hm⟩;obtain⟨rfl,rfl,rfl,t⟩:a=(j:Int)/\b=(x:Int)/\U=.nilIface/\PAt S bp s (j+1):=(by rcases hm with⟨_,E,d,q3,R,_⟩|⟨D,_⟩;(exact⟨E,d.trans (by rw[hx.o]),q3,R⟩);exact absurd (Z.o.symm.trans D) D_);have r:=(M.o.call t u).alloc (.cells #[I_ j,U_ x] 186);have J:=B_ S #[I_ j,U_ x] 186;have t1:=r.b.c1;have n0:=J.c0;have n1:=J.c1;have e4:=(M.o.call t u).hB;replace r:=zy r;clear t u J hm)
     |(at_builtin;go_must (refine wpList_append_own_at _ rfl _ _ 217 rfl (b0+1) 186 ti _ 2 16 qO d7 d8 d9 e0 rfl D_ (.slice sa l.length sc) l.length (zE l) rfl ?hown _ 1 1 [I_ j,U_ x] rfl rfl (zN _ #[I_ j,U_ x] _ _ ?nn) ?one ?b1 ?b2 ?b3 ?_)
       case hown=>exact World.ownsRow.alloc r.o.row _
       case nn=>simp
       case one=>simp[Value.oneCell']
       case b1=>unfold maxLen;omega
       case b2=>omega
       case b3=>simp;omega
       intro v5 w5 Q O b7 a1
       have f:=(r.o.item ((A_ _ _).alloc _) O Q a1 1).1
       have H:=r.o.ie ((A_ _ _).alloc _) O
       have e5:=H.c1
       have f5:=H.th 1
       obtain⟨Y,X,rfl⟩:=zm Q M_
       clear O a1 b7 Q H
       replace f:=zy f)
     |(go_at_call 100;apply(yl f.o.here hs a5 hy D_ D_).mono;rintro e w6 ⟨rfl,C,B⟩;have v:=f.o.call B C;rw[<- a4.o]at v;have e2:=zy (xK v.here (hG.o.fr v.fr (Ne.symm a2)) a2 hs b6);replace v:=zy v;clear C B)
     |(go_at_call 100;apply(yr f.o.here hs a5 hy M_ D_).mono;rintro e w6 ⟨rfl,C,B⟩;have a7:=f.o.call B C;clear f;have f:=zy a7;clear a7 C B)
     |(go_at_call 163;apply e2.o.mono;rintro e F ⟨a,b,U,rfl,b4,hm⟩;obtain⟨rfl,rfl,rfl,h7⟩:a=(d:Int)/\b=(z:Int)/\U=.nilIface/\PAt F bp s (d+1):=(by rcases hm with⟨_,E,d,q3,R,_⟩|⟨D,_⟩;(exact⟨E,d.trans (by rw[hz.o]),q3,R⟩);exact absurd (a6.o.symm.trans D) D_);have M7:=(v.o.call h7 b4).alloc (.cells #[I_ d,U_ z] 186);have N7:=B_ F #[I_ d,U_ z] 186;have k2:=M7.b.cell 2;have kg:=M7.b.th 2;simp only[am_,an_,aa_,ab_]at k2;have g0:=(v.o.call h7 b4).hB;have M8:=M7.put 2 (P_ F.heap.size);have N8:=zy (F_ N7 (a:=⟨b0,2,none⟩) (P_ F.heap.size) (by show ¬(F.heap.size=b0);omega));replace M8:=zy M8;clear h7 b4 N7 hm M7))
    have u0:=M8.o.b.cell 0;have u1:=M8.o.b.cell 1;have u2:=M8.o.b.cell 2;simp only[am_,an_,aa_,ab_]at u0 u1 u2;obtain⟨wd,d6⟩:=e_ (((F.alloc (.cells #[I_ d,U_ z] 186)).setCell ⟨b0,2,none⟩ (P_ F.heap.size)).drew);have b8:zq ((F.alloc (.cells #[I_ d,U_ z] 186)).setCell ⟨b0,2,none⟩ (P_ F.heap.size)) wd:=d6▸zq.drew _;have A:=M8.o.call (M8.o.here.si b8) ((A_ _ _).si b8);have e3:=zy (yJ (c:=41) 41 A.here (hG.o.fr A.fr (Ne.symm a2)) a2 hs e6 rfl D_);replace A:=zy A;refine tr_ 5 (λW=>f_ W b0 0 (I_ p)/\f_ W b0 1 (S_ Y (l.length+1) X)/\f_ W b0 2 (P_ F.heap.size)) ?_;refine tz_ 0 ?_;refine tz_ 1 ?_;refine tz_ 2 ?_;refine zw 3 rfl K_ (λ_=>⟨u0,u1,u2⟩) (λK hK=>?_);go_simp;rw[<- d6];apply e3.o.mono;rintro e w8 ⟨v8,rfl,a3,V⟩;refine hK _ _ ?_;clear hK K;have I:∃j8,j8<=s.size/\AM w bp s j8 b0 [I_ p,(S_ Y (l.length+1) X),P_ F.heap.size] 220 186 2 (S_ Y (l.length+1) X) (l.length+1) (zE l++[I_ j,U_ x]) w8:=by
     rcases V with⟨_,_,N,d2⟩|⟨_,_,N⟩
     .exact⟨_,d2,A.o.call N a3⟩
     .exact⟨_,e6,A.o.call N a3⟩
    obtain⟨j8,f2,I⟩:=I;obtain⟨x0,x1,x2⟩:=I.b.d3;refine t1_ 4 ⟨x0,x1,x2⟩ ?_;refine t1_ 5 ⟨x0,x1,x2⟩ ?_;refine td_ ?_ _;revert a3 V I;refine h_ λa3 V I=>?_;clear x0 x1 x2 u0 u1 u2;go_wp2;try go_ret
    rw[Q_.o];refine⟨.iface 220 (.agg #[I_ p,(S_ Y (l.length+1) X),P_ F.heap.size]),v8,.inr ⟨_,_,rfl⟩,rfl,I.o.fr,?_⟩;have e7:=A.o.fr.size;rw[b5.o];rcases V.o with⟨hb,rfl,N,d2⟩|⟨hb,hF,N⟩
    .rw[i_ hb];have hN:Blk w8 F.heap.size [I_ d,U_ z] 186:=a3.o.bl (((A_ _ N_).si b8).bl N8 id) (by have:=M.o.lt;omega);exact⟨rfl,N,rK I ⟨F.heap.size,M_,rfl,hN⟩⟩
    .rw[n_ hb];exact⟨hF.ls e7,_,e6,N⟩
def rO(w:World)(bp:Nat)(s:BA)(i:Nat)(et:TypeId)(ex:Value)(e:Ending)(w':World):Prop:=
 ∃v ev,IfV v/\e=.returned (.tuple #[v,ev])/\Fr w w' (· = bp)/\
 match yZ s i with
 | .ok (b,j)=>ev=.nilIface/\PAt w' bp s j/\ye w' (λg=>w.heap.size<=g) s b v
 | .error k=>zT w' w.heap.size ev (k:Int) (.iface et ex)/\∃j,j<=s.size/\PAt w' bp s j
def lC{w:World}{bp:Nat}{s:BA}(h:PAt w bp s i)(B:gI w et ex)(D:bp≠0)(hs:s.size<=300)(hi:i<=s.size):Calls prog 98 #[P_ bp] w (rO w bp s i et ex):=by
 obtain⟨N,E⟩:=y_ (rO w bp s i et ex);rw[<- E.o];have a:=zy (And.intro h (A_ w (λx=>x=bp)));replace B:=zy B;by_cases u:bt s i=114
 .have C:i+1<=s.size:=zc (s:=s) (i:=i) M_;have hp:=zy (lH u);have hx:=zy u;go_in;go_wp2_with (first
   |(go_at_call 97;refine(yj a.o.1).mono ?_;rintro e w' ⟨rfl,z⟩;rw[z])
   |(go_at_call 100;refine(yl a.o.1 hs hi hx D_ D_).mono ?_;rintro e w' ⟨rfl,c,b⟩;have f:=zy (And.intro b (a.o.2.trans c u_)))
   |(go_at_call 130;refine(sW (p:=i) f.o.1 (B.o.fr f.o.2 (Ne.symm D)) D hs C).mono ?_;rintro e M ⟨v,F,m,rfl,q,hm⟩;replace q:=zy q;replace hm:=zy hm;replace m:=zy m))
  try go_ret
  rw[E.o];have t:=f.o.2.size;refine⟨v,F,m,rfl,f.o.2.trans q u_,?_⟩;rw[hp.o];have d:=hm.o;cases y:yp s (i+1) with
  |error k=>rw[y]at d;exact⟨d.1.ls t,d.2⟩
  |ok r=>
   obtain⟨fs,j⟩:=r;rw[y]at d;exact⟨d.1,d.2.1,(d.2.2 ⟨j,by rw[hp.o,y]⟩).mono (λg _ hg=>ak_ t hg)⟩
 .by_cases A:bt s i=101
  .have C:i+1<=s.size:=zc (s:=s) (i:=i) M_;have hp:=zy (mp A);have hx:=zy A;go_in;go_wp2_with (first
    |(go_at_call 97;refine(yj a.o.1).mono ?_;rintro e w' ⟨rfl,z⟩;rw[z])
    |(go_at_call 100;refine(yl a.o.1 hs hi hx D_ D_).mono ?_;rintro e w' ⟨rfl,c,b⟩;have f:=zy (And.intro b (a.o.2.trans c u_)))
    |(go_at_call 100;refine(yr a.o.1 hs hi hx D_ D_).mono ?_;rintro e w' ⟨rfl,c,b⟩;replace a:=zy (And.intro b (a.o.2.trans c u_)))
    |(go_at_call 131;refine(YW (p:=i) f.o.1 (B.o.fr f.o.2 (Ne.symm D)) D hs C).mono ?_;rintro e M ⟨v,F,m,rfl,q,hm⟩;replace q:=zy q;replace hm:=zy hm;replace m:=zy m))
   try go_ret
   rw[E.o];have t:=f.o.2.size;refine⟨v,F,m,rfl,f.o.2.trans q u_,?_⟩;rw[hp.o];have d:=hm.o;cases y:xz s (i+1) with
   |error k=>rw[y]at d;exact⟨d.1.ls t,d.2⟩
   |ok r=>
    obtain⟨⟨l,o⟩,j⟩:=r;rw[y]at d;exact⟨d.1,d.2.1,(d.2.2 ⟨j,by rw[hp.o,y]⟩).mono (λg _ hg=>ak_ t hg)⟩
  .by_cases G:bt s i=102
   .have C:i+1<=s.size:=zc (s:=s) (i:=i) M_;have hp:=zy (ww G);have hx:=zy G;go_in;go_wp2_with (first
     |(go_at_call 97;refine(yj a.o.1).mono ?_;rintro e w' ⟨rfl,z⟩;rw[z])
     |(go_at_call 100;refine(yl a.o.1 hs hi hx D_ D_).mono ?_;rintro e w' ⟨rfl,c,b⟩;have f:=zy (And.intro b (a.o.2.trans c u_)))
     |(go_at_call 100;refine(yr a.o.1 hs hi hx D_ D_).mono ?_;rintro e w' ⟨rfl,c,b⟩;replace a:=zy (And.intro b (a.o.2.trans c u_)))
     |(go_at_call 132;refine(ar (p:=(i:Int)) f.o.1 (B.o.fr f.o.2 (Ne.symm D)) hs C).mono ?_;rintro e M ⟨v,F,m,rfl,q,hm⟩;replace q:=zy q;replace hm:=zy hm;replace m:=zy m))
    try go_ret
    rw[E.o];have t:=f.o.2.size;refine⟨v,F,m,rfl,f.o.2.trans q u_,?_⟩;rw[hp.o];rcases hm.o with⟨I,J,rfl,rfl,q3,_⟩|⟨I,J,q3⟩
    .rw[i_ ⟨I,J⟩];exact⟨rfl,q3,.bytes i _ ⟨_,by rw[hp.o,i_ ⟨I,J⟩]⟩⟩
    .rw[n_ I];exact⟨J.ls t,_,C,q3⟩
   .have hp:=zy (lR u A G);obtain⟨x,hx⟩:=x_ (bt s i);rw[hx]at u A G;replace hx:=zy hx;go_in;go_wp2_with (first
     |(go_at_call 97;refine(yj a.o.1).mono ?_;rintro e w' ⟨rfl,z⟩;rw[z])
     |(go_at_call 100;refine(yr a.o.1 hs hi hx M_ D_).mono ?_;rintro e w' ⟨rfl,c,b⟩;replace a:=zy (And.intro b (a.o.2.trans c u_)))
     |(go_at_call 68;refine(xW a.o.1 (B.o.fr a.o.2 (Ne.symm D))).mono ?_;rintro e Q ⟨v,rfl,K,H⟩;replace K:=zy K;replace H:=zy H))
    try go_ret
    rw[E.o];have t:=a.o.2.size;refine⟨.nilIface,v,.inl rfl,rfl,a.o.2.trans H v_,?_⟩;rw[hp.o];exact⟨K.o.ls t,i,hi,H.o.bl a.o.1 id⟩
def atD(s:BA)(i:Nat):Bool:=zp (bt s i)&&decide (i+1<s.size)&&decide (bt s (i+1)=61)
def ju{w:World}{bp:Nat}{s:BA}(h:PAt w bp s i)(hs:s.size<=300)(hi:i<=s.size):Calls prog 65 #[P_ bp] w λe w'=>e=.returned (.bool (atD s i))/\zq w w':=by
 have c0:=h.c0;have c1:=h.c1;obtain⟨x,hx⟩:=x_ (bt s i);have c:H_ (∀q,Calls prog 96 #[P_ bp] (w.drewN q) λe w'=>e=.returned (U_ x)/\∃m,w'=(w.drewN q).drewN m):=zy (λq=>by rw[<- hx];exact yx (h.si (zq.drewN w q)) hs hi);have d:H_ (∀(q:Nat) (b:Bool),zp x=b->Calls prog 95 #[U_ x] (w.drewN q) λe w'=>e=.returned (.bool b)/\w'=w.drewN q):=zy (λq b hb=>by rw[<- hb];exact kO x _);unfold atD;rw[hx];clear h hx;cases hn:zp x with
 |false=>
  replace hn:=zy hn;go_in;go_wp2;go_quiet (first|(go_at_call 96;exact Calls.quiet_of (c.o _))|(go_at_call 95;exact Calls.quiet_of_same (d.o _ _ hn)));go_wp2;try go_ret
  exact⟨rfl,zq.drewN _ _⟩
 |true=>
  replace hn:=zy hn;by_cases h1:i+1<s.size
  .obtain⟨k,hk⟩:=e_ (i+1);have g:IntKind.i64.wrap ((i:Int)+1)=(k:Int):=by rw[IntKind.wrap_i64];omega
   rw[<- hk]at h1;rw[<- hk];have a:(k:Int)<(s.size:Int):=M_;have hb:(((s[k]'h1).toNat:Int)==61)=decide (bt s k=61):=by
    rw[vR s k h1];by_cases e:(s[k]'h1).toNat=61
    .rw[e];rfl
    .rw[decide_eq_false e,beq_eq_false_iff_ne];omega
   have hd:decide (k<s.size)=true:=decide_eq_true h1;clear hk;rw[hd,Bool.true_and,Bool.true_and,<- hb];clear hd hb;go_in;go_wp2;go_quiet (first|(go_at_call 96;exact Calls.quiet_of (c.o _))|(go_at_call 95;exact Calls.quiet_of_same (d.o _ _ hn)));go_wp2;try go_ret
   exact⟨rfl,zq.drewN _ _⟩
  .have a:¬((i:Int)+1<(s.size:Int)):=M_;have g:IntKind.i64.wrap ((i:Int)+1)=(i:Int)+1:=by rw[IntKind.wrap_i64];omega
   have f:decide ((i:Int)+1<(s.size:Int))=false:=decide_eq_false a;have hd:decide (i+1<s.size)=false:=decide_eq_false h1;rw[hd,Bool.and_false,Bool.false_and];clear hd;go_in;go_wp2;go_quiet (first|(go_at_call 96;exact Calls.quiet_of (c.o _))|(go_at_call 95;exact Calls.quiet_of_same (d.o _ _ hn)));go_wp2;try go_ret
   exact⟨rfl,zq.drewN _ _⟩
def Fr.three(w:World)(b:Nat)(a c d:Value):Fr w (((w.setCell ⟨b,0,none⟩ a).setCell ⟨b,1,none⟩ c).setCell ⟨b,2,none⟩ d) (λg=>g=b):=
 (((A_ w (λg=>g=b)).setCell ⟨b,0,none⟩ a (λ_=>rfl)).setCell ⟨b,1,none⟩ c (λ_=>rfl)).setCell ⟨b,2,none⟩ d (λ_=>rfl)
def Blk.three{w:World}{b t:Nat}{u0 a u2:Value}(h:Blk w b [u0,a,u2] t)(a c d:Value):Blk (((w.setCell ⟨b,0,none⟩ a).setCell ⟨b,1,none⟩ c).setCell ⟨b,2,none⟩ d) b [a,c,d] t:=
 ((h.set 0 a).set 1 c).set 2 d
def ye.iface{w:World}{P:Nat->Prop}{s:BA}{b:PB}{v:Value}(h:ye w P s b v):∃T x,v=.iface T x:=by
 cases h<;>exact⟨_,_,rfl⟩
def PAt.two{w:World}{bp:Nat}{s:BA}(h:PAt w bp s i):PAt (w.setCell ⟨bp,1,none⟩ (z_ ((i:Int)+2))) bp s (i+2):=T_ h 1 _
def Yw(w:World)(bp:Nat)(s:BA)(i:Nat)(et:TypeId)(ex:Value)(e:Ending)(w':World):Prop:=
 ∃(a b:Int) (c ev:Value),e=.returned (.tuple #[.agg #[z_ a,.int .u8 b,c],ev])/\IfV c/\Fr w w' (· = bp)/\
 match yZ s (i+2) with
 | .ok (pb,j)=>if bt s j=59 then ev=.nilIface/\PAt w' bp s (j+1)/\j<s.size/\a=(i:Int)/\b=(bt s i:Int)/\ye w' (λg=>w.heap.size<=g) s pb c else zT w' w.heap.size ev (j:Int) (.iface et ex)/\∃j,j<=s.size/\PAt w' bp s j
 | .error k=>zT w' w.heap.size ev (k:Int) (.iface et ex)/\∃j,j<=s.size/\PAt w' bp s j
def uO{w:World}{bp:Nat}{s:BA}(h:PAt w bp s i)(hG:gI w et ex)(J:bp≠0)(hs:s.size<=300)(hi:i+2<=s.size)(a1:∀pb j,yZ s (i+2)=.ok (pb,j)->j<=s.size):Calls prog 66 #[P_ bp] w (Yw w bp s i et ex):=by
 obtain⟨a9,Q_⟩:=y_ (Yw w bp s i et ex);rw[<- Q_.o];have b4:=h.lt;have h0:=zy (show PAt (w.alloc (.cells #[O_,.int .u8 0,.nilIface] 173)) bp s i from C_ h _);have F0:=zy (show Fr w (w.alloc (.cells #[O_,.int .u8 0,.nilIface] 173)) (λx=>x=bp) from(A_ w _).alloc _);have B0:=zy (B_ w #[O_,.int .u8 0,.nilIface] 173);have a5:=zy (by simp:(w.alloc (.cells #[O_,.int .u8 0,.nilIface] 173)).heap.size=w.heap.size+1);have a0:=zy hG;have a4:i<=s.size:=M_;clear h hG;obtain⟨x,hx⟩:=x_ (bt s i);replace hx:=zy hx;cases hp:yZ s (i+2) with
 |error k=>
  replace hp:=zy hp;clear a1;go_in;go_wp2_with (first
   |(go_at_call 97;apply(yj h0).mono;rintro e w' ⟨rfl,U⟩;rw[U];clear U)
   |(go_at_call 96;apply(yx h0 hs a4).mono;rintro e w1 ⟨rfl,D⟩;rw[hx.o];have h1:=h0.o.si D;have A:=(A_ (w.alloc (.cells #[O_,.int .u8 0,.nilIface] 173)) (λg=>g=bp)).si D;have P1:=C_ h1 (.cells #[I_ i,U_ x,.nilIface] 173);have c1:=PAt.c1 P1;have f1:=PAt.th P1 1;have a2:=A.size;rw[a5.o]at a2;have u:=A.alloc (.cells #[I_ i,U_ x,.nilIface] 173);have l:Fr (w1.alloc (.cells #[I_ i,U_ x,.nilIface] 173)) ((w1.alloc (.cells #[I_ i,U_ x,.nilIface] 173)).setCell ⟨bp,1,none⟩ (z_ ((i:Int)+2))) (λg=>g=bp):=(A_ _ (λg=>g=bp)).setCell ⟨bp,1,none⟩ _ (λ_=>rfl);have C:=l.bl (u.bl B0 M_) M_;have E:=l.bl (B_ w1 #[I_ i,U_ x,.nilIface] 173) M_;have P2:=PAt.two P1;have f:=(F0.o.trans u u_).trans l u_;have B:=a0.o.fr f (Ne.symm J);have V:=zy ((by simp):((w1.alloc (.cells #[I_ i,U_ x,.nilIface] 173)).setCell ⟨bp,1,none⟩ (z_ ((i:Int)+2))).heap.size=w1.heap.size+1);revert C E P2 f B;refine k_ λC E P2 f B=>?_;clear h1 A u l D;replace P1:=zy P1)
   |(go_at_call 98;apply(lC P2 B J hs hi).mono;rintro e M ⟨v,ev,hI,rfl,b,hm⟩;rw[hp.o]at hm;obtain⟨⟨g,b5,rfl,S⟩,j3,X,H⟩:=hm;have m:=b.bl C M_;obtain⟨r0,r1,r2⟩:=m.d3;obtain⟨g0,g1,g2⟩:=m.t3;replace m:=zy m;replace b:=zy b;replace S:=zy S;replace H:=zy H;clear hI))
  have S2:=Blk.three m (O_) (.int .u8 0) .nilIface;obtain⟨q0,q1,q2⟩:=S2.d3;refine bodyPost_ret (v:=.tuple #[.agg #[O_,.int .u8 0,.nilIface],.iface 179 (P_ g)]) (by simp[results,results66,go_sem,q0,q1,q2]) rfl ?_;rw[Q_.o];have a:=Fr.three M w.heap.size (O_) (.int .u8 0) .nilIface;have hz:=V.o;refine⟨0,0,.nilIface,_,rfl,.inl rfl,(f.o.trans b u_).trans a (λy hy e=>M_),?_⟩;rw[hp.o];exact⟨⟨g,M_,rfl,a.bl S M_⟩,j3,X,a.bl H M_⟩
 |ok r=>
  obtain⟨pb,j⟩:=r;have hj:j<=s.size:=a1 pb j hp;clear a1;replace hp:=zy hp;go_in;go_wp2_with (first
   |(go_at_call 97;apply(yj h0).mono;rintro e w' ⟨rfl,U⟩;rw[U];clear U)
   |(go_at_call 96;apply(yx h0 hs a4).mono;rintro e w1 ⟨rfl,D⟩;rw[hx.o];have h1:=h0.o.si D;have A:=(A_ (w.alloc (.cells #[O_,.int .u8 0,.nilIface] 173)) (λg=>g=bp)).si D;have P1:=C_ h1 (.cells #[I_ i,U_ x,.nilIface] 173);have c1:=PAt.c1 P1;have f1:=PAt.th P1 1;have a2:=A.size;rw[a5.o]at a2;have u:=A.alloc (.cells #[I_ i,U_ x,.nilIface] 173);have l:Fr (w1.alloc (.cells #[I_ i,U_ x,.nilIface] 173)) ((w1.alloc (.cells #[I_ i,U_ x,.nilIface] 173)).setCell ⟨bp,1,none⟩ (z_ ((i:Int)+2))) (λg=>g=bp):=(A_ _ (λg=>g=bp)).setCell ⟨bp,1,none⟩ _ (λ_=>rfl);have C:=l.bl (u.bl B0 M_) M_;have E:=l.bl (B_ w1 #[I_ i,U_ x,.nilIface] 173) M_;have P2:=PAt.two P1;have f:=(F0.o.trans u u_).trans l u_;have B:=a0.o.fr f (Ne.symm J);have V:=zy ((by simp):((w1.alloc (.cells #[I_ i,U_ x,.nilIface] 173)).setCell ⟨bp,1,none⟩ (z_ ((i:Int)+2))).heap.size=w1.heap.size+1);revert C E P2 f B;refine k_ λC E P2 f B=>?_;clear h1 A u l D)
   |(go_at_call 98;apply(lC P2 B J hs hi).mono;rintro e M ⟨v,ev,hI,rfl,b,hm⟩;rw[hp.o]at hm;obtain⟨rfl,H,hv⟩:=hm;obtain⟨q,t,rfl⟩:=hv.iface;have a8:=b.size;rw[V.o]at a8;have m:=b.bl C M_;have X:=b.bl E M_;have k2:=X.c2;have kg:=X.th 2;have S:Fr M (M.setCell ⟨w1.heap.size,2,none⟩ (.iface q t)) (λg=>g=w1.heap.size):=(A_ M (λg=>g=w1.heap.size)).setCell ⟨w1.heap.size,2,none⟩ _ (λ_=>rfl);have z:=X.set 2 (.iface q t);have O:=S.bl m M_;have Y:=S.bl H M_;have Z:=(hv.mono (Q:=λg=>w1.heap.size<g) (λg _ hg=>by have:=V.o;omega)).fr S (λg hg e=>M_);have G:=(f.o.trans b u_).trans S (λy hy e=>M_);have G4:=zy (a0.o.fr G (Ne.symm J));replace z:=zy z;replace O:=zy O;replace Y:=zy (show PAt _ bp s j from Y);replace Z:=zy Z;replace G:=zy G;clear hI b H hv m X S))
  have u0:=z.o.cell 0;have u1:=z.o.cell 1;have u2:=z.o.cell 2;simp only[am_,an_,aa_,ab_]at u0 u1 u2;obtain⟨d,a3⟩:=e_ (M.setCell ⟨w1.heap.size,2,none⟩ (.iface q t));rw[<- a3]at u0 u1 u2⊢;rw[<- a3]at z O Y Z G G4;clear a3 k2 kg;have hC:=zy (yJ (c:=59) 59 (Y.o.si (zq.drew d)) (G4.o.fr ((A_ d N_).si (zq.drew d)) id) J hs hj rfl D_);have b6:=O.o.lt;refine tr_ 4 (λW=>f_ W w1.heap.size 0 (I_ i)/\f_ W w1.heap.size 1 (U_ x)/\f_ W w1.heap.size 2 (.iface q t)) ?_;refine tz_ 0 ?_;refine tz_ 1 ?_;refine zw 2 rfl K_ (λ_=>⟨u0,u1,u2⟩) (λK hK=>?_);go_simp;apply hC.o.mono;rintro e w8 ⟨v8,rfl,a6,hE⟩;refine hK _ _ ?_;clear hK K;have I:Fr d w8 (λg=>g=bp):=((A_ d _).si (zq.drew d)).trans a6 u_;have F:=I.bl z M_;have R:=I.bl O M_;have x0:=F.cell 0;have x1:=F.cell 1;have x2:=F.cell 2;have r0:=R.cell 0;have r1:=R.cell 1;have r2:=R.cell 2;obtain⟨g0,g1,g2⟩:=R.t3;simp only[am_,an_,aa_,ab_]at x0 x1 x2 r0 r1 r2;have a:=Fr.three w8 w.heap.size (I_ i) (U_ x) (.iface q t);have N:=a.bl F M_;have z0:=N.cell 0;have z1:=N.cell 1;have z2:=N.cell 2;simp only[am_,an_,aa_,ab_]at z0 z1 z2;revert hE I F a N;refine k_ λhE I F a N=>?_;refine t1_ 3 ⟨x0,x1,x2⟩ ?_;refine t1_ 4 ⟨z0,z1,z2⟩ ?_;refine td_ ?_ _;have S2:=Blk.three R (I_ i) (U_ x) (.iface q t);obtain⟨q0,q1,q2⟩:=S2.d3;clear x0 x1 x2 u0 u1 u2 z0 z1 z2 r0 r1 r2 g0 g1 g2;go_wp2;refine bodyPost_ret (v:=.tuple #[.agg #[I_ i,U_ x,.iface q t],v8]) (by simp[results,results66,go_sem,q0,q1,q2]) rfl ?_;rw[Q_.o];refine⟨(i:Int),(x:Int),.iface q t,v8,rfl,.inr ⟨_,_,rfl⟩,(G.o.trans I u_).trans a (λy hy e=>M_),?_⟩;rw[hp.o];have hz:=V.o;show(if bt s j=59 then _ else _);rcases hE.o with⟨hb,rfl,h8,a7⟩|⟨hb,hF,h8⟩
  .rw[i_ hb];exact⟨rfl,a.o.bl h8 M_,a7,rfl,by rw[hx.o],((Z.o.fr I (λg hg e=>M_)).fr a (λg hg e=>M_)).mono (λg _ hg=>M_)⟩
  .rw[n_ hb];exact⟨(hF.fr a (λg hg e=>by have:d.drew.heap.size=d.heap.size:=rfl;omega)).ls (by have:d.drew.heap.size=d.heap.size:=rfl;omega),j,hj,a.o.bl h8 M_⟩
end Go.Proofs.YtjkiencmjggakaaGreatDoor
