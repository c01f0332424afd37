import Derived.Test.YtokgeopihcopeaaGreatDoorW09
set_option linter.unusedVariables false
set_option maxHeartbeats 16000000
set_option maxRecDepth 100000
set_option linter.defProp false
set_option linter.unusedSimpArgs false
open Go.Proofs.Tryz
namespace Go.Proofs.YtokgeopihcopeaaGreatDoor
open Go.RowKit
variable {i:Nat}{et:Av}{ex:Ax}
def TyV.iface{w:Aw}{P:Az}{t:PT}{v:Ax}(h:TyV w P t v):∃T x,v=.iface T x:=by
 cases h<;>exact⟨_,_,rfl⟩
def Zw(w:Aw)(bp:Nat)(s:BA)(i p:Nat)(et:Av)(ex:Ax)(e:Ak)(w':Aw):Prop:=
 ∃v ev,IfV v/\e=.returned (.tuple #[v,ev])/\Fr w w' (· = bp)/\
 match yf s i with
 | .ok (fs,j)=>ev=.nilIface/\PAt w' bp s j/\(pB s p (.recd fs)->yV w' (λg=>w.heap.size<=g) s (.recd fs) v)
 | .error k=>zO w' w.heap.size ev (k:Int) (.iface et ex)/\∃j,j<=s.size/\PAt w' bp s j
section
variable {w W W2:Aw} {bp:Nat} {s:BA} {j b0:Nat} {L:Ay} {T ET:Av} {k:Nat} {sv v5:Ax} {n:Nat} {xs:Ay}
def keepF{fs:An}{ys:Ay}(b:Fr W W2 (λg=>sv.ownBlock=some g\/g=b0))(hn:∀g,v5.ownBlock=some g->b0+1<=g/\(sv.ownBlock=some g\/W.heap.size<=g))(h:xG W (λg=>b0+1<=g/\sv.ownBlock≠some g) s fs ys):xG W2 (λg=>b0+1<=g/\v5.ownBlock≠some g) s fs ys:=
 ((h.mono (Q:=λg=>(b0+1<=g/\sv.ownBlock≠some g)/\g<W.heap.size) (λ_ h1 a=>⟨a,h1⟩)).fr b (λg hg e=>by
   rcases e with e|e
   .exact hg.1.2 e
   .have:=hg.1.1;omega)).mono (λg _ hg=>⟨hg.1.1,λe=>by
   rcases(hn g e).2 with q|q
   .exact hg.1.2 q
   .have:=hg.2;omega⟩)
def Ut{f:PF}{a b c d:Ax}(m:Fr W W2 (λg=>sv.ownBlock=some g\/g=b0))(hn:∀g,v5.ownBlock=some g->b0+1<=g/\(sv.ownBlock=some g\/W.heap.size<=g))(h:cP W (λg=>b0+1<=g/\sv.ownBlock≠some g) s f a b c d):cP W2 (λg=>b0+1<=g/\v5.ownBlock≠some g) s f a b c d:=
 ((h.mono (Q:=λg=>(b0+1<=g/\sv.ownBlock≠some g)/\g<W.heap.size) (λ_ h1 l=>⟨l,h1⟩)).fr m (λg hg e=>by
   rcases e with e|e
   .exact hg.1.2 e
   .have:=hg.1.1;omega)).mono (λg _ hg=>⟨hg.1.1,λe=>by
   rcases(hn g e).2 with q|q
   .exact hg.1.2 q
   .have:=hg.2;omega⟩)
end
structure RF(w:Aw)(bp:Nat)(s:BA)(j b0:Nat)(p:Int)(sv:Ax)(fs:An)(xs:Ay)(W:Aw):Prop where
 A:AM w bp s j b0 [Z_ p,sv] 231 194 4 sv fs.length xs W
 F:xG W (λg=>b0+1<=g/\sv.ownBlock≠some g) s fs xs
section
variable {w W W':Aw} {bp:Nat} {s:BA} {j j' b0:Nat} {p:Int} {sv:Ax} {fs:An} {xs:Ay}
def RF.call(M:RF w bp s j b0 p sv fs xs W)(h:PAt W' bp s j')(hf:Fr W W' (· = bp)):RF w bp s j' b0 p sv fs xs W':=by
 have h1:=M.A.lt;have a:=M.A.w0;exact⟨M.A.call h hf,M.F.fr hf (λg hg e=>M_)⟩
def RF.alloc(M:RF w bp s j b0 p sv fs xs W)(o:Obj):RF w bp s j b0 p sv fs xs (W.alloc o):=M.call (E_ M.A.here o) ((A_ W _).alloc o)
def RF.si(M:RF w bp s j b0 p sv fs xs W)(a:zq W W'):RF w bp s j b0 p sv fs xs W':=M.call (M.A.here.si a) ((A_ W _).si a)
def RF.item(M:RF w bp s j b0 p sv fs xs W){o:Obj}{e:Aw}{v5 a b c d:Ax}{f:PF}(hg:(W.alloc o).grownBy e sv.ownBlock)(ho:e.ownsRow (b0+1) 194 4 v5 (fs.length+1) (xs++[a,b,c,d]))(hl:v5.ownBlock=sv.ownBlock\/v5.ownBlock=some (W.alloc o).heap.size)(hv:cP W (λg=>b0+1<=g/\sv.ownBlock≠some g) s f a b c d):RF w bp s j b0 p v5 (fs++[f]) (xs++[a,b,c,d]) (e.setCell ⟨b0,1,none⟩ v5):=by
 obtain⟨h1,e,h⟩:=M.A.item ((A_ W _).alloc o) hg ho hl 1;refine⟨?_,(keepF e h M.F).snoc M.A.row.1 (Ut e h hv)⟩;rw[ag_,ao_];exact h1
def RF.body(M:RF w bp s j b0 p sv fs xs W)(q:Nat)(hp:p=(q:Int))(hb:pB s q (.recd fs)):yV W (λg=>w.heap.size<=g) s (.recd fs) (.iface 231 (.agg #[Z_ p,sv])):=by
 subst hp;have:=M.A.w0;exact .recd q (yl M.A.row) (λg e=>o1_ (M.A.row.lt g e)) (M.F.mono (λg _ hg=>o1_ hg.1)) hb
end
def Bh(w:Aw)(bp:Nat)(s:BA)(i b0:Nat)(p:Int)(m:Nat)(W:Aw):Prop:=
 ∃j sv fs xs,RF w bp s j b0 p sv fs xs W/\j<=s.size/\i+fs.length<=j/\s.size+1-j<=m/\xr s i=vK fs (xr s j)
def ue:Tryz.prog.underlying 188=some (.slice 194):=K_
def oK:(Tryz.prog.info? 194).map (λi=>(i.zero,i.size,i.bytes))=some (some (.agg #[O_,.int .u8 0,.nilIface,.pointer none]),4,40):=K_
def aw{w:Aw}{bp:Nat}{s:BA}{p:Nat}(h:PAt w bp s i)(H:pW w et ex)(U:bp≠0)(hs:s.size<=300)(hi:i<=s.size):Calls prog 165 #[P_ bp,I_ p] w (Zw w bp s i p et ex):=by
 obtain⟨Y,G⟩:=y_ (Zw w bp s i p et ex);rw[<- G.o];have d9:=h.lt;have Y:=World.block_lt_of_cell? w ⟨0,0,none⟩ H;replace H:=zy H;have t:=zy (yT 40 (c:=40) h H U hs hi rfl D_);clear h;by_cases h40:bt s i=40;case neg=>
  have E:=zy (show yf s i=.error i by unfold yf;rw[n_ h40]);replace h40:=zy h40;go_in;go_wp2_with (go_at_call 110;apply t.o.mono;rintro e w1 ⟨V,rfl,q,hm⟩;obtain⟨g,a1,rfl,z,h1⟩:∃g,w.heap.size<=g/\V=.iface 184 (P_ g)/\Blk w1 g [I_ i,.iface et ex] 186/\PAt w1 bp s i:=xn_;replace q:=zy q;replace z:=zy z;replace h1:=zy h1);try go_ret
  rw[G.o];refine⟨.nilIface,_,.inl rfl,rfl,q,?_⟩;rw[E.o];exact⟨⟨g,a1,rfl,z⟩,i,hi,h1⟩
 case pos=>
 have a8:i+1<=s.size:=zp (s:=s) (i:=i) M_;by_cases y:bt s (i+1)=41;case pos=>
  have E:=zy (show yf s i=.ok ([],i+2) by unfold yf;rw[i_ h40,i_ y]);replace h40:=zy h40;replace y:=zy y;go_in;go_wp2_with (first
   |(go_at_call 110;apply t.o.mono;rintro e w1 ⟨V,rfl,q,hm⟩;obtain⟨rfl,h1⟩:V=.nilIface/\PAt w1 bp s (i+1):=xi_;have b4:=q.size;replace q:=zy q;replace h1:=zy h1)
   |(go_at_call 111;apply(gD 41 (E_ h1 (.cells #[I_ p,L_] 231)) hs a8 rfl D_ y).mono;rintro e X ⟨rfl,l,r⟩;have Y:=l.bl (B_ w1 #[I_ p,L_] 231) M_;have c0:=Y.c0;have c1:=Y.c1;revert l r Y;refine h_ λl r Y=>?_))
  try go_ret
  rw[G.o];refine⟨.iface 231 (.agg #[I_ p,L_]),.nilIface,.inr ⟨_,_,rfl⟩,rfl,(q.o.alloc _).trans l u_,?_⟩;rw[E.o];exact⟨rfl,r,.recd p (World.ownsRow_nil _ _ _ _) (λg e=>by simp[Value.ownBlock]at e) (λi f e=>by simp at e)⟩
 case neg=>
  have E:=zy (show yf s i=xr s (i+1) by unfold yf;rw[i_ h40,n_ y]);replace h40:=zy h40;replace y:=zy y;go_in;go_wp2_with (first
   |(go_at_call 110;apply t.o.mono;rintro e w1 ⟨V,rfl,q,hm⟩;obtain⟨rfl,h1⟩:V=.nilIface/\PAt w1 bp s (i+1):=xi_;have b4:=q.size;replace q:=zy q;replace h1:=zy h1;clear t)
   |(go_at_call 111;apply(pS 41 (E_ h1 (.cells #[I_ p,L_] 231)) hs a8 rfl D_ y).mono;rintro e X ⟨rfl,l,r⟩;have start:Bh w bp s (i+1) w1.heap.size (p:Int) (s.size+1) X:=⟨i+1,L_,[],[],⟨⟨r,(q.o.alloc _).trans l u_,d9,b4,(by have:=l.size;simp at this;omega),l.bl (B_ w1 #[I_ p,L_] 231) M_,World.ownsRow_nil _ _ _ _⟩,(λi f e=>by simp at e)⟩,a8,x6_,M_,(rR _).symm⟩;replace start:=zy start;obtain⟨b0,u⟩:=e_ w1.heap.size;rw[<- u]at start⊢;clear l r h1 q u b4))
  go_loopg [] (s.size+1) (λm W=>Bh w bp s (i+1) b0 (p:Int) m W);case atStart=>exact start
  case round=>
   clear start;obtain⟨j,sv,fs,xs,M,hj,q,hm,I⟩:=hrel;obtain⟨sa,sc,rfl⟩:=zw M.A.row;have q:fs.length<=300:=M_;have q:=zy (ZF M.A.here (H.o.fr M.A.fr (Ne.symm U)) U hs hj);have d7:=M.A.fr.size;have y:=M.A.hB;have y:=M.A.w0;have d8:=zy (vu (s:=s) hj);have a5:=zy (bj s j hj);obtain⟨ti,e0,e1,e2,e3⟩:=info_parts oK;replace M:=zy M;replace I:=zy I;go_wp2_with (first
    |(go_at_call 218;apply q.o.mono;rintro e X ⟨a,b,c,d,q,rfl,b6,⟨J,rfl⟩,l,hm⟩;replace l:=zy l;rcases hm with⟨f,B,rfl,r,a2,hv,a4⟩|⟨k,hk,⟨g,a1,rfl,z⟩,j3,b7,Z⟩
      obtain⟨N,O,rfl⟩:=hv.2.2.1.iface
      have F:=(M.o.call r l).alloc (.cells #[Z_ a,.int .u8 b,.iface N O,.pointer J] 194)
      have b5:=(hv.mono (Q:=λg=>b0+1<=g/\(Value.slice sa fs.length sc).ownBlock≠some g) (λg _ hg=>⟨M_,λe=>o1_ (M.o.A.row.lt g e)⟩)).fr ((A_ X N_).alloc (.cells #[Z_ a,.int .u8 b,.iface N O,.pointer J] 194)) u_
      have q:=B_ X #[Z_ a,.int .u8 b,.iface N O,.pointer J] 194
      have y:=F.A.b.c1
      obtain⟨y,y,y,n3⟩:=q.d4
      have y:=(M.o.call r l).A.hB
      replace F:=zy F
      replace b5:=zy b5
      replace a4:=zy a4
      clear r hv q b6
      rotate_left
      replace hk:=zy hk
      replace z:=zy z
      replace Z:=zy Z
      rcases b6 with rfl|⟨q,cx,rfl⟩)
    |(at_builtin;go_must (refine wpList_append_own_at _ rfl _ _ 188 rfl (b0+1) 194 ti _ 4 40 ue e0 e1 e2 e3 rfl D_ (.slice sa fs.length sc) fs.length xs rfl ?hown _ 1 1 [Z_ a,.int .u8 b,.iface N O,.pointer J] rfl rfl (zK _ #[Z_ a,.int .u8 b,.iface N O,.pointer J] _ _ ?nn) ?one ?b1 ?b2 ?b3 ?_)
      case hown=>exact World.ownsRow.alloc F.o.A.row _
      case nn=>simp
      case one=>simp[Value.oneCell']
      case b1=>unfold maxLen;omega
      case b2=>omega
      case b3=>simp;omega
      intro v5 q a9 a7 e5 b8
      have R:=F.o.item a7 a9 b8 b5
      have B5:=F.o.A.ie ((A_ _ _).alloc _) a7
      have q:=B5.c1
      have f5:=B5.th 1
      obtain⟨g5,a6,rfl⟩:=zg a9 M_
      clear a7 b8 e5 a9 B5
      replace R:=zy R)
    |(go_at_call 111;apply(uZ 44 R.o.A.here hs a2 rfl D_).mono;rintro e w6 ⟨tb,rfl,a0,q⟩;replace a0:=zy a0;rcases q with⟨D,rfl,S,e4⟩|⟨D,rfl,S⟩<;>replace D:=zy D<;>replace S:=zy S))
   ·
    try go_ret
    rw[G.o];refine⟨.nilIface,_,.inl rfl,rfl,(M.o.A.fr.trans l u_).alloc _,?_⟩;rw[E.o,I.o,a5.o,hk.o];exact⟨⟨g,al_ d7 a1,rfl,z.o.alloc _⟩,j3,b7,E_ Z _⟩
   ·
    try go_ret
    rw[G.o];refine⟨.nilIface,_,.inl rfl,rfl,(M.o.A.fr.trans l u_).alloc _,?_⟩;rw[E.o,I.o,a5.o,hk.o];exact⟨⟨g,al_ d7 a1,rfl,z.o.alloc _⟩,j3,b7,E_ Z _⟩
   .have u:=R.o.call S a0;replace u:=zy u;have v:H_ (xr s (i+1)=vK (fs++[f]) (xr s (B+1))/\j<B):=zy (by
     rcases a4.o with a3|⟨d2,rfl⟩
     .have:=(d8.o.1 f B a3)
      rw[I.o,a5.o,a3]
      simp only
      rw[n_ (by rw[D.o];decide),i_ D.o,fP]
      exact⟨rfl,M_⟩
     .have:=D.o
      rw[wh l_]at this
      exact absurd this D_)
    have l:=v.o.2;go_roundg (s.size+1-(B+1));case measure=>omega
    case rel=>exact⟨B+1,_,fs++[f],_,u,e4,by rw[ag_,ao_];omega,l_,v.o.1⟩
   .have u:=R.o.call S a0;replace u:=zy u;have u0:=u.o.A.b.c0;have u1:=u.o.A.b.c1;have l:zq w6 w6.drew:=zq.drew w6;have C:=u.o.si l;have l:=zy (yT (c:=41) 41 C.A.here (H.o.fr C.A.fr (Ne.symm U)) U hs a2 rfl D_);replace C:=zy C;refine tr_ 5 (λW=>z_ W b0 0 (I_ p)/\z_ W b0 1 (S_ g5 (fs.length+1) a6)) ?_;refine tz_ 0 ?_;refine tz_ 1 ?_;refine tz_ 2 ?_;refine zh 3 rfl K_ (λ_=>⟨u0,u1⟩) (λK hK=>?_);go_simp;apply l.o.mono;rintro e w8 ⟨v8,rfl,l,t⟩;refine hK _ _ ?_;clear hK K;have x:∃q,q<=s.size/\RF w bp s q b0 (p:Int) (S_ g5 (fs.length+1) a6) (fs++[f]) (xs++[Z_ a,.int .u8 b,.iface N O,.pointer J]) w8:=by
     rcases t with⟨_,_,v,b9⟩|⟨_,_,v⟩
     .exact⟨B+1,b9,C.o.call v l⟩
     .exact⟨B,a2,C.o.call v l⟩
    obtain⟨q,q,x⟩:=x;have q:=x.A.b.c0;have r:=x.A.b.c1;refine t1_ 4 ⟨q,r⟩ ?_;refine t1_ 5 ⟨q,r⟩ ?_;refine td_ ?_ _;revert l t x;refine h_ λl t x=>?_;clear q r u0 u1;go_wp2;try go_ret
    rw[G.o];refine⟨.iface 231 (.agg #[I_ p,(S_ g5 (fs.length+1) a6)]),v8,.inr ⟨_,_,rfl⟩,rfl,x.o.A.fr,?_⟩;rw[E.o,I.o,a5.o];have d6:=C.o.A.fr.size;rcases a4.o with a3|⟨d2,rfl⟩
    .rw[a3];simp only;rcases t.o with⟨hb,rfl,v,b9⟩|⟨hb,hF,v⟩
     .rw[i_ hb];exact⟨rfl,v,x.o.body p rfl⟩
     .rw[n_ hb,n_ D.o];exact⟨hF.ls d6,B,a2,v⟩
    .rw[d2];rcases t.o with⟨hb,_⟩|⟨hb,hF,v⟩
     .rw[wh l_]at hb;exact absurd hb D_
     .exact⟨hF.ls d6,_,l_,v⟩
def sy(w:Aw)(bp:Nat)(s:BA)(i p:Nat)(et:Av)(ex:Ax)(e:Ak)(w':Aw):Prop:=
 ∃v ev,IfV v/\e=.returned (.tuple #[v,ev])/\Fr w w' (· = bp)/\
 match xY s i with
 | .ok ((l,o),j)=>ev=.nilIface/\PAt w' bp s j/\(pB s p (.enum l o)->yV w' (λg=>w.heap.size<=g) s (.enum l o) v)
 | .error k=>zO w' w.heap.size ev (k:Int) (.iface et ex)/\∃j,j<=s.size/\PAt w' bp s j
def fQ(l:As)(c p:Nat):zE (l++[(c,p)])=zE l++[I_ p,U_ c]:=by
 simp[zE]
def AM.put{w W:Aw}{bp:Nat}{s:BA}{j b0:Nat}{L:Ay}{T ET:Av}{k:Nat}{sv:Ax}{n:Nat}{xs:Ay}(M:AM w bp s j b0 L T ET k sv n xs W)(c:Nat)(v:Ax):AM w bp s j b0 (L.set c v) T ET k sv n xs (W.setCell ⟨b0,c,none⟩ v):=by
 have h1:=M.lt;have a:=M.w0;have a:Fr W (W.setCell ⟨b0,c,none⟩ v) (λg=>g=b0):=(A_ W (λg=>g=b0)).setCell ⟨b0,c,none⟩ v (λ_=>rfl);exact⟨a.bl M.here M_,M.fr.trans a (λx hx e=>M_),M.lt,M.w0,al_ M.hB a.size,M.b.set c v,zj M.row a (λg hg e=>o1_ (M.row.lt g hg))⟩
def Ba(w:Aw)(bp:Nat)(s:BA)(i b0:Nat)(p:Int)(m:Nat)(W:Aw):Prop:=
 ∃j sv l,AM w bp s j b0 [Z_ p,sv,.pointer none] 236 191 2 sv l.length (zE l) W/\j<=s.size/\i+l.length<=j/\s.size+1-j<=m/\xY s i=gP s l (qN s j)
def kN:Tryz.prog.underlying 233=some (.slice 191):=K_
def JW:(Tryz.prog.info? 191).map (λi=>(i.zero,i.size,i.bytes))=some (some (.agg #[O_,.int .u8 0]),2,16):=K_
def nV{w W:Aw}{bp:Nat}{s:BA}{j b0 x y p:Nat}{l:As}{sv u:Ax}{o:Ac}{L:Ay}(M:AM w bp s j b0 L 236 191 2 sv (l.length+1) (zE l++[I_ y,U_ x]) W)(hu:qb W (λg=>w.heap.size<=g) o u)(hb:pB s p (.enum (l++[(x,y)]) o)):yV W (λg=>w.heap.size<=g) s (.enum (l++[(x,y)]) o) (.iface 236 (.agg #[I_ p,sv,u])):=by
 have:=M.w0;refine .enum p ?_ (λg e=>o1_ (M.row.lt g e)) hu hb;rw[fQ,ag_,ao_];exact yl M.row
def VM{w:Aw}{bp:Nat}{s:BA}{p:Nat}(h:PAt w bp s i)(N:pW w et ex)(F:bp≠0)(hs:s.size<=300)(hi:i<=s.size):Calls prog 166 #[P_ bp,I_ p] w (sy w bp s i p et ex):=by
 obtain⟨e8,Q_⟩:=y_ (sy w bp s i p et ex);rw[<- Q_.o];have d7:=h.lt;have f0:=World.block_lt_of_cell? w ⟨0,0,none⟩ N;replace N:=zy N;have D:=zy (yT 40 (c:=40) h N F hs hi rfl D_);clear h;by_cases h40:bt s i=40;case neg=>
  have a7:=zy (show xY s i=.error i by unfold xY;rw[n_ h40]);replace h40:=zy h40;go_in;go_wp2_with (go_at_call 110;apply D.o.mono;rintro e w1 ⟨v1,rfl,Y,hm⟩;obtain⟨g,a4,rfl,E,h1⟩:∃g,w.heap.size<=g/\v1=.iface 184 (P_ g)/\Blk w1 g [I_ i,.iface et ex] 186/\PAt w1 bp s i:=xn_;replace Y:=zy Y;replace E:=zy E;replace h1:=zy h1);try go_ret
  rw[Q_.o];refine⟨.nilIface,_,.inl rfl,rfl,Y,?_⟩;rw[a7.o];exact⟨⟨g,a4,rfl,E⟩,i,hi,h1⟩
 case pos=>
  have e3:i+1<=s.size:=zp (s:=s) (i:=i) M_;have a7:=zy (show xY s i=gP s [] (qN s (i+1)) by rw[aG,i_ h40]);replace h40:=zy h40;go_in;go_wp2_with (go_at_call 110;apply D.o.mono;rintro e w1 ⟨v1,rfl,Y,hm⟩;obtain⟨rfl,h1⟩:v1=.nilIface/\PAt w1 bp s (i+1):=xi_;have e5:=Y.size;have start:=zy (⟨i+1,L_,[],⟨E_ h1 _,Y.alloc _,d7,e5,x6_,B_ w1 _ _,World.ownsRow_nil _ _ _ _⟩,e3,x6_,M_,a7⟩:Ba w bp s i w1.heap.size (p:Int) (s.size+1) (w1.alloc (.cells #[I_ p,L_,.pointer none] 236)));clear Y hm h1 D);obtain⟨b0,d2⟩:=e_ w1.heap.size;rw[<- d2]at start⊢;clear d2;go_loopg [] (s.size+1) (λm W=>Ba w bp s i b0 (p:Int) m W);case atStart=>exact start
  case round=>
   clear start a7;obtain⟨j,sv,l,M,hj,Y,hm,f⟩:=hrel;obtain⟨sa,sc,rfl⟩:=zw M.row;have Y:l.length<=300:=M_;have hC:=zy (xE M.here (N.o.fr M.fr (Ne.symm F)) F hs hj);have e6:=M.fr.size;have Y:=M.hB;have Y:=M.w0;rw[gF]at f;obtain⟨ti,d8,d9,e0,e1⟩:=info_parts JW;replace M:=zy M;obtain⟨x,hx⟩:=x_ (bt s j);cases hsm:zl x with
   |false=>
    have a1:=zy (show xY s i=.error j by rw[f,hx,hsm];rfl);replace hsm:=zy (show zl (bt s j)=false by rw[hx];exact hsm);replace hx:=zy hx;clear f;go_wp2_with (first
     |(go_at_call 219;apply hC.o.mono;rintro e w2 ⟨a,b,U,rfl,Z,hm⟩;obtain⟨g,a4,rfl,E,V⟩:∃g,wr.heap.size<=g/\U=.iface 184 (P_ g)/\Blk w2 g [I_ j,.iface et ex] 186/\PAt w2 bp s j:=xj_;replace Z:=zy Z;replace E:=zy E;replace V:=zy V))
    try go_ret
    rw[Q_.o];refine⟨.nilIface,_,.inl rfl,rfl,(M.o.fr.trans Z u_).alloc _,?_⟩;rw[a1.o];exact⟨⟨g,al_ e6 a4,rfl,E.o.alloc _⟩,j,hj,E_ V _⟩
   |true=>
   have O:j+1<=s.size:=zp (xX (by rw[hx];exact hsm));rw[hx,hsm,i_ rfl]at f;replace hsm:=zy (show zl (bt s j)=true by rw[hx];exact hsm);replace hx:=zy hx;replace f:=zy f;go_upto_region 9 with(first
    |(go_at_call 219;apply hC.o.mono;rintro e w2 ⟨a,b,U,rfl,Z,hm⟩;obtain⟨rfl,rfl,rfl,V⟩:a=(j:Int)/\b=(x:Int)/\U=.nilIface/\PAt w2 bp s (j+1):=xf_;have Y:=(M.o.call V Z).alloc (.cells #[I_ j,U_ x] 191);have N1:=B_ w2 #[I_ j,U_ x] 191;have t1:=Y.b.c1;have n0:=N1.c0;have n1:=N1.c1;have e9:=(M.o.call V Z).hB;replace Y:=zy Y;clear V Z N1 hm)
    |(at_builtin;go_must (refine wpList_append_own_at _ rfl _ _ 233 rfl (b0+1) 191 ti _ 2 16 kN d8 d9 e0 e1 rfl D_ (.slice sa l.length sc) l.length (zE l) rfl ?hown _ 1 1 [I_ j,U_ x] rfl rfl (zK _ #[I_ j,U_ x] _ _ ?nn) ?one ?b1 ?b2 ?b3 ?_)
      case hown=>exact World.ownsRow.alloc Y.o.row _
      case nn=>simp
      case one=>simp[Value.oneCell']
      case b1=>unfold maxLen;omega
      case b2=>omega
      case b3=>simp;omega
      intro v5 V b6 b4 e4 d6
      have d:=(Y.o.item ((A_ _ _).alloc _) b4 b6 d6 1).1
      have B5:=Y.o.ie ((A_ _ _).alloc _) b4
      have V:=B5.c1
      have f5:=B5.th 1
      obtain⟨J,I,rfl⟩:=zg b6 M_
      clear b4 d6 e4 b6 B5
      replace d:=zy d))
   replace f:=f.o;obtain⟨y,hy⟩:=x_ (bt s (j+1));rw[hy]at f;by_cases b9:y=44;case pos=>
    subst b9;rw[i_ rfl]at f;replace f:=zy f;have a2:j+1+1<=s.size:=zp (s:=s) (i:=j+1) M_;replace hy:=zy hy;go_wp2_with (first
     |(go_at_call 111;apply(yJ d.o.here hs O hy D_ D_).mono;rintro e S ⟨rfl,v,u⟩;have r:=zy (d.o.call u v);clear v u))
    go_roundg (s.size+1-(j+2));case measure=>omega
    case rel=>
     refine⟨j+2,S_ J (l.length+1) I,l++[(x,j)],?_,a2,by rw[ag_,ao_];omega,l_,f⟩;rw[fQ,ag_,ao_];exact r
   case neg=>
   rw[n_ b9]at f;by_cases b8:y=33;case neg=>
    have a1:=zy (show xY s i=if bt s (j+1)=41 then .ok ((l++[(x,j)],none),j+2) else .error (j+1) by rw[f];unfold oU;rw[hy,n_ b8]);replace hy:=zy hy;clear f;go_wp2_with (first
     |(go_at_call 111;apply(yK d.o.here hs O hy M_ D_).mono;rintro e S ⟨rfl,v,u⟩;have R:=d.o.call u v;clear d;have d:=zy R;clear R v u))
    obtain⟨u0,u1,u2⟩:=d.o.b.f3;simp only[an_,ap_,aa_,ab_]at u0 u1 u2;obtain⟨wd,a6⟩:=e_ ((S).drew);have a3:zq (S) wd:=a6▸zq.drew _;have t:=d.o.call (d.o.here.si a3) ((A_ _ _).si a3);have a9:=zy (yT (c:=41) 41 t.here (N.o.fr t.fr (Ne.symm F)) F hs O rfl D_);replace t:=zy t;refine tr_ 5 (λW=>z_ W b0 0 (I_ p)/\z_ W b0 1 (S_ J (l.length+1) I)/\z_ W b0 2 (.pointer none)) ?_;refine tz_ 0 ?_;refine tz_ 1 ?_;refine tz_ 2 ?_;refine zh 3 rfl K_ (λ_=>⟨u0,u1,u2⟩) (λK hK=>?_);go_simp;rw[<- a6];apply a9.o.mono;rintro e w8 ⟨v8,rfl,G,D⟩;refine hK _ _ ?_;clear hK K;have B:∃j8,j8<=s.size/\AM w bp s j8 b0 [I_ p,(S_ J (l.length+1) I),.pointer none] 236 191 2 (S_ J (l.length+1) I) (l.length+1) (zE l++[I_ j,U_ x]) w8:=by
     rcases D with⟨_,_,C,a5⟩|⟨_,_,C⟩
     .exact⟨_,a5,t.o.call C G⟩
     .exact⟨_,O,t.o.call C G⟩
    obtain⟨j8,e2,B⟩:=B;obtain⟨x0,x1,x2⟩:=B.b.d3;refine t1_ 4 ⟨x0,x1,x2⟩ ?_;refine t1_ 5 ⟨x0,x1,x2⟩ ?_;refine td_ ?_ _;revert G D B;refine h_ λG D B=>?_;clear x0 x1 x2 u0 u1 u2;go_wp2;try go_ret
    rw[Q_.o];refine⟨.iface 236 (.agg #[I_ p,(S_ J (l.length+1) I),.pointer none]),v8,.inr ⟨_,_,rfl⟩,rfl,B.o.fr,?_⟩;have b7:=t.o.fr.size;have e7:=t.o.w0;rw[a1.o];rcases D.o with⟨hb,rfl,C,a5⟩|⟨hb,hF,C⟩
    .rw[i_ hb];exact⟨rfl,C,nV B rfl⟩
    .rw[n_ hb];exact⟨hF.ls b7,_,O,C⟩
   case pos=>
   subst b8;have a2:j+1+1<=s.size:=zp (s:=s) (i:=j+1) M_;have V:(33:Nat)≠44:=D_;obtain⟨q2,H⟩:=e_ (j+1+1);obtain⟨z,hz⟩:=x_ (bt s (q2));cases Q:zl z with
   |false=>
    have a1:=zy (show xY s i=.error q2 by rw[f];unfold oU;rw[hy,i_ rfl,show j+1+1=q2 from H.symm,hz,Q];rfl);rw[<- H]at a2;replace H:=zy H;replace Q:=zy (show zl (bt s (q2))=false by rw[hz];exact Q);replace hy:=zy hy;replace hz:=zy hz;clear f;go_wp2_with (first
     |(go_at_call 111;apply(yJ d.o.here hs O hy D_ D_).mono;rintro e S ⟨rfl,v,u⟩;have r:=d.o.call u v;rw[<- H.o]at r;have a8:=zy (xE r.here (N.o.fr r.fr (Ne.symm F)) F hs a2);replace r:=zy r;clear v u)
     |(go_at_call 111;apply(yK d.o.here hs O hy M_ D_).mono;rintro e S ⟨rfl,v,u⟩;have R:=d.o.call u v;clear d;have d:=zy R;clear R v u)
     |(go_at_call 219;apply a8.o.mono;rintro e A ⟨a,b,U,rfl,a0,hm⟩;obtain⟨g,a4,rfl,E,X⟩:∃g,S.heap.size<=g/\U=.iface 184 (P_ g)/\Blk A g [I_ q2,.iface et ex] 186/\PAt A bp s q2:=(by rcases hm with⟨hq,_⟩|⟨_,⟨g,q1,q2,q3⟩,q4⟩;(exact absurd (Q.o.symm.trans hq) D_);exact⟨g,q1,q2,q3,q4⟩);replace a0:=zy a0;replace E:=zy E;replace X:=zy X))
    try go_ret
    rw[Q_.o];refine⟨.nilIface,_,.inl rfl,rfl,(r.o.fr.trans a0 u_).alloc _,?_⟩;rw[a1.o];have V:=r.o.fr.size;exact⟨⟨g,al_ V a4,rfl,E.o.alloc _⟩,_,a2,E_ X _⟩
   |true=>
    have b5:q2+1<=s.size:=zp (xX (by rw[hz];exact Q));have a1:=zy (show xY s i=if bt s (q2+1)=41 then .ok ((l++[(x,j)],some (z,q2)),q2+1+1) else .error (q2+1) by rw[f];unfold oU;rw[hy,i_ rfl,show j+1+1=q2 from H.symm,hz,Q,i_ rfl,show j+1+2=q2+1 by omega,show j+1+3=q2+1+1 by omega]);rw[<- H]at a2;replace H:=zy H;replace Q:=zy (show zl (bt s (q2))=true by rw[hz];exact Q);replace hy:=zy hy;replace hz:=zy hz;clear f;go_wp2_with (first
     |(go_at_call 111;apply(yJ d.o.here hs O hy D_ D_).mono;rintro e S ⟨rfl,v,u⟩;have r:=d.o.call u v;rw[<- H.o]at r;have a8:=zy (xE r.here (N.o.fr r.fr (Ne.symm F)) F hs a2);replace r:=zy r;clear v u)
     |(go_at_call 111;apply(yK d.o.here hs O hy M_ D_).mono;rintro e S ⟨rfl,v,u⟩;have R:=d.o.call u v;clear d;have d:=zy R;clear R v u)
     |(go_at_call 219;apply a8.o.mono;rintro e A ⟨a,b,U,rfl,a0,hm⟩;obtain⟨rfl,rfl,rfl,X⟩:a=(q2:Int)/\b=(z:Int)/\U=.nilIface/\PAt A bp s (q2+1):=(by rcases hm with⟨_,q1,q2,q3,q4,_⟩|⟨hq,_⟩;(exact⟨q1,q2.trans (by rw[hz.o]),q3,q4⟩);exact absurd (Q.o.symm.trans hq) D_);have d:=(r.o.call X a0).alloc (.cells #[I_ q2,U_ z] 191);have f:=B_ A #[I_ q2,U_ z] 191;have u:=d.b.cell 2;have v:=d.b.th 2;simp only[an_,ap_,aa_,ab_]at u;have u:=(r.o.call X a0).hB;have M8:=d.put 2 (P_ A.heap.size);have N8:=zy (T_ f (a:=⟨b0,2,none⟩) (P_ A.heap.size) (by show ¬(A.heap.size=b0);omega));replace M8:=zy M8;clear X a0 f hm d))
    obtain⟨u0,u1,u2⟩:=M8.o.b.f3;simp only[an_,ap_,aa_,ab_]at u0 u1 u2;obtain⟨wd,a6⟩:=e_ (((A.alloc (.cells #[I_ q2,U_ z] 191)).setCell ⟨b0,2,none⟩ (P_ A.heap.size)).drew);have a3:zq ((A.alloc (.cells #[I_ q2,U_ z] 191)).setCell ⟨b0,2,none⟩ (P_ A.heap.size)) wd:=a6▸zq.drew _;have t:=M8.o.call (M8.o.here.si a3) ((A_ _ _).si a3);have a9:=zy (yT (c:=41) 41 t.here (N.o.fr t.fr (Ne.symm F)) F hs b5 rfl D_);replace t:=zy t;refine tr_ 5 (λW=>z_ W b0 0 (I_ p)/\z_ W b0 1 (S_ J (l.length+1) I)/\z_ W b0 2 (P_ A.heap.size)) ?_;refine tz_ 0 ?_;refine tz_ 1 ?_;refine tz_ 2 ?_;refine zh 3 rfl K_ (λ_=>⟨u0,u1,u2⟩) (λK hK=>?_);go_simp;rw[<- a6];apply a9.o.mono;rintro e w8 ⟨v8,rfl,G,D⟩;refine hK _ _ ?_;clear hK K;have B:∃j8,j8<=s.size/\AM w bp s j8 b0 [I_ p,(S_ J (l.length+1) I),P_ A.heap.size] 236 191 2 (S_ J (l.length+1) I) (l.length+1) (zE l++[I_ j,U_ x]) w8:=by
     rcases D with⟨_,_,C,a5⟩|⟨_,_,C⟩
     .exact⟨_,a5,t.o.call C G⟩
     .exact⟨_,b5,t.o.call C G⟩
    obtain⟨j8,e2,B⟩:=B;obtain⟨x0,x1,x2⟩:=B.b.d3;refine t1_ 4 ⟨x0,x1,x2⟩ ?_;refine t1_ 5 ⟨x0,x1,x2⟩ ?_;refine td_ ?_ _;revert G D B;refine h_ λG D B=>?_;clear x0 x1 x2 u0 u1 u2;go_wp2;try go_ret
    rw[Q_.o];refine⟨.iface 236 (.agg #[I_ p,(S_ J (l.length+1) I),P_ A.heap.size]),v8,.inr ⟨_,_,rfl⟩,rfl,B.o.fr,?_⟩;have b7:=t.o.fr.size;have e7:=t.o.w0;rw[a1.o];rcases D.o with⟨hb,rfl,C,a5⟩|⟨hb,hF,C⟩
    .rw[i_ hb];have hN:Blk w8 A.heap.size [I_ q2,U_ z] 191:=G.o.bl (((A_ _ N_).si a3).bl N8 id) (o1_ M.o.lt);exact⟨rfl,C,nV B ⟨A.heap.size,M_,rfl,hN⟩⟩
    .rw[n_ hb];exact⟨hF.ls b7,_,b5,C⟩
def sj(w:Aw)(bp:Nat)(s:BA)(i:Nat)(et:Av)(ex:Ax)(e:Ak)(w':Aw):Prop:=
 ∃v ev,IfV v/\e=.returned (.tuple #[v,ev])/\Fr w w' (· = bp)/\
 match yG s i with
 | .ok (b,j)=>ev=.nilIface/\PAt w' bp s j/\yV w' (λg=>w.heap.size<=g) s b v
 | .error k=>zO w' w.heap.size ev (k:Int) (.iface et ex)/\∃j,j<=s.size/\PAt w' bp s j
def tF{w:Aw}{bp:Nat}{s:BA}(h:PAt w bp s i)(B:pW w et ex)(D:bp≠0)(hs:s.size<=300)(hi:i<=s.size):Calls prog 109 #[P_ bp] w (sj w bp s i et ex):=by
 obtain⟨K,E⟩:=y_ (sj w bp s i et ex);rw[<- E.o];have K:=h.lt;have a:=zy (And.intro h (A_ w (λx=>x=bp)));replace B:=zy B;by_cases u:bt s i=114
 .have C:i+1<=s.size:=zp (s:=s) (i:=i) M_;have hp:=zy (tU u);have hx:=zy u;go_in;go_wp2_with (first
   |(go_at_call 108;refine(yr a.o.1).mono ?_;rintro e w' ⟨rfl,z⟩;rw[z])
   |(go_at_call 111;refine(yJ a.o.1 hs hi hx D_ D_).mono ?_;rintro e w' ⟨rfl,c,b⟩;have f:=zy (And.intro b (a.o.2.trans c u_)))
   |(go_at_call 165;refine(aw (p:=i) f.o.1 (B.o.fr f.o.2 (Ne.symm D)) D hs C).mono ?_;rintro e J ⟨v,F,m,rfl,q,hm⟩;replace q:=zy q;replace hm:=zy hm;replace m:=zy m))
  try go_ret
  rw[E.o];have t:=f.o.2.size;refine⟨v,F,m,rfl,f.o.2.trans q u_,?_⟩;rw[hp.o];have d:=hm.o;cases y:yf s (i+1) with
  |error k=>rw[y]at d;exact⟨d.1.ls t,d.2⟩
  |ok r=>
   obtain⟨fs,j⟩:=r;rw[y]at d;exact⟨d.1,d.2.1,(d.2.2 ⟨j,by rw[hp.o,y]⟩).mono (λg _ hg=>al_ t hg)⟩
 .by_cases A:bt s i=101
  .have C:i+1<=s.size:=zp (s:=s) (i:=i) M_;have hp:=zy (lG A);have hx:=zy A;go_in;go_wp2_with (first
    |(go_at_call 108;refine(yr a.o.1).mono ?_;rintro e w' ⟨rfl,z⟩;rw[z])
    |(go_at_call 111;refine(yJ a.o.1 hs hi hx D_ D_).mono ?_;rintro e w' ⟨rfl,c,b⟩;have f:=zy (And.intro b (a.o.2.trans c u_)))
    |(go_at_call 111;refine(yK a.o.1 hs hi hx D_ D_).mono ?_;rintro e w' ⟨rfl,c,b⟩;replace a:=zy (And.intro b (a.o.2.trans c u_)))
    |(go_at_call 166;refine(VM (p:=i) f.o.1 (B.o.fr f.o.2 (Ne.symm D)) D hs C).mono ?_;rintro e J ⟨v,F,m,rfl,q,hm⟩;replace q:=zy q;replace hm:=zy hm;replace m:=zy m))
   try go_ret
   rw[E.o];have t:=f.o.2.size;refine⟨v,F,m,rfl,f.o.2.trans q u_,?_⟩;rw[hp.o];have d:=hm.o;cases y:xY s (i+1) with
   |error k=>rw[y]at d;exact⟨d.1.ls t,d.2⟩
   |ok r=>
    obtain⟨⟨l,o⟩,j⟩:=r;rw[y]at d;exact⟨d.1,d.2.1,(d.2.2 ⟨j,by rw[hp.o,y]⟩).mono (λg _ hg=>al_ t hg)⟩
  .by_cases G:bt s i=102
   .have C:i+1<=s.size:=zp (s:=s) (i:=i) M_;have hp:=zy (wO G);have hx:=zy G;go_in;go_wp2_with (first
     |(go_at_call 108;refine(yr a.o.1).mono ?_;rintro e w' ⟨rfl,z⟩;rw[z])
     |(go_at_call 111;refine(yJ a.o.1 hs hi hx D_ D_).mono ?_;rintro e w' ⟨rfl,c,b⟩;have f:=zy (And.intro b (a.o.2.trans c u_)))
     |(go_at_call 111;refine(yK a.o.1 hs hi hx D_ D_).mono ?_;rintro e w' ⟨rfl,c,b⟩;replace a:=zy (And.intro b (a.o.2.trans c u_)))
     |(go_at_call 167;refine(ZP (p:=(i:Int)) f.o.1 (B.o.fr f.o.2 (Ne.symm D)) hs C).mono ?_;rintro e J ⟨v,F,m,rfl,q,hm⟩;replace q:=zy q;replace hm:=zy hm;replace m:=zy m))
    try go_ret
    rw[E.o];have t:=f.o.2.size;refine⟨v,F,m,rfl,f.o.2.trans q u_,?_⟩;rw[hp.o];rcases hm.o with⟨H,I,rfl,rfl,q3,_⟩|⟨H,I,q3⟩
    .rw[i_ ⟨H,I⟩];exact⟨rfl,q3,.bytes i _ ⟨_,by rw[hp.o,i_ ⟨H,I⟩]⟩⟩
    .rw[n_ H];exact⟨I.ls t,_,C,q3⟩
   .have hp:=zy (tM u A G);obtain⟨x,hx⟩:=x_ (bt s i);rw[hx]at u A G;replace hx:=zy hx;go_in;go_wp2_with (first
     |(go_at_call 108;refine(yr a.o.1).mono ?_;rintro e w' ⟨rfl,z⟩;rw[z])
     |(go_at_call 111;refine(yK a.o.1 hs hi hx M_ D_).mono ?_;rintro e w' ⟨rfl,c,b⟩;replace a:=zy (And.intro b (a.o.2.trans c u_)))
     |(go_at_call 70;refine(vy a.o.1 (B.o.fr a.o.2 (Ne.symm D))).mono ?_;rintro e b ⟨v,rfl,I,H⟩;replace I:=zy I;replace H:=zy H))
    try go_ret
    rw[E.o];have t:=a.o.2.size;refine⟨.nilIface,v,.inl rfl,rfl,a.o.2.trans H v_,?_⟩;rw[hp.o];exact⟨I.o.ls t,i,hi,H.o.bl a.o.1 id⟩
def atD(s:BA)(i:Nat):Bool:=zY (bt s i)&&decide (i+1<s.size)&&decide (bt s (i+1)=61)
def jW{w:Aw}{bp:Nat}{s:BA}(h:PAt w bp s i)(hs:s.size<=300)(hi:i<=s.size):Calls prog 67 #[P_ bp] w λe w'=>e=.returned (.bool (atD s i))/\zq w w':=by
 have c0:=h.c0;have c1:=h.c1;obtain⟨x,hx⟩:=x_ (bt s i);have c:H_ (∀q,Calls prog 107 #[P_ bp] (w.drewN q) λe w'=>e=.returned (U_ x)/\∃m,w'=(w.drewN q).drewN m):=zy (λq=>by rw[<- hx];exact yb (h.si (zq.drewN w q)) hs hi);have d:H_ (∀(q:Nat) (b:Bool),zY x=b->Calls prog 106 #[U_ x] (w.drewN q) λe w'=>e=.returned (.bool b)/\w'=w.drewN q):=zy (λq b hb=>by rw[<- hb];exact wD x _);unfold atD;rw[hx];clear h hx;cases hn:zY x with
 |false=>
  replace hn:=zy hn;go_in;go_wp2;go_quiet (first|(go_at_call 107;exact Calls.quiet_of (c.o _))|(go_at_call 106;exact Calls.quiet_of_same (d.o _ _ hn)));go_wp2;try go_ret
  exact⟨rfl,zq.drewN _ _⟩
 |true=>
  replace hn:=zy hn;by_cases h1:i+1<s.size
  .obtain⟨k,hk⟩:=e_ (i+1);have g:IntKind.i64.wrap ((i:Int)+1)=(k:Int):=y0_
   rw[<- hk]at h1;rw[<- hk];have a:(k:Int)<(s.size:Int):=M_;have f:decide ((k:Int)<(s.size:Int))=true:=decide_eq_true a;have hb:(((s[k]'h1).toNat:Int)==61)=decide (bt s k=61):=by
    rw[xO s k h1];by_cases e:(s[k]'h1).toNat=61
    .rw[e];rfl
    .rw[decide_eq_false e,beq_eq_false_iff_ne];omega
   have hd:decide (k<s.size)=true:=decide_eq_true h1;clear hk;rw[hd,Bool.true_and,Bool.true_and,<- hb];clear hd hb;go_in;go_wp2;go_quiet (first|(go_at_call 107;exact Calls.quiet_of (c.o _))|(go_at_call 106;exact Calls.quiet_of_same (d.o _ _ hn)));go_wp2;try go_ret
   exact⟨rfl,zq.drewN _ _⟩
  .have a:¬((i:Int)+1<(s.size:Int)):=M_;have g:IntKind.i64.wrap ((i:Int)+1)=(i:Int)+1:=y0_
   have f:decide ((i:Int)+1<(s.size:Int))=false:=decide_eq_false a;have hd:decide (i+1<s.size)=false:=decide_eq_false h1;rw[hd,Bool.and_false,Bool.false_and];clear hd;go_in;go_wp2;go_quiet (first|(go_at_call 107;exact Calls.quiet_of (c.o _))|(go_at_call 106;exact Calls.quiet_of_same (d.o _ _ hn)));go_wp2;try go_ret
   exact⟨rfl,zq.drewN _ _⟩
def Fr.three(w:Aw)(b:Nat)(a c d:Ax):Fr w (((w.setCell ⟨b,0,none⟩ a).setCell ⟨b,1,none⟩ c).setCell ⟨b,2,none⟩ d) (λg=>g=b):=
 (((A_ w (λg=>g=b)).setCell ⟨b,0,none⟩ a (λ_=>rfl)).setCell ⟨b,1,none⟩ c (λ_=>rfl)).setCell ⟨b,2,none⟩ d (λ_=>rfl)
def Blk.three{w:Aw}{b t:Nat}{u0 a u2:Ax}(h:Blk w b [u0,a,u2] t)(a c d:Ax):Blk (((w.setCell ⟨b,0,none⟩ a).setCell ⟨b,1,none⟩ c).setCell ⟨b,2,none⟩ d) b [a,c,d] t:=
 ((h.set 0 a).set 1 c).set 2 d
def yV.iface{w:Aw}{P:Az}{s:BA}{b:PB}{v:Ax}(h:yV w P s b v):∃T x,v=.iface T x:=by
 cases h<;>exact⟨_,_,rfl⟩
def PAt.two{w:Aw}{bp:Nat}{s:BA}(h:PAt w bp s i):PAt (w.setCell ⟨bp,1,none⟩ (Z_ ((i:Int)+2))) bp s (i+2):=G_ h 1 _
def Vp(w:Aw)(bp:Nat)(s:BA)(i:Nat)(et:Av)(ex:Ax)(e:Ak)(w':Aw):Prop:=
 ∃(a b:Int) (c ev:Value),e=.returned (.tuple #[.agg #[Z_ a,.int .u8 b,c],ev])/\IfV c/\Fr w w' (· = bp)/\
 match yG s (i+2) with
 | .ok (pb,j)=>if bt s j=59 then ev=.nilIface/\PAt w' bp s (j+1)/\j<s.size/\a=(i:Int)/\b=(bt s i:Int)/\yV w' (λg=>w.heap.size<=g) s pb c else zO w' w.heap.size ev (j:Int) (.iface et ex)/\∃j,j<=s.size/\PAt w' bp s j
 | .error k=>zO w' w.heap.size ev (k:Int) (.iface et ex)/\∃j,j<=s.size/\PAt w' bp s j
def lY{w:Aw}{bp:Nat}{s:BA}(h:PAt w bp s i)(hG:pW w et ex)(H:bp≠0)(hs:s.size<=300)(hi:i+2<=s.size)(a2:∀pb j,yG s (i+2)=.ok (pb,j)->j<=s.size):Calls prog 68 #[P_ bp] w (Vp w bp s i et ex):=by
 obtain⟨b5,Q_⟩:=y_ (Vp w bp s i et ex);rw[<- Q_.o];have b6:=h.lt;have h0:=zy (show PAt (w.alloc (.cells #[O_,.int .u8 0,.nilIface] 178)) bp s i from E_ h _);have F0:=zy (show Fr w (w.alloc (.cells #[O_,.int .u8 0,.nilIface] 178)) (λx=>x=bp) from(A_ w _).alloc _);have B0:=zy (B_ w #[O_,.int .u8 0,.nilIface] 178);have a6:=zy (by simp:(w.alloc (.cells #[O_,.int .u8 0,.nilIface] 178)).heap.size=w.heap.size+1);have a0:=zy hG;have a5:i<=s.size:=M_;clear h hG;obtain⟨x,hx⟩:=x_ (bt s i);replace hx:=zy hx;cases hp:yG s (i+2) with
 |error k=>
  replace hp:=zy hp;clear a2;go_in;go_wp2_with (first
   |(go_at_call 108;apply(yr h0).mono;rintro e w' ⟨rfl,O⟩;rw[O];clear O)
   |(go_at_call 107;apply(yb h0 hs a5).mono;rintro e w1 ⟨rfl,C⟩;rw[hx.o];have h1:=h0.o.si C;have z:=(A_ (w.alloc (.cells #[O_,.int .u8 0,.nilIface] 178)) (λg=>g=bp)).si C;have P1:=E_ h1 (.cells #[I_ i,U_ x,.nilIface] 178);have c1:=PAt.c1 P1;have f1:=PAt.th P1 1;have a3:=z.size;rw[a6.o]at a3;have u:=z.alloc (.cells #[I_ i,U_ x,.nilIface] 178);have l:Fr (w1.alloc (.cells #[I_ i,U_ x,.nilIface] 178)) ((w1.alloc (.cells #[I_ i,U_ x,.nilIface] 178)).setCell ⟨bp,1,none⟩ (Z_ ((i:Int)+2))) (λg=>g=bp):=(A_ _ (λg=>g=bp)).setCell ⟨bp,1,none⟩ _ (λ_=>rfl);have B:=l.bl (u.bl B0 M_) M_;have D:=l.bl (B_ w1 #[I_ i,U_ x,.nilIface] 178) M_;have P2:=PAt.two P1;have f:=(F0.o.trans u u_).trans l u_;have A:=a0.o.fr f (Ne.symm H);have R:=zy (x6_:((w1.alloc (.cells #[I_ i,U_ x,.nilIface] 178)).setCell ⟨bp,1,none⟩ (Z_ ((i:Int)+2))).heap.size=w1.heap.size+1);revert B D P2 f A;refine k_ λB D P2 f A=>?_;clear h1 z u l C;replace P1:=zy P1)
   |(go_at_call 109;apply(tF P2 A H hs hi).mono;rintro e I ⟨v,ev,hI,rfl,b,hm⟩;rw[hp.o]at hm;obtain⟨⟨g,b7,rfl,a1⟩,j3,a8,F⟩:=hm;have m:=b.bl B M_;obtain⟨r0,r1,r2⟩:=m.d3;obtain⟨g0,g1,g2⟩:=m.t3;replace m:=zy m;replace b:=zy b;replace a1:=zy a1;replace F:=zy F;clear hI))
  have S2:=Blk.three m (O_) (.int .u8 0) .nilIface;obtain⟨q0,q1,q2⟩:=S2.d3;refine bodyPost_ret (v:=.tuple #[.agg #[O_,.int .u8 0,.nilIface],.iface 184 (P_ g)]) z0_ rfl ?_;rw[Q_.o];have a:=Fr.three I w.heap.size (O_) (.int .u8 0) .nilIface;have hz:=R.o;refine⟨0,0,.nilIface,_,rfl,.inl rfl,(f.o.trans b u_).trans a (λy hy e=>M_),?_⟩;rw[hp.o];exact⟨⟨g,M_,rfl,a.bl a1 M_⟩,j3,a8,a.bl F M_⟩
 |ok r=>
  obtain⟨pb,j⟩:=r;have hj:j<=s.size:=a2 pb j hp;clear a2;replace hp:=zy hp;go_in;go_wp2_with (first
   |(go_at_call 108;apply(yr h0).mono;rintro e w' ⟨rfl,O⟩;rw[O];clear O)
   |(go_at_call 107;apply(yb h0 hs a5).mono;rintro e w1 ⟨rfl,C⟩;rw[hx.o];have h1:=h0.o.si C;have z:=(A_ (w.alloc (.cells #[O_,.int .u8 0,.nilIface] 178)) (λg=>g=bp)).si C;have P1:=E_ h1 (.cells #[I_ i,U_ x,.nilIface] 178);have c1:=PAt.c1 P1;have f1:=PAt.th P1 1;have a3:=z.size;rw[a6.o]at a3;have u:=z.alloc (.cells #[I_ i,U_ x,.nilIface] 178);have l:Fr (w1.alloc (.cells #[I_ i,U_ x,.nilIface] 178)) ((w1.alloc (.cells #[I_ i,U_ x,.nilIface] 178)).setCell ⟨bp,1,none⟩ (Z_ ((i:Int)+2))) (λg=>g=bp):=(A_ _ (λg=>g=bp)).setCell ⟨bp,1,none⟩ _ (λ_=>rfl);have B:=l.bl (u.bl B0 M_) M_;have D:=l.bl (B_ w1 #[I_ i,U_ x,.nilIface] 178) M_;have P2:=PAt.two P1;have f:=(F0.o.trans u u_).trans l u_;have A:=a0.o.fr f (Ne.symm H);have R:=zy (x6_:((w1.alloc (.cells #[I_ i,U_ x,.nilIface] 178)).setCell ⟨bp,1,none⟩ (Z_ ((i:Int)+2))).heap.size=w1.heap.size+1);revert B D P2 f A;refine k_ λB D P2 f A=>?_;clear h1 z u l C;replace P1:=zy P1)
   |(go_at_call 109;apply(tF P2 A H hs hi).mono;rintro e I ⟨v,ev,hI,rfl,b,hm⟩;rw[hp.o]at hm;obtain⟨rfl,F,hv⟩:=hm;obtain⟨q,t,rfl⟩:=hv.iface;have b4:=b.size;rw[R.o]at b4;have m:=b.bl B M_;have S:=b.bl D M_;have k2:=S.c2;have kg:=S.th 2;have N:Fr I (I.setCell ⟨w1.heap.size,2,none⟩ (.iface q t)) (λg=>g=w1.heap.size):=(A_ I (λg=>g=w1.heap.size)).setCell ⟨w1.heap.size,2,none⟩ _ (λ_=>rfl);have J:=S.set 2 (.iface q t);have M:=N.bl m M_;have V:=N.bl F M_;have X:=(hv.mono (Q:=λg=>w1.heap.size<g) (λg _ hg=>by have:=R.o;omega)).fr N (λg hg e=>M_);have E:=(f.o.trans b u_).trans N (λy hy e=>M_);have G4:=zy (a0.o.fr E (Ne.symm H));replace J:=zy J;replace M:=zy M;replace V:=zy (show PAt _ bp s j from V);replace X:=zy X;replace E:=zy E;clear hI b F hv m S N))
  obtain⟨u0,Y,u2⟩:=J.o.f3;simp only[an_,ap_,aa_,ab_]at u0 Y u2;obtain⟨d,a4⟩:=e_ (I.setCell ⟨w1.heap.size,2,none⟩ (.iface q t));rw[<- a4]at u0 Y u2⊢;rw[<- a4]at J M V X E G4;clear a4 k2 kg;have hC:=zy (yT (c:=59) 59 (V.o.si (zq.drew d)) (G4.o.fr ((A_ d N_).si (zq.drew d)) id) H hs hj rfl D_);have b9:=E.o.size;have b8:=M.o.lt;refine tr_ 4 (λW=>z_ W w1.heap.size 0 (I_ i)/\z_ W w1.heap.size 1 (U_ x)/\z_ W w1.heap.size 2 (.iface q t)) ?_;refine tz_ 0 ?_;refine tz_ 1 ?_;refine zh 2 rfl K_ (λ_=>⟨u0,Y,u2⟩) (λK hK=>?_);go_simp;apply hC.o.mono;rintro e w8 ⟨v8,rfl,a7,hE⟩;refine hK _ _ ?_;clear hK K;have G:Fr d w8 (λg=>g=bp):=((A_ d _).si (zq.drew d)).trans a7 u_;have U:=G.bl J M_;have R8:=G.bl M M_;obtain⟨x0,x1,x2⟩:=U.f3;obtain⟨r0,r1,r2⟩:=R8.f3;obtain⟨g0,g1,g2⟩:=R8.t3;simp only[an_,ap_,aa_,ab_]at x0 x1 x2 r0 r1 r2;have a:=Fr.three w8 w.heap.size (I_ i) (U_ x) (.iface q t);have Z:=a.bl U M_;obtain⟨z0,z1,z2⟩:=Z.f3;simp only[an_,ap_,aa_,ab_]at z0 z1 z2;revert hE G U a Z;refine k_ λhE G U a Z=>?_;refine t1_ 3 ⟨x0,x1,x2⟩ ?_;refine t1_ 4 ⟨z0,z1,z2⟩ ?_;refine td_ ?_ _;have S2:=Blk.three R8 (I_ i) (U_ x) (.iface q t);obtain⟨q0,q1,q2⟩:=S2.d3;clear x0 x1 x2 u0 Y u2 z0 z1 z2 r0 r1 r2 g0 g1 g2;go_wp2;refine bodyPost_ret (v:=.tuple #[.agg #[I_ i,U_ x,.iface q t],v8]) z0_ rfl ?_;rw[Q_.o];refine⟨(i:Int),(x:Int),.iface q t,v8,rfl,.inr ⟨_,_,rfl⟩,(E.o.trans G u_).trans a (λy hy e=>M_),?_⟩;rw[hp.o];have hz:=R.o;show(if bt s j=59 then _ else _);rcases hE.o with⟨hb,rfl,h8,a9⟩|⟨hb,hF,h8⟩
  .rw[i_ hb];exact⟨rfl,a.o.bl h8 M_,a9,rfl,by rw[hx.o],((X.o.fr G (λg hg e=>M_)).fr a (λg hg e=>M_)).mono (λg _ hg=>M_)⟩
  .rw[n_ hb];exact⟨(hF.fr a (λg hg e=>by have:d.drew.heap.size=d.heap.size:=rfl;omega)).ls (by have:d.drew.heap.size=d.heap.size:=rfl;omega),j,hj,a.o.bl h8 M_⟩
end Go.Proofs.YtokgeopihcopeaaGreatDoor
