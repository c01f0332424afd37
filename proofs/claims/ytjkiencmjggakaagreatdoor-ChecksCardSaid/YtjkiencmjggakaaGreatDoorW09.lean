import Derived.Test.YtjkiencmjggakaaGreatDoorW08
set_option maxHeartbeats 16000000
set_option maxRecDepth 100000
set_option linter.defProp false
set_option linter.unusedSimpArgs false
open Go.Proofs.Tryz
namespace Go.Proofs.YtjkiencmjggakaaGreatDoor
open Go.RowKit
variable {P Q S:Nat->Prop}{i:Nat}{d ex a b c:Value}{et:TypeId}{w':World}{o:Option (Nat×Nat)}{f:PF}{fs:List PF}
def QU(w:World)(bp:Nat)(s:BA)(i p:Nat)(et:TypeId)(ex:Value)(e:Ending)(w':World):Prop:=
 ∃v ev,IfV v/\e=.returned (.tuple #[v,ev])/\Fr w w' (· = bp)/\
 match pA s i with
 | .ok (ts,j)=>if bt s j=41 then ev=.nilIface/\PAt w' bp s (j+1)/\TyV w' (λg=>w.heap.size<=g) (.alts p ts) v else zT w' w.heap.size ev (j:Int) (.iface et ex)/\∃j,j<=s.size/\PAt w' bp s j
 | .error k=>zT w' w.heap.size ev (k:Int) (.iface et ex)/\∃j,j<=s.size/\PAt w' bp s j
def By(w:World)(bp:Nat)(s:BA)(i:Nat)(p:Int)(m:Nat)(W:World):Prop:=
 ∃j sv ds X,UM w bp s j p sv ds X W/\j<=s.size/\i+ds.length<=j/\s.size+1-j<=m/\pA s i=pz ds (pA s j)
def VV{w:World}{bp:Nat}{s:BA}{p:Int}(h:PAt w bp s i):UM w bp s i p (L_) [] (λ_=>.nilIface) (w.alloc (.cells #[z_ p,L_] 210)):=
 ⟨h.alloc _,(A_ w _).alloc _,h.lt,by simp,B_ w _ _,World.ownsRow_nil _ _ _ _,λi t h=>by simp at h⟩
def af{w:World}{bp:Nat}{s:BA}{p:Nat}(l:∀j,i<=j->j<=s.size->vw s j)(h:PAt w bp s i)(H:gI w et ex)(V:bp≠0)(hs:s.size<=300)(hi:i<=s.size):Calls prog 102 #[P_ bp,I_ p] w (QU w bp s i p et ex):=by
 obtain⟨q,Q_⟩:=y_ (QU w bp s i p et ex);rw[<- Q_.o];have start:=zy (show By w bp s i (p:Int) (s.size+1) (w.alloc (.cells #[I_ p,L_] 210)) from⟨i,_,[],_,VV h,hi,by simp,M_,(rH _).symm⟩);replace H:=zy H;replace l:=zy l;go_in;go_wp2;go_loopg [] (s.size+1) (λm W=>By w bp s i (p:Int) m W);case atStart=>exact start
 case round=>
  obtain⟨j,sv,ds,X,M,u,q,hm,q⟩:=hrel;obtain⟨Y,Z,rfl⟩:=zl M.row;have z:ds.length<=300:=M_;have hC:=zy (l.o j M_ u wr bp et ex M.here (H.o.fr M.fr (Ne.symm V)) V);have B:=M.fr.size;have l:=M.hB;have l:=xx (s:=s) u;rw[tg s j u]at q;cases hp:pT s j with
  |error k=>
   rw[hp]at q;replace q:=zy q;replace hp:=zy hp;replace M:=zy M;go_wp2_with (go_at_call 67;apply hC.o.mono;rintro e w1 ⟨v,ev,_,rfl,hf,hm⟩;rw[hp.o]at hm;obtain⟨⟨g,z,rfl,u⟩,C,A,h1⟩:=hm;replace hf:=zy hf;replace h1:=zy h1;replace u:=zy u);try go_ret
   rw[Q_.o];refine⟨.nilIface,_,.inl rfl,rfl,M.o.fr.trans hf u_,?_⟩;rw[q.o];exact⟨⟨g,ak_ B z,rfl,u⟩,C,A,h1⟩
  |ok r=>
   obtain⟨t,u⟩:=r;have J:=l.1 t u hp;rw[hp]at q;simp only at q;obtain⟨ti,a2,a3,a4,a5⟩:=info_parts PV;replace hp:=zy hp;replace M:=zy M;by_cases D:bt s u=44
   .rw[i_ D,bO]at q;replace q:=zy q;have a7:u<s.size:=zc M_;replace D:=zy D;go_wp2_with (first
     |(go_at_call 67;apply hC.o.mono;rintro e w1 ⟨v,ev,_,rfl,hf,hm⟩;rw[hp.o]at hm;obtain⟨rfl,h1,hv⟩:=hm;obtain⟨E,F,rfl⟩:∃T x,v=.iface T x:=(by cases hv<;>exact⟨_,_,rfl⟩);have l:=M.o.call h1 hf;have a1:=zy (hv.mono (Q:=λg=>w.heap.size+1<=g/\(Value.slice Y ds.length Z).ownBlock≠some g) (λg _ hg=>⟨M_,λe=>by have:=M.o.row.lt g e;omega⟩));have t1:=l.b.c1;have a6:=l.hB;replace l:=zy l)
     |(at_builtin;go_must (refine wpList_append_own_at _ rfl _ _ 208 rfl (w.heap.size+1) 53 ti _ 1 16 WN a2 a3 a4 a5 rfl D_ (.slice Y ds.length Z) ds.length ((List.range ds.length).map X) rfl ?hown _ 1 1 [.iface E F] rfl rfl (zN _ #[.iface E F] _ _ ?nn) ?one ?b1 ?b2 ?b3 ?_)
       case hown=>exact World.ownsRow.alloc l.o.row _
       case nn=>simp
       case one=>simp[Value.oneCell']
       case b1=>unfold maxLen;omega
       case b2=>omega
       case b3=>simp;omega
       intro v5 w5 B A a0 N
       have z:=l.o.item A B N a1
       obtain⟨e5,f5⟩:=l.o.ie A
       obtain⟨U,R,rfl⟩:=zm B M_
       replace z:=zy z)
     |(go_at_call 100;apply(yl z.o.here hs J.2 D D_ D_).mono;rintro e O ⟨rfl,I,G⟩;have C:=zy (z.o.call G I)))
    go_roundg (s.size+1-(u+1));case measure=>omega
    case rel=>exact⟨u+1,_,ds++[t],_,C,a7,by rw[ai_,av_];omega,l_,q⟩
   .rw[n_ D]at q;obtain⟨y,hy⟩:=x_ (bt s u);rw[hy]at D;replace hy:=zy hy;replace q:=zy q;go_wp2_with (first
     |(go_at_call 67;apply hC.o.mono;rintro e w1 ⟨v,ev,_,rfl,hf,hm⟩;rw[hp.o]at hm;obtain⟨rfl,h1,hv⟩:=hm;obtain⟨E,F,rfl⟩:∃T x,v=.iface T x:=(by cases hv<;>exact⟨_,_,rfl⟩);have l:=M.o.call h1 hf;have a1:=zy (hv.mono (Q:=λg=>w.heap.size+1<=g/\(Value.slice Y ds.length Z).ownBlock≠some g) (λg _ hg=>⟨M_,λe=>by have:=M.o.row.lt g e;omega⟩));have t1:=l.b.c1;have a6:=l.hB;replace l:=zy l)
     |(at_builtin;go_must (refine wpList_append_own_at _ rfl _ _ 208 rfl (w.heap.size+1) 53 ti _ 1 16 WN a2 a3 a4 a5 rfl D_ (.slice Y ds.length Z) ds.length ((List.range ds.length).map X) rfl ?hown _ 1 1 [.iface E F] rfl rfl (zN _ #[.iface E F] _ _ ?nn) ?one ?b1 ?b2 ?b3 ?_)
       case hown=>exact World.ownsRow.alloc l.o.row _
       case nn=>simp
       case one=>simp[Value.oneCell']
       case b1=>unfold maxLen;omega
       case b2=>omega
       case b3=>simp;omega
       intro v5 w5 B A a0 N
       have z:=l.o.item A B N a1
       obtain⟨e5,f5⟩:=l.o.ie A
       obtain⟨U,R,rfl⟩:=zm B M_
       replace z:=zy z)
     |(go_at_call 100;apply(yr z.o.here hs J.2 hy M_ D_).mono;rintro e O ⟨rfl,I,G⟩;have C:=zy (z.o.call G I)))
    have u0:=C.o.b.c0;have G:=C.o.b.c1;have l:zq O O.drew:=zq.drew O;have z:=C.o.call (C.o.here.si l) ((A_ O _).si l);have A:=zy (yJ (c:=41) 41 z.here (H.o.fr z.fr (Ne.symm V)) V hs J.2 rfl D_);replace z:=zy z;refine tr_ 5 (λW=>f_ W w.heap.size 0 (I_ p)/\f_ W w.heap.size 1 (S_ U (ds.length+1) R)) ?_;refine tz_ 0 ?_;refine tz_ 1 ?_;refine tz_ 2 ?_;refine zw 3 rfl K_ (λ_=>⟨u0,G⟩) (λK l=>?_);go_simp;apply A.o.mono;rintro e A ⟨H,rfl,C,B⟩;refine l _ _ ?_;have l:∃D,D<=s.size/\UM w bp s D (p:Int) (S_ U (ds.length+1) R) (ds++[t]) (λi=>if i<ds.length then X i else .iface E F) A:=by
     rcases B with⟨_,_,A,F⟩|⟨_,_,A⟩
     .exact⟨u+1,F,z.o.call A C⟩
     .exact⟨u,J.2,z.o.call A C⟩
    obtain⟨D,D,l⟩:=l;have D:=l.b.c0;have E:=l.b.c1;refine t1_ 4 ⟨D,E⟩ ?_;refine t1_ 5 ⟨D,E⟩ ?_;refine td_ ?_ _;revert C B l;refine h_ λC B l=>?_;go_wp2;try go_ret
    rw[Q_.o];refine⟨.iface 210 (.agg #[I_ p,(S_ U (ds.length+1) R)]),H,.inr ⟨_,_,rfl⟩,rfl,l.o.fr,?_⟩;rw[q.o];show(if bt s u=41 then _ else _);have C:=z.o.fr.size;rcases B.o with⟨hb,rfl,A,F⟩|⟨hb,q,A⟩
    .rw[i_ hb];exact⟨rfl,A,l.o.alts p rfl⟩
    .rw[n_ hb];exact⟨q.ls C,u,J.2,A⟩
def KY{s:BA}(hs:s.size<=300)(hi:i<=s.size)(hx:bt s i=40)(z:∀j,i<j->j<=s.size->vw s j):vw s i:=by
 intro w bp et ex h y B;obtain⟨m,A⟩:=y_ (vq w bp s i et ex);rw[<- A.o];have m:=zy (And.intro h (A_ w (λx=>x=bp)));have C:i<s.size:=zc M_;have D:=zy (Zo (s:=s) (i:=i) hx);replace hx:=zy hx;replace y:=zy y;replace z:=zy z;go_in;go_wp2_with (first
  |(go_at_call 97;apply(yj m.o.1).mono;rintro e w' ⟨rfl,q⟩;rw[q])
  |(go_at_call 96;apply(yx m.o.1 hs hi).mono;rintro e w' ⟨rfl,q⟩;rw[hx.o];replace m:=zy (And.intro (m.o.1.si q) (m.o.2.si q)))
  |(go_at_call 100;apply(yl m.o.1 hs hi hx D_ D_).mono;rintro e w' ⟨rfl,t,q⟩;have u:=zy (And.intro q (m.o.2.trans t u_)))
  |(go_at_call 100;apply(yr m.o.1 hs hi hx D_ D_).mono;rintro e w' ⟨rfl,t,q⟩;replace m:=zy (And.intro q (m.o.2.trans t u_)))
  |(go_at_call 102;apply(af (p:=i) (λj h1 q=>z.o j M_ q) u.o.1 (y.o.fr u.o.2 (Ne.symm B)) B hs C).mono;rintro e m ⟨v,z,m,rfl,t,hm⟩;replace t:=zy t;replace hm:=zy hm;replace m:=zy m))
 try go_ret
 rw[A.o];have y:=u.o.2.size;refine⟨v,z,m,rfl,u.o.2.trans t u_,?_⟩;rw[D.o];have m:=hm.o;cases hp:pA s (i+1) with
 |error k=>
  rw[hp]at m;exact⟨m.1.ls y,m.2⟩
 |ok r=>
  obtain⟨l,j⟩:=r;rw[hp]at m;simp only at m⊢;by_cases hb:bt s j=41
  .rw[i_ hb]at m⊢;obtain⟨rfl,q,hv⟩:=m;exact⟨rfl,q,hv.mono (λg _ hg=>ak_ y hg)⟩
  .rw[n_ hb]at m⊢;exact⟨m.1.ls y,m.2⟩
def kq{s:BA}(hs:s.size<=300):∀(n i:Nat),s.size-i<=n->i<=s.size->vw s i:=by
 intro n;induction n with
 |zero=>
  intro i hn hi;have h0:bt s i=0:=kK M_;exact sJ hs hi (by rw[h0];decide) (by rw[h0];decide) (by rw[h0];decide) (by rw[h0];decide)
 |succ n ih=>
  intro i hn hi;have next:i<s.size->∀j,i<j->j<=s.size->vw s j:=λ_ j h1 e=>ih j M_ e;by_cases h1:zu (bt s i)=true
  .have g:=h1;simp only[zu,au_,beq_iff_eq]at g;rcases g with(((h|h)|h)|h)|h
   .exact Jw hs hi h
   .exact Jq hs hi h
   .exact Jf hs hi h
   .exact Jg hs hi h
   .exact Jk hs hi h
  .by_cases e:bt s i=91\/bt s i=123
   .have g:i<s.size:=zc M_;rcases e with e|e
    .exact KZ hs hi e (next g (i+1) M_ g)
    .exact Jj hs hi e (next g (i+1) M_ g)
   .by_cases g:bt s i=40
    .exact KY hs hi g (next (zc M_))
    .by_cases l:65<=bt s i/\bt s i<=70
     .exact YJ hs hi (by simp[zp];omega)
     .exact sJ hs hi h1 e g l
def cY(w:World)(bp:Nat)(s:BA)(i:Nat)(et:TypeId)(ex:Value)(e:Ending)(w':World):Prop:=
 ∃(a:Int) (b:Int) (ev:Value),e=.returned (.tuple #[.agg #[z_ a,.int .u8 b],ev])/\Fr w w' (· = bp)/\
  ((zh (bt s i)=true/\a=(i:Int)/\b=(bt s i:Int)/\ev=.nilIface/\PAt w' bp s (i+1)/\i<s.size)\/(zh (bt s i)=false/\zT w' w.heap.size ev (i:Int) (.iface et ex)/\PAt w' bp s i))
def xK{w:World}{bp:Nat}{s:BA}(h:PAt w bp s i)(G:gI w et ex)(M:bp≠0)(hs:s.size<=300)(hi:i<=s.size):Calls prog 163 #[P_ bp] w (cY w bp s i et ex):=by
 obtain⟨l,F⟩:=y_ (cY w bp s i et ex);rw[<- F.o];have l:=h.lt;have h0:=zy (show PAt (w.alloc (.cells #[O_,.int .u8 0] 186)) bp s i from C_ h _);have E:=zy (show Fr w (w.alloc (.cells #[O_,.int .u8 0] 186)) (λx=>x=bp) from(A_ w _).alloc _);have H:=zy (B_ w #[O_,.int .u8 0] 186);obtain⟨x,hx⟩:=x_ (bt s i);replace G:=zy G;cases m:zh x with
 |true=>
  have hr:97<=x/\x<=122:=by simpa[zh] using m
  have t:i<s.size:=zc M_;have N:¬((x:Int)<97):=M_;have O:¬((122:Int)<(x:Int)):=M_;replace hx:=zy hx;replace m:=zy m;go_in;go_wp2_with (first
   |(go_at_call 97;apply(yj h0).mono;rintro e w' ⟨rfl,z⟩;rw[z])
   |(go_at_call 96;apply(yx h0 hs hi).mono;rintro e w1 ⟨rfl,A⟩;rw[hx.o];have h1:=h0.o.si A;have l:=(A_ (w.alloc (.cells #[O_,.int .u8 0] 186)) (λg=>g=bp)).si A;have r:=l.bl H M_;have P1:=C_ h1 (.cells #[I_ i,U_ x] 186);have c1:=PAt.c1 P1;have p:=PAt.th P1 1;have p:=l.size;have q:=F_ (B_ w1 #[I_ i,U_ x] 186) (a:=⟨bp,1,none⟩) (z_ ((i:Int)+1)) (by show ¬(w1.heap.size=bp);simp at p;omega);have p:=F_ (r.alloc (.cells #[I_ i,U_ x] 186)) (a:=⟨bp,1,none⟩) (z_ ((i:Int)+1)) (by show ¬(w.heap.size=bp);omega);have P2:=zy (PAt.inc P1);have u:=q.c0;have l1:=q.c1;have r0:=p.c0;have r1:=p.c1;have J:=p.th 0;have K:=p.th 1;replace l:=zy l;replace r:=zy r;replace h1:=zy h1;replace P1:=zy P1;replace q:=zy q;replace p:=zy p))
  have u:=(p.o.set 0 (I_ i)).set 1 (U_ x);have B:=u.cell 0;have C:=u.cell 1;simp only[am_,an_,aa_,ab_]at B C;refine bodyPost_ret (v:=.tuple #[.agg #[I_ i,U_ x],.nilIface]) (by simp[results,results163,go_sem,B,C]) rfl ?_;rw[F.o];refine⟨_,_,_,rfl,?_,.inl ⟨by rw[hx.o];exact m,rfl,by rw[hx.o],rfl,?_,t⟩⟩
  .exact(((((E.o.trans l u_).alloc _).setCell _ _ (λ_=>rfl)).setCell _ _ (λp=>absurd p (a3_ _))).setCell _ _ (λp=>absurd p (a3_ _)))
  .exact F_ (F_ P2 (a:=⟨w.heap.size,0,none⟩) _ (by show ¬(bp=w.heap.size);omega)) (a:=⟨w.heap.size,1,none⟩) _ (by show ¬(bp=w.heap.size);omega)
 |false=>
  have hr:x<97\/122<x:=by
   have:=m;simp only[zh,Bool.and_eq_false_iff,decide_eq_false_iff_not]at this;omega
  replace hx:=zy hx;replace m:=zy m;have fin:H_ (∀(q:World) (v:Value) (w1:World),zT q (w1.alloc (.cells #[I_ i,U_ x] 186)).heap.size v (i:Int) (.iface et ex)->Fr (w1.alloc (.cells #[I_ i,U_ x] 186)) q N_->PAt (w1.alloc (.cells #[I_ i,U_ x] 186)) bp s i->Fr (w.alloc (.cells #[O_,.int .u8 0] 186)) w1 (λg=>g=bp)->
   cY w bp s i et ex (.returned (.tuple #[.agg #[O_,.int .u8 0],v])) ((q.setCell ⟨w.heap.size,0,none⟩ (O_)).setCell ⟨w.heap.size,1,none⟩ (.int .u8 0))):=zy (λq v w1 t p P1 l=>by
   have hz:(w.alloc (.cells #[O_,.int .u8 0] 186)).heap.size=w.heap.size+1:=by simp
   have D:(w1.alloc (.cells #[I_ i,U_ x] 186)).heap.size=w1.heap.size+1:=by simp
   have D:=l.size
   have D:Fr q ((q.setCell ⟨w.heap.size,0,none⟩ (O_)).setCell ⟨w.heap.size,1,none⟩ (.int .u8 0)) (λg=>g=w.heap.size):=((A_ q (λg=>g=w.heap.size)).setCell ⟨w.heap.size,0,none⟩ _ (λ_=>rfl)).setCell ⟨w.heap.size,1,none⟩ _ (λ_=>rfl)
   refine⟨_,_,_,rfl,?_,.inr ⟨by rw[hx.o];exact m,(t.fr D (λg hg e=>M_)).ls M_,D.bl (p.bl P1 id) M_⟩⟩
   exact((((E.o.trans l u_).alloc _).trans p v_).trans D (λy hy e=>M_)))
  rcases hr with hr|hr
  .have N:(x:Int)<97:=M_;go_in;go_wp2_with (first
    |(go_at_call 97;apply(yj h0).mono;rintro e w' ⟨rfl,z⟩;rw[z])
    |(go_at_call 96;apply(yx h0 hs hi).mono;rintro e w1 ⟨rfl,A⟩;rw[hx.o];have h1:=h0.o.si A;have l:=(A_ (w.alloc (.cells #[O_,.int .u8 0] 186)) (λg=>g=bp)).si A;have r:=l.bl H M_;have P1:=C_ h1 (.cells #[I_ i,U_ x] 186);have D:=r.alloc (.cells #[I_ i,U_ x] 186);have I:=zy ((G.o.fr (E.o.trans l u_) (Ne.symm M)).fr ((A_ w1 N_).alloc (.cells #[I_ i,U_ x] 186)) id);revert l P1 D;refine h_ λl P1 D=>?_)
    |(go_at_call 68;apply(xW P1 I).mono;rintro e q ⟨v,rfl,t,p⟩;have m:=p.bl D id;have r0:=m.c0;have r1:=m.c1;have J:=m.th 0;have K:=m.th 1;revert t p m;refine h_ λt p m=>?_))
   have u:=(m.o.set 0 (O_)).set 1 (.int .u8 0);have B:=u.cell 0;have C:=u.cell 1;simp only[am_,an_,aa_,ab_]at B C;refine bodyPost_ret (v:=.tuple #[.agg #[O_,.int .u8 0],v]) (by simp[results,results163,go_sem,B,C]) rfl ?_;rw[F.o];exact fin.o q v w1 t p P1 l
  .have N:¬((x:Int)<97):=M_;have O:(122:Int)<(x:Int):=M_;go_in;go_wp2_with (first
    |(go_at_call 97;apply(yj h0).mono;rintro e w' ⟨rfl,z⟩;rw[z])
    |(go_at_call 96;apply(yx h0 hs hi).mono;rintro e w1 ⟨rfl,A⟩;rw[hx.o];have h1:=h0.o.si A;have l:=(A_ (w.alloc (.cells #[O_,.int .u8 0] 186)) (λg=>g=bp)).si A;have r:=l.bl H M_;have P1:=C_ h1 (.cells #[I_ i,U_ x] 186);have D:=r.alloc (.cells #[I_ i,U_ x] 186);have I:=zy ((G.o.fr (E.o.trans l u_) (Ne.symm M)).fr ((A_ w1 N_).alloc (.cells #[I_ i,U_ x] 186)) id);revert l P1 D;refine h_ λl P1 D=>?_)
    |(go_at_call 68;apply(xW P1 I).mono;rintro e q ⟨v,rfl,t,p⟩;have m:=p.bl D id;have r0:=m.c0;have r1:=m.c1;have J:=m.th 0;have K:=m.th 1;revert t p m;refine h_ λt p m=>?_))
   have u:=(m.o.set 0 (O_)).set 1 (.int .u8 0);have B:=u.cell 0;have C:=u.cell 1;simp only[am_,an_,aa_,ab_]at B C;refine bodyPost_ret (v:=.tuple #[.agg #[O_,.int .u8 0],v]) (by simp[results,results163,go_sem,B,C]) rfl ?_;rw[F.o];exact fin.o q v w1 t p P1 l
def cV(w:World)(bp:Nat)(s:BA)(i:Nat)(p:Int)(et:TypeId)(ex:Value)(e:Ending)(w':World):Prop:=
 ∃v ev,IfV v/\e=.returned (.tuple #[v,ev])/\Fr w w' (· = bp)/\
  ((48<=bt s i/\bt s i<=57/\v=.iface 222 (.agg #[z_ p,z_ ((bt s i-48:Nat):Int)])/\ev=.nilIface/\PAt w' bp s (i+1)/\i<s.size)\/(¬(48<=bt s i/\bt s i<=57)/\zT w' w.heap.size ev (i:Int) (.iface et ex)/\PAt w' bp s i))
def ar{w:World}{bp:Nat}{s:BA}{p:Int}(h:PAt w bp s i)(t:gI w et ex)(hs:s.size<=300)(hi:i<=s.size):Calls prog 132 #[P_ bp,z_ p] w (cV w bp s i p et ex):=by
 obtain⟨g,r⟩:=y_ (cV w bp s i p et ex);rw[<- r.o];obtain⟨x,hx⟩:=x_ (bt s i);replace t:=zy t;by_cases hr:48<=x/\x<=57
 .have l:i<s.size:=zc M_;have u:¬((x:Int)<48):=M_;have z:¬((57:Int)<(x:Int)):=M_;replace hx:=zy hx;replace h:=zy h;go_in;go_wp2_with (go_at_call 96;apply(yx h hs hi).mono;rintro e w1 ⟨rfl,g⟩;rw[hx.o];have h1:=h.o.si g;have c1:=h1.c1;have m:=h1.th 1;replace h1:=zy h1;replace g:=zy g);try go_ret
  rw[r.o];refine⟨.iface 222 (.agg #[z_ p,z_ ((x:Int)-48)]),.nilIface,.inr ⟨_,_,rfl⟩,rfl,((A_ w _).si g).setCell _ _ (λ_=>rfl),.inl ⟨by rw[hx.o];exact hr.1,by rw[hx.o];exact hr.2,?_,rfl,h1.o.inc,l⟩⟩;rw[hx.o,show((x-48:Nat):Int)=(x:Int)-48 by omega]
 .replace hx:=zy hx;have fin:H_ (∀(w1 q:World) (v:Value),zq w w1->zT q w1.heap.size v (i:Int) (.iface et ex)->Fr w1 q N_->cV w bp s i p et ex (.returned (.tuple #[.nilIface,v])) q):=zy (λw1 q v g m l=>by
   have y:=((A_ w N_).si g).size
   exact⟨.nilIface,v,.inl rfl,rfl,((A_ w _).si g).trans l v_,.inr ⟨by rw[hx.o];exact hr,m.ls y,l.bl (h.si g) id⟩⟩)
  have y:x<48\/57<x:=M_;replace h:=zy h;rcases y with hr|hr
  .have u:(x:Int)<48:=M_;go_in;go_wp2_with (first
    |(go_at_call 96;apply(yx h hs hi).mono;rintro e w1 ⟨rfl,g⟩;rw[hx.o];have h1:=zy (h.o.si g);replace g:=zy g)
    |(go_at_call 68;apply(xW h1 (t.o.fr ((A_ w N_).si g) id)).mono;rintro e q ⟨v,rfl,m,l⟩;replace m:=zy m;replace l:=zy l))
   try go_ret
   rw[r.o];exact fin.o w1 q v g m l
  .have u:¬((x:Int)<48):=M_;have z:(57:Int)<(x:Int):=M_;go_in;go_wp2_with (first
    |(go_at_call 96;apply(yx h hs hi).mono;rintro e w1 ⟨rfl,g⟩;rw[hx.o];have h1:=zy (h.o.si g);replace g:=zy g)
    |(go_at_call 68;apply(xW h1 (t.o.fr ((A_ w N_).si g) id)).mono;rintro e q ⟨v,rfl,m,l⟩;replace m:=zy m;replace l:=zy l))
   try go_ret
   rw[r.o];exact fin.o w1 q v g m l
structure AM(w:World)(bp:Nat)(s:BA)(j b0:Nat)(L:List Value)(T ET:TypeId)(k:Nat)(sv:Value)(n:Nat)(xs:List Value)(W:World):Prop where
 here:PAt W bp s j
 fr:Fr w W (· = bp)
 lt:bp<w.heap.size
 w0:w.heap.size<=b0
 hB:b0+1<=W.heap.size
 b:Blk W b0 L T
 row:W.ownsRow (b0+1) ET k sv n xs
section
variable {w W W':World} {bp:Nat} {s:BA} {j j' b0:Nat} {L:List Value} {T ET:TypeId} {k:Nat} {sv:Value} {n:Nat} {xs:List Value}
def AM.call(M:AM w bp s j b0 L T ET k sv n xs W)(h:PAt W' bp s j')(hf:Fr W W' (· = bp)):AM w bp s j' b0 L T ET k sv n xs W':=by
 have:=M.lt;have:=M.w0;exact⟨h,M.fr.trans hf u_,M.lt,M.w0,ak_ M.hB hf.size,hf.bl M.b M_,zj M.row hf (λg hg e=>by have:=M.row.lt g hg;omega)⟩
def AM.alloc(M:AM w bp s j b0 L T ET k sv n xs W)(o:Obj):AM w bp s j b0 L T ET k sv n xs (W.alloc o):=M.call (C_ M.here o) ((A_ W _).alloc o)
def AM.item(M:AM w bp s j b0 L T ET k sv n xs W){l:World}{h:Value}{p:Nat}{xs':List Value}{m:World}(h0:Fr W m N_)(hg:m.grownBy l sv.ownBlock)(ho:l.ownsRow (b0+1) ET k h p xs')(hl:h.ownBlock=sv.ownBlock\/h.ownBlock=some m.heap.size)(c:Nat):AM w bp s j b0 (L.set c h) T ET k h p xs' (l.setCell ⟨b0,c,none⟩ h)/\Fr W (l.setCell ⟨b0,c,none⟩ h) (λg=>sv.ownBlock=some g\/g=b0)/\(∀g,h.ownBlock=some g->b0+1<=g/\(sv.ownBlock=some g\/W.heap.size<=g)):=by
 have m:=M.lt;have m:=M.w0;have t:=M.hB;have m:=h0.size;have q:Fr W l (λg=>sv.ownBlock=some g):=a_ (h0.mono v_) hg (λk e _=>e);have hn:∀g,h.ownBlock=some g->b0+1<=g/\(sv.ownBlock=some g\/W.heap.size<=g):=λg m=>by
  rcases hl with e|e
  .exact⟨(M.row.lt g (e▸m)).1,.inl (e▸m)⟩
  .rw[e]at m;simp only[ah_]at m;exact⟨M_,.inr M_⟩
 have r:Fr l (l.setCell ⟨b0,c,none⟩ h) (λg=>g=b0):=(A_ l (λg=>g=b0)).setCell ⟨b0,c,none⟩ h (λ_=>rfl);have p:Fr W (l.setCell ⟨b0,c,none⟩ h) (λg=>sv.ownBlock=some g\/g=b0):=(q.mono (λ_ _ e=>.inl e)).trans r (λ_ _ e=>.inr e);have l:=q.bl M.b (λe=>by have:=M.row.lt _ e;omega);refine⟨⟨p.bl M.here (λe=>?_),M.fr.trans p (λx hx e=>?_),M.lt,M.w0,ak_ t p.size,l.set c h,zj ho r (λg m e=>by have:=hn g m;omega)⟩,p,hn⟩
 .rcases e with e|e
  .have:=M.row.lt _ e;omega
  .omega
 .rcases e with e|e
  .have:=M.row.lt _ e;omega
  .omega
def AM.ie(M:AM w bp s j b0 L T ET k sv n xs W){h l:World}(h0:Fr W l N_)(hg:l.grownBy h sv.ownBlock):Blk h b0 L T:=by
 have l:Fr W h (λg=>sv.ownBlock=some g):=a_ (h0.mono v_) hg (λk e _=>e);exact l.bl M.b (λe=>by have:=M.row.lt _ e;omega)
end
def DfV(w:World)(P:Nat->Prop)(s:BA)(o:Option (Nat×Nat))(d:Value):Prop:=
 match o with
 |none=>d=.pointer none
 |some (a,e)=>∃g x,P g/\d=P_ g/\IfV x/\Blk w g [I_ a,.string (s.extract a e),x] 193
def DfV.mono{w:World}{s:BA}(h:DfV w P s o d)(hQ:∀g,g<w.heap.size->P g->Q g):DfV w Q s o d:=by
 match o with
 |none=>exact h
 |some (a,e)=>
  obtain⟨g,x,h1,m,p,l⟩:=h;exact⟨g,x,hQ g l.lt h1,m,p,l⟩
def DfV.fr{w:World}{s:BA}(h:DfV w P s o d)(hf:Fr w w' S)(q:∀g,P g->¬S g):DfV w' P s o d:=by
 match o with
 |none=>exact h
 |some (a,e)=>
  obtain⟨g,x,h1,l,m,p⟩:=h;exact⟨g,x,h1,l,m,hf.bl p (q g h1)⟩
def uh(w:World)(P:Nat->Prop)(s:BA)(f:PF)(a b c d:Value):Prop:=
 a=I_ f.place/\b=U_ f.letter/\TyV w P f.ty c/\DfV w P s f.dflt d
def uh.mono{w:World}{s:BA}(h:uh w P s f a b c d)(hQ:∀g,g<w.heap.size->P g->Q g):uh w Q s f a b c d:=
 ⟨h.1,h.2.1,h.2.2.1.mono hQ,h.2.2.2.mono hQ⟩
def uh.fr{w:World}{s:BA}(h:uh w P s f a b c d)(hf:Fr w w' S)(e:∀g,P g->¬S g):uh w' P s f a b c d:=
 ⟨h.1,h.2.1,h.2.2.1.fr hf e,h.2.2.2.fr hf e⟩
def xo(w:World)(P:Nat->Prop)(s:BA)(fs:List PF)(xs:List Value):Prop:=
 ∀i f,fs[i]?=some f->∃a b c d,xs[4*i]?=some a/\xs[4*i+1]?=some b/\xs[4*i+2]?=some c/\xs[4*i+3]?=some d/\uh w P s f a b c d
def xo.mono{w:World}{s:BA}{xs:List Value}(h:xo w P s fs xs)(hQ:∀g,g<w.heap.size->P g->Q g):xo w Q s fs xs:=λi f e=>by
 obtain⟨a,b,c,d,h1,l,m,p,q⟩:=h i f e;exact⟨a,b,c,d,h1,l,m,p,q.mono hQ⟩
def xo.fr{w:World}{s:BA}{xs:List Value}(h:xo w P s fs xs)(hf:Fr w w' S)(r:∀g,P g->¬S g):xo w' P s fs xs:=λi f e=>by
 obtain⟨a,b,c,d,h1,l,m,p,q⟩:=h i f e;exact⟨a,b,c,d,h1,l,m,p,q.fr hf r⟩
def xo.snoc{w:World}{s:BA}{xs:List Value}(h:xo w P s fs xs)(hl:xs.length=fs.length*4)(hf:uh w P s f a b c d):xo w P s (fs++[f]) (xs++[a,b,c,d]):=λi q e=>by
 by_cases hi:i<fs.length
 .rw[ar_ hi]at e;obtain⟨g,l,m,p,h1,r,t,u,v⟩:=h i q e;exact⟨g,l,m,p,by rw[ar_ M_];exact h1,by rw[ar_ M_];exact r,by rw[ar_ M_];exact t,by rw[ar_ M_];exact u,v⟩
 .have g:i=fs.length:=by
   have:=(ae_.1 e).1;simp at this;omega
  subst g;rw[as_ l_,Nat.sub_self]at e;simp only[aa_,ah_]at e;subst e;refine⟨a,b,c,d,?_,?_,?_,?_,hf⟩
  .rw[as_ M_,show 4*fs.length-xs.length=0 by omega];rfl
  .rw[as_ M_,show 4*fs.length+1-xs.length=1 by omega];rfl
  .rw[as_ M_,show 4*fs.length+2-xs.length=2 by omega];rfl
  .rw[as_ M_,show 4*fs.length+3-xs.length=3 by omega];rfl
def zE(l:List (Nat×Nat)):List Value:=l.flatMap (λq=>[I_ q.2,U_ q.1])
def qh(w:World)(P:Nat->Prop)(o:Option (Nat×Nat))(d:Value):Prop:=
 match o with
 |none=>d=.pointer none
 |some (c,p)=>∃g,P g/\d=P_ g/\Blk w g [I_ p,U_ c] 186
def qh.mono{w:World}(h:qh w P o d)(hQ:∀g,g<w.heap.size->P g->Q g):qh w Q o d:=by
 match o with
 |none=>exact h
 |some (a,e)=>
  obtain⟨g,h1,m,l⟩:=h;exact⟨g,hQ g l.lt h1,m,l⟩
def qh.fr{w:World}(h:qh w P o d)(hf:Fr w w' S)(p:∀g,P g->¬S g):qh w' P o d:=by
 match o with
 |none=>exact h
 |some (a,e)=>
  obtain⟨g,h1,l,m⟩:=h;exact⟨g,h1,l,hf.bl m (p g h1)⟩
def pB(s:BA)(p:Nat)(b:PB):Prop:=∃j,yZ s p=.ok (b,j)
inductive ye (w:World) (P:Nat->Prop) (s:BA):PB->Value->Prop
 |recd (p:Nat) {fs:List PF} {sv:Value} {xs:List Value} (ho:w.ownsRow 0 189 4 sv fs.length xs) (hP:∀g,sv.ownBlock=some g->P g) (h:xo w P s fs xs) (hp:pB s p (.recd fs)):ye w P s (.recd fs) (.iface 215 (.agg #[I_ p,sv]))
 |enum (p:Nat) {l:List (Nat×Nat)} {o:Option (Nat×Nat)} {sv u:Value} (ho:w.ownsRow 0 186 2 sv l.length (zE l)) (hP:∀g,sv.ownBlock=some g->P g) (hu:qh w P o u) (hp:pB s p (.enum l o)):ye w P s (.enum l o) (.iface 220 (.agg #[I_ p,sv,u]))
 |bytes (p n:Nat) (hp:pB s p (.bytes n)):ye w P s (.bytes n) (.iface 222 (.agg #[I_ p,I_ n]))
def ye.mono{w:World}{s:BA}{b:PB}{v:Value}(h:ye w P s b v)(hQ:∀g,g<w.heap.size->P g->Q g):ye w Q s b v:=by
 cases h with
 |recd p ho hP h hp=>exact .recd p ho (λg e=>hQ g (ho.lt g e).2 (hP g e)) (h.mono hQ) hp
 |enum p ho hP h hp=>exact .enum p ho (λg e=>hQ g (ho.lt g e).2 (hP g e)) (h.mono hQ) hp
 |bytes p n hp=>exact .bytes p n hp
def ye.fr{w:World}{s:BA}{b:PB}{v:Value}(h:ye w P s b v)(hf:Fr w w' S)(l:∀g,P g->¬S g):ye w' P s b v:=by
 cases h with
 |recd p ho hP h hp=>exact .recd p (zj ho hf (λg e=>l g (hP g e))) hP (h.fr hf l) hp
 |enum p ho hP h hp=>exact .enum p (zj ho hf (λg e=>l g (hP g e))) hP (h.fr hf l) hp
 |bytes p n hp=>exact .bytes p n hp
def eM(w:World)(bp:Nat)(s:BA)(i:Nat)(e:Ending)(w':World):Prop:=
 ∃k g,k=(pD s i 0).getD s.size/\i<=k/\k<=s.size/\w.heap.size<=g/\e=.returned (P_ g)/\Blk w' g [I_ i,.string (s.extract i k),.nilIface] 193/\Fr w w' (· = bp)/\PAt w' bp s k
def QN(w:World)(bp:Nat)(s:BA)(i:Nat)(n:Nat)(ov:Value)(W:World):Prop:=
 ∃k o:Nat,ov=I_ o/\pD s i 0=pD s k o/\i<=k/\o<=k/\k<=s.size/\PAt W bp s k/\Fr w W (· = bp)/\s.size-k<=n
def iw{c:Nat}(h:qa c=true):c=40\/c=91\/c=123\/c=60:=by
 simp only[qa,au_,beq_iff_eq]at h;omega
def nc{c:Nat}(h:jr c=true):c=41\/c=93\/c=125\/c=62:=by
 simp only[jr,au_,beq_iff_eq]at h;omega
def cA{c:Nat}(h:qa c=false)(e:jr c=false):c≠40/\c≠91/\c≠123/\c≠60/\c≠41/\c≠93/\c≠125/\c≠62:=by
 refine⟨?_,?_,?_,?_,?_,?_,?_,?_⟩<;>(rintro rfl;first|(revert h;decide)|(revert e;decide))
def dR{w:World}{bp:Nat}{s:BA}(h:PAt w bp s i)(hs:s.size<=300)(hi:i<=s.size):Calls prog 182 #[P_ bp] w (eM w bp s i):=by
 obtain⟨G,B⟩:=y_ (eM w bp s i);rw[<- B.o];have start:=zy (show QN w bp s i (s.size-i) (O_) w from⟨i,0,rfl,rfl,l_,al_ _,hi,h,A_ _ _,l_⟩);replace h:=zy h;go_in;go_wp2_with (go_at_call 97;apply(yj h).mono;rintro e w' ⟨rfl,E⟩;rw[E];clear E);go_loopg [4] (s.size-i) (λn ov W=>QN w bp s i n ov W);case atStart=>exact start
 case round=>
  clear start;obtain⟨k,o,rfl,y,I,a5,K,h1,x,hn⟩:=hrel;have c0:=h1.c0;have c1:=h1.c1;replace y:=zy y;have u:bp<wr.heap.size:=h1.lt;have a2:(i:Int)<=(k:Int):=M_;have a3:(k:Int)<=(s.size:Int):=M_;replace x:=zy x;replace h1:=zy h1;have fin:H_ (∀W,zq wr W->(pD s i 0).getD s.size=k->G (.returned (P_ W.heap.size)) (W.alloc (.cells #[I_ i,.string (s.extract i k),.nilIface] 193))):=zy (λW r he=>by
   rw[B.o]
   have C:=x.o.si r
   exact⟨k,W.heap.size,he.symm,I,K,C.size,rfl,B_ W _ _,C.alloc _,C_ (h1.o.si r) _⟩)
  by_cases hk:k<s.size
  .have J:(k:Int)<(s.size:Int):=M_;obtain⟨c,hc⟩:=x_ (bt s k);have a0:((s[k]'hk).toNat:Int)=(c:Int):=by rw[<- hc,vR s k hk]
   have g:=ZZ o hk;rw[hc,<- y.o]at g;replace hc:=zy hc;have f1:=h1.o.th 1;by_cases p:o=0/\(c=44\/c=41)
   .rw[i_ p]at g;have z:=zy (show(pD s i 0).getD s.size=k by rw[g];rfl);clear g;obtain⟨rfl,D⟩:=p;rcases D with rfl|rfl;all_goals
     go_wp2;go_quiet (fail);go_wp2;go_quiet (fail);go_wp2;refine tr_ 13 (λW=>f_ W bp 0 (.string s)/\f_ W bp 1 (I_ k)) ?_;refine tz_ 0 ?_;refine tz_ 1 ?_;refine tz_ 2 ?_;refine tz_ 3 ?_;refine tz_ 4 ?_;refine tz_ 5 ?_;refine tz_ 6 ?_;refine tz_ 7 ?_;refine tz_ 8 ?_;refine tz_ 9 ?_;refine tz_ 10 ?_;refine tz_ 11 ?_;refine t1_ 12 ⟨c0,c1⟩ ?_;refine t1_ 13 ⟨(World.cell?_alloc_past _ _ _ (by exact u)).trans c0,(World.cell?_alloc_past _ _ _ (by exact u)).trans c1⟩ ?_;refine td_ ?_ _;go_wp2;try go_ret
     exact fin.o (wr.drewN _) (zq.drewN _ _) z
   .rw[n_ p]at g;replace g:=zy g;have q:H_ (∀(A:Int) (W:World),A=(jB c o:Nat)->zq wr W->QN w bp s i (s.size-(k+1)) (z_ A) (W.setCell ⟨bp,1,none⟩ (z_ ((k:Int)+1)))):=zy (λA W M r=>by
     have H:=h1.o.si r
     exact⟨k+1,jB c o,by rw[M],g,M_,by unfold jB;split<;>(try split)<;>omega,hk,H.inc,(x.o.si r).setCell _ _ (λ_=>rfl),l_⟩)
    replace p:=zy p;cases ho:qa c<;>cases l:jr c
    case true.true=>exact(mi ho l).elim
    case false.false=>
     have m:=zy (by simp[jB,ho,l]:jB c o=o);obtain⟨m1,m2,m3,m4,m5,m6,m7,m8⟩:=cA ho l;clear ho l;have O:((c:Int)==40)=false:=by simp;omega
     have R:((c:Int)==91)=false:=by simp;omega
     have U:((c:Int)==123)=false:=by simp;omega
     have V:((c:Int)==60)=false:=by simp;omega
     have X:((c:Int)==41)=false:=by simp;omega
     have Y:((c:Int)==93)=false:=by simp;omega
     have Z:((c:Int)==125)=false:=by simp;omega
     have e8:((c:Int)==62)=false:=by simp;omega
     by_cases t:o=0
     .subst t;have D:((c:Int)==44)=false:=by have:=p.o;simp;omega
      go_wp2;go_quiet (fail);go_wp2;go_quiet (fail);go_wp2;go_roundg (s.size-(k+1));case measure=>omega
      case rel=>exact q.o _ _ (by rw[m.o]<;>omega) (by first|exact zq.drewN _ _|exact(zq.drewN _ _).trans (zq.drewN _ _)|exact((zq.drewN _ _).trans (zq.drewN _ _)).trans (zq.drewN _ _))
     .have F:((o:Int)==0)=false:=by simp;omega
      go_wp2;go_quiet (fail);go_wp2;go_quiet (fail);go_wp2;go_roundg (s.size-(k+1));case measure=>omega
      case rel=>exact q.o _ _ (by rw[m.o]<;>omega) (by first|exact zq.drewN _ _|exact(zq.drewN _ _).trans (zq.drewN _ _)|exact((zq.drewN _ _).trans (zq.drewN _ _)).trans (zq.drewN _ _))
    case true.false=>
     have m:=zy (by simp[jB,ho]:jB c o=o+1);have v:=iw ho;clear ho l;rcases v with rfl|rfl|rfl|rfl;all_goals
      by_cases t:o=0
      .subst t;go_wp2;go_quiet (fail);go_wp2;go_quiet (fail);go_wp2;go_roundg (s.size-(k+1));case measure=>omega
       case rel=>exact q.o _ _ (by rw[m.o]<;>omega) (by first|exact zq.drewN _ _|exact(zq.drewN _ _).trans (zq.drewN _ _)|exact((zq.drewN _ _).trans (zq.drewN _ _)).trans (zq.drewN _ _))
      .have F:((o:Int)==0)=false:=by simp;omega
       have N:(o:Int)<=300:=M_;go_wp2;go_quiet (fail);go_wp2;go_quiet (fail);go_wp2;go_roundg (s.size-(k+1));case measure=>omega
       case rel=>exact q.o _ _ (by rw[m.o]<;>omega) (by first|exact zq.drewN _ _|exact(zq.drewN _ _).trans (zq.drewN _ _)|exact((zq.drewN _ _).trans (zq.drewN _ _)).trans (zq.drewN _ _))
    case false.true=>
     have m:=zy (by simp[jB,ho,l]:jB c o=o-1);have v:=nc l;clear ho l;by_cases t:o=0
     .subst t;have D:c=93\/c=125\/c=62:=by have:=p.o;omega
      clear v;rcases D with rfl|rfl|rfl;all_goals
       go_wp2;go_quiet (fail);go_wp2;go_quiet (fail);go_wp2;go_roundg (s.size-(k+1));case measure=>omega
       case rel=>exact q.o _ _ (by rw[m.o]<;>omega) (by first|exact zq.drewN _ _|exact(zq.drewN _ _).trans (zq.drewN _ _)|exact((zq.drewN _ _).trans (zq.drewN _ _)).trans (zq.drewN _ _))
     .have F:((o:Int)==0)=false:=by simp;omega
      have N:(o:Int)<=300:=M_;have a4:max ((o:Int)-1) 0=(o:Int)-1:=M_;rcases v with rfl|rfl|rfl|rfl;all_goals
       go_wp2;go_quiet (fail);go_wp2;go_quiet (fail);go_wp2;go_roundg (s.size-(k+1));case measure=>omega
       case rel=>exact q.o _ _ (by rw[m.o]<;>omega) (by first|exact zq.drewN _ _|exact(zq.drewN _ _).trans (zq.drewN _ _)|exact((zq.drewN _ _).trans (zq.drewN _ _)).trans (zq.drewN _ _))
  .have D:k=s.size:=M_;have z:=zy (show(pD s i 0).getD s.size=k by rw[y.o,Jt M_,Option.getD_none];exact D.symm);have J:¬((k:Int)<(s.size:Int)):=M_;clear D;go_wp2;go_quiet (fail);go_wp2;refine tr_ 13 (λW=>f_ W bp 0 (.string s)/\f_ W bp 1 (I_ k)) ?_;refine tz_ 0 ?_;refine tz_ 1 ?_;refine tz_ 2 ?_;refine tz_ 3 ?_;refine tz_ 4 ?_;refine tz_ 5 ?_;refine tz_ 6 ?_;refine tz_ 7 ?_;refine tz_ 8 ?_;refine tz_ 9 ?_;refine tz_ 10 ?_;refine tz_ 11 ?_;refine t1_ 12 ⟨c0,c1⟩ ?_;refine t1_ 13 ⟨(World.cell?_alloc_past _ _ _ (by exact u)).trans c0,(World.cell?_alloc_past _ _ _ (by exact u)).trans c1⟩ ?_;refine td_ ?_ _;go_wp2;try go_ret
   exact fin.o (wr.drewN _) (zq.drewN _ _) z
def Fr.four(w:World)(b:Nat)(e h l m:Value):Fr w ((((w.setCell ⟨b,0,none⟩ e).setCell ⟨b,1,none⟩ h).setCell ⟨b,2,none⟩ l).setCell ⟨b,3,none⟩ m) (λg=>g=b):=
 ((((A_ w (λg=>g=b)).setCell ⟨b,0,none⟩ e (λ_=>rfl)).setCell ⟨b,1,none⟩ h (λ_=>rfl)).setCell ⟨b,2,none⟩ l (λ_=>rfl)).setCell ⟨b,3,none⟩ m (λ_=>rfl)
def Blk.four{w:World}{b t:Nat}{u0 e u2 g:Value}(h:Blk w b [u0,e,u2,g] t)(e g l m:Value):Blk ((((w.setCell ⟨b,0,none⟩ e).setCell ⟨b,1,none⟩ g).setCell ⟨b,2,none⟩ l).setCell ⟨b,3,none⟩ m) b [e,g,l,m] t:=
 (((h.set 0 e).set 1 g).set 2 l).set 3 m
def cX(w:World)(bp:Nat)(s:BA)(i:Nat)(et:TypeId)(ex:Value)(e:Ending)(w':World):Prop:=
 ∃(a b:Int) (c d ev:Value),e=.returned (.tuple #[.agg #[z_ a,.int .u8 b,c,d],ev])/\IfV c/\(∃q,d=.pointer q)/\Fr w w' (· = bp)/\
  ((∃f j,ev=.nilIface/\PAt w' bp s j/\j<=s.size/\uh w' (λg=>w.heap.size<=g) s f (z_ a) (.int .u8 b) c d/\(zH s i=.ok (f,j)\/(zH s i=.error s.size/\j=s.size)))\/
   (∃k,zH s i=.error k/\zT w' w.heap.size ev (k:Int) (.iface et ex)/\∃j,j<=s.size/\PAt w' bp s j))
def gi{w W:World}{bp:Nat}{s:BA}{k j lo:Nat}{l:Value}(hk:zH s i=.error k)(p:zT W lo l (k:Int) (.iface et ex))(hf:Fr w W (· = bp))(m:w.heap.size<lo)(m:bp<w.heap.size)(h:PAt W bp s j)(q:j<=s.size):cX w bp s i et ex (.returned (.tuple #[.agg #[O_,.int .u8 0,.nilIface,.pointer none],l])) ((((W.setCell ⟨w.heap.size,0,none⟩ (O_)).setCell ⟨w.heap.size,1,none⟩ (.int .u8 0)).setCell ⟨w.heap.size,2,none⟩ .nilIface).setCell ⟨w.heap.size,3,none⟩ (.pointer none)):=by
 have m:=Fr.four W w.heap.size (O_) (.int .u8 0) .nilIface (.pointer none);exact⟨0,0,.nilIface,.pointer none,l,rfl,.inl rfl,⟨_,rfl⟩,hf.trans m (λx hx e=>M_),.inr ⟨k,hk,(p.fr m (λg hg e=>M_)).ls M_,j,q,m.bl h M_⟩⟩
def ac{w:World}{bp:Nat}{s:BA}(h:PAt w bp s i)(l:gI w et ex)(A:bp≠0)(hs:s.size<=300)(hi:i<=s.size):Calls prog 162 #[P_ bp] w (cX w bp s i et ex):=by
 obtain⟨m,Q_⟩:=y_ (cX w bp s i et ex);rw[<- Q_.o];have O:=h.lt;have h0:=zy (show PAt (w.alloc (.cells #[O_,.int .u8 0,.nilIface,.pointer none] 189)) bp s i from C_ h _);have F0:=zy (show Fr w (w.alloc (.cells #[O_,.int .u8 0,.nilIface,.pointer none] 189)) (λx=>x=bp) from(A_ w _).alloc _);have B0:=zy (B_ w #[O_,.int .u8 0,.nilIface,.pointer none] 189);have a9:=zy (by simp:(w.alloc (.cells #[O_,.int .u8 0,.nilIface,.pointer none] 189)).heap.size=w.heap.size+1);have G0:=zy (l.fr F0 (Ne.symm A));have a1:=zy l;obtain⟨x,hx⟩:=x_ (bt s i);cases z:zh x with
 |false=>
  have J:=zy (show zH s i=.error i by unfold zH;rw[hx,z];rfl);replace z:=zy (show zh (bt s i)=false by rw[hx];exact z);replace hx:=zy hx;go_in;go_wp2_with (first
   |(go_at_call 163;apply(xK h0 G0 A hs hi).mono;rintro e w1 ⟨a,b,ev,rfl,p,hm⟩;obtain⟨g,a2,rfl,R,h1⟩:∃g,(w.alloc (.cells #[O_,.int .u8 0,.nilIface,.pointer none] 189)).heap.size<=g/\ev=.iface 179 (P_ g)/\Blk w1 g [I_ i,.iface et ex] 181/\PAt w1 bp s i:=(by rcases hm with⟨D,_⟩|⟨_,⟨g,l,m,q3⟩,Y⟩;(exact absurd (z.o.symm.trans D) D_);exact⟨g,l,m,q3,Y⟩);have u:=(p.bl B0 M_).alloc (.cells #[z_ a,.int .u8 b] 186);obtain⟨r0,r1,r2,r3⟩:=u.d4;obtain⟨g0,g1,g2,g3⟩:=u.t4;replace u:=zy u;replace p:=zy p;replace R:=zy R;replace h1:=zy h1))
  have S2:=Blk.four u (O_) (.int .u8 0) (.nilIface) (.pointer none);obtain⟨q0,l,m,q3⟩:=S2.d4;refine bodyPost_ret (v:=.tuple #[.agg #[O_,.int .u8 0,.nilIface,.pointer none],.iface 179 (P_ g)]) (by simp[results,results162,go_sem,q0,l,m,q3]) rfl ?_;rw[Q_.o];exact gi J (lo:=(w.alloc (.cells #[O_,.int .u8 0,.nilIface,.pointer none] 189)).heap.size) ⟨g,a2,rfl,R.o.alloc _⟩ ((F0.o.trans p u_).alloc _) (by rw[a9.o];omega) O (C_ h1 _) hi
 |true=>
  have a7:i+1<=s.size:=zc (xy (by rw[hx];exact z));by_cases F:bt s (i+1)=58;case neg=>
   have J:=zy (show zH s i=.error (i+1) by unfold zH;rw[hx,z,i_ rfl,n_ F]);replace z:=zy (show zh (bt s i)=true by rw[hx];exact z);replace hx:=zy hx;replace F:=zy F;go_in;go_wp2_with (first
    |(go_at_call 163;apply(xK h0 G0 A hs hi).mono;rintro e w1 ⟨a,b,ev,rfl,p,hm⟩;obtain⟨rfl,rfl,rfl,h1⟩:a=(i:Int)/\b=(x:Int)/\ev=.nilIface/\PAt w1 bp s (i+1):=(by rcases hm with⟨_,l,m,q3,Y,_⟩|⟨D,_⟩;(exact⟨l,m.trans (by rw[hx.o]),q3,Y⟩);exact absurd (z.o.symm.trans D) D_);have P1:=C_ h1 (.cells #[I_ i,U_ x] 186);have B:=(F0.o.trans p u_).alloc (.cells #[I_ i,U_ x] 186);have H:=a1.o.fr B (Ne.symm A);have N:=B_ w1 #[I_ i,U_ x] 186;have u:=(p.bl B0 M_).alloc (.cells #[I_ i,U_ x] 186);have a3:=p.size;have a5:=zy ((by simp):(w1.alloc (.cells #[I_ i,U_ x] 186)).heap.size=w1.heap.size+1);rw[a9.o]at a3;replace P1:=zy (show PAt _ bp s (i+1) from P1);revert B H N u;refine g_ λB H N u=>?_)
    |(go_at_call 99;apply(yJ 58 P1 H A hs a7 rfl D_).mono;rintro e U ⟨v2,rfl,q,hE⟩;obtain⟨g,a2,rfl,R,I⟩:∃g,(w1.alloc (.cells #[I_ i,U_ x] 186)).heap.size<=g/\v2=.iface 179 (P_ g)/\Blk U g [z_ ((i+1:Nat):Int),.iface et ex] 181/\PAt U bp s (i+1):=(by rcases hE with⟨D,_⟩|⟨_,⟨g,l,m,q3⟩,Y⟩;(exact absurd D F);exact⟨g,l,m,q3,Y⟩);have C:=q.bl u M_;obtain⟨r0,r1,r2,r3⟩:=C.d4;obtain⟨g0,g1,g2,g3⟩:=C.t4;replace C:=zy C;replace q:=zy q;replace R:=zy R;replace I:=zy I))
   have S2:=Blk.four C (O_) (.int .u8 0) (.nilIface) (.pointer none);obtain⟨q0,l,m,q3⟩:=S2.d4;refine bodyPost_ret (v:=.tuple #[.agg #[O_,.int .u8 0,.nilIface,.pointer none],.iface 179 (P_ g)]) (by simp[results,results162,go_sem,q0,l,m,q3]) rfl ?_;rw[Q_.o];exact gi J (lo:=(w1.alloc (.cells #[I_ i,U_ x] 186)).heap.size) ⟨g,a2,rfl,R⟩ (B.o.trans q u_) (by rw[a5.o];omega) O I a7
  case pos=>
  have b4:i+2<=s.size:=zc (s:=s) (i:=i+1) M_;have K:=xx (s:=s) b4;cases hp:pT s (i+2) with
  |error k=>
   have J:=zy (show zH s i=.error k by unfold zH;rw[hx,z,i_ rfl,i_ F,hp]);replace z:=zy (show zh (bt s i)=true by rw[hx];exact z);replace hx:=zy hx;replace F:=zy F;replace hp:=zy hp;go_in;go_wp2_with (first
    |(go_at_call 163;apply(xK h0 G0 A hs hi).mono;rintro e w1 ⟨a,b,ev,rfl,p,hm⟩;obtain⟨rfl,rfl,rfl,h1⟩:a=(i:Int)/\b=(x:Int)/\ev=.nilIface/\PAt w1 bp s (i+1):=(by rcases hm with⟨_,l,m,q3,Y,_⟩|⟨D,_⟩;(exact⟨l,m.trans (by rw[hx.o]),q3,Y⟩);exact absurd (z.o.symm.trans D) D_);have P1:=C_ h1 (.cells #[I_ i,U_ x] 186);have B:=(F0.o.trans p u_).alloc (.cells #[I_ i,U_ x] 186);have H:=a1.o.fr B (Ne.symm A);have N:=B_ w1 #[I_ i,U_ x] 186;have u:=(p.bl B0 M_).alloc (.cells #[I_ i,U_ x] 186);have a3:=p.size;have a5:=zy ((by simp):(w1.alloc (.cells #[I_ i,U_ x] 186)).heap.size=w1.heap.size+1);rw[a9.o]at a3;replace P1:=zy (show PAt _ bp s (i+1) from P1);revert B H N u;refine g_ λB H N u=>?_)
    |(go_at_call 99;apply(yJ 58 P1 H A hs a7 rfl D_).mono;rintro e U ⟨v2,rfl,q,hE⟩;obtain⟨rfl,I⟩:v2=.nilIface/\PAt U bp s (i+2):=(by rcases hE with⟨_,l,m,_⟩|⟨D,_⟩;(exact⟨l,m⟩);exact absurd F.o D);have a8:=q.size;rw[a5.o]at a8;have C:=q.bl u M_;have Z:=q.bl N M_;have M:=B.o.trans q u_;have G2:=zy (a1.o.fr M (Ne.symm A));replace C:=zy C;replace Z:=zy Z;replace M:=zy M;replace I:=zy I)
    |(go_at_call 67;apply(kq hs _ (i+2) l_ b4 U bp et ex I G2 A).mono;rintro e E ⟨v3,b7,_,rfl,G,hm⟩;rw[hp.o]at hm;obtain⟨⟨g,a2,rfl,R⟩,V,V,h3⟩:=hm;have X:=G.bl C M_;obtain⟨r0,r1,r2,r3⟩:=X.d4;obtain⟨g0,g1,g2,g3⟩:=X.t4;replace X:=zy X;replace G:=zy G;replace R:=zy R;replace h3:=zy h3))
   have S2:=Blk.four X (O_) (.int .u8 0) (.nilIface) (.pointer none);obtain⟨q0,l,m,q3⟩:=S2.d4;refine bodyPost_ret (v:=.tuple #[.agg #[O_,.int .u8 0,.nilIface,.pointer none],.iface 179 (P_ g)]) (by simp[results,results162,go_sem,q0,l,m,q3]) rfl ?_;rw[Q_.o];exact gi J (lo:=U.heap.size) ⟨g,a2,rfl,R⟩ (M.o.trans G u_) M_ O h3 V
  |ok r=>
  obtain⟨t,j⟩:=r;have hj:=K.1 t j hp;by_cases a0:bt s j=61;case neg=>
   have b6:=zy (show zH s i=.ok (⟨x,i,t,none⟩,j) by unfold zH;rw[hx,z,i_ rfl,i_ F,hp];simp only;rw[n_ a0]);replace z:=zy (show zh (bt s i)=true by rw[hx];exact z);replace hx:=zy hx;replace F:=zy F;replace hp:=zy hp;replace a0:=zy a0;go_in;go_wp2_with (first
    |(go_at_call 163;apply(xK h0 G0 A hs hi).mono;rintro e w1 ⟨a,b,ev,rfl,p,hm⟩;obtain⟨rfl,rfl,rfl,h1⟩:a=(i:Int)/\b=(x:Int)/\ev=.nilIface/\PAt w1 bp s (i+1):=(by rcases hm with⟨_,l,m,q3,Y,_⟩|⟨D,_⟩;(exact⟨l,m.trans (by rw[hx.o]),q3,Y⟩);exact absurd (z.o.symm.trans D) D_);have P1:=C_ h1 (.cells #[I_ i,U_ x] 186);have B:=(F0.o.trans p u_).alloc (.cells #[I_ i,U_ x] 186);have H:=a1.o.fr B (Ne.symm A);have N:=B_ w1 #[I_ i,U_ x] 186;have u:=(p.bl B0 M_).alloc (.cells #[I_ i,U_ x] 186);have a3:=p.size;have a5:=zy ((by simp):(w1.alloc (.cells #[I_ i,U_ x] 186)).heap.size=w1.heap.size+1);rw[a9.o]at a3;replace P1:=zy (show PAt _ bp s (i+1) from P1);revert B H N u;refine g_ λB H N u=>?_)
    |(go_at_call 99;apply(yJ 58 P1 H A hs a7 rfl D_).mono;rintro e U ⟨v2,rfl,q,hE⟩;obtain⟨rfl,I⟩:v2=.nilIface/\PAt U bp s (i+2):=(by rcases hE with⟨_,l,m,_⟩|⟨D,_⟩;(exact⟨l,m⟩);exact absurd F.o D);have a8:=q.size;rw[a5.o]at a8;have C:=q.bl u M_;have Z:=q.bl N M_;have M:=B.o.trans q u_;have G2:=zy (a1.o.fr M (Ne.symm A));replace C:=zy C;replace Z:=zy Z;replace M:=zy M;replace I:=zy I)
    |(go_at_call 67;apply(kq hs _ (i+2) l_ b4 U bp et ex I G2 A).mono;rintro e E ⟨v3,b7,b5,rfl,G,hm⟩;rw[hp.o]at hm;obtain⟨rfl,h3,a4⟩:=hm;obtain⟨J,K,rfl⟩:∃T x,v3=.iface T x:=(by cases a4<;>exact⟨_,_,rfl⟩);have b9:=G.size;have X:=G.bl C M_;have L3:=G.bl Z M_;have F3:=M.o.trans G u_;have l0:=L3.c0;have l1:=L3.c1;have V:=(A_ E N_).alloc (.cells #[I_ i,U_ x,.iface J K,.pointer none] 189);have a6:(E.alloc (.cells #[I_ i,U_ x,.iface J K,.pointer none] 189)).heap.size=E.heap.size+1:=(by simp);have D4:=V.bl X id;have E4:=B_ E #[I_ i,U_ x,.iface J K,.pointer none] 189;have F4:=F3.trans V v_;have P4:=V.bl h3 id;have V4:=zy ((a4.mono (Q:=λg=>E.heap.size≠g/\w.heap.size<g/\w1.heap.size<g) (λg a2 R=>M_)).fr V u_);revert D4 E4 F4;refine h_ λD4 E4 F4=>?_;replace P4:=zy (show PAt _ bp s j from P4);replace a6:=zy a6)
    |(go_at_call 100;apply(gO 61 P4 hs hj.2 rfl D_ a0).mono;rintro e w5 ⟨rfl,O,h5⟩;have D5:=O.bl D4 M_;have E5:=O.bl E4 M_;obtain⟨r0,r1,r2,r3⟩:=D5.d4;obtain⟨g0,g1,g2,g3⟩:=D5.t4;obtain⟨e0,e1,e2,e3⟩:=E5.d4;revert O h5 D5 E5;refine g_ λO h5 D5 E5=>?_))
   have S2:=Blk.four D5 (I_ i) (U_ x) (.iface J K) (.pointer none);obtain⟨q0,l,m,q3⟩:=S2.d4;refine bodyPost_ret (v:=.tuple #[.agg #[I_ i,U_ x,.iface J K,.pointer none],.nilIface]) (by simp[results,results162,go_sem,q0,l,m,q3]) rfl ?_;rw[Q_.o];have h4:=Fr.four w5 w.heap.size (I_ i) (U_ x) (.iface J K) (.pointer none);refine⟨(i:Int),(x:Int),.iface J K,.pointer none,.nilIface,rfl,.inr ⟨_,_,rfl⟩,⟨_,rfl⟩,(F4.o.trans O u_).trans h4 (λy hy e=>M_),.inl ⟨⟨x,i,t,none⟩,j,rfl,h4.bl h5 M_,hj.2,⟨rfl,rfl,?_,rfl⟩,.inl b6⟩⟩;exact((V4.o.fr O (λg hg e=>M_)).fr h4 (λg hg e=>M_)).mono (λg _ hg=>M_)
  case pos=>
   have b8:j+1<=s.size:=zc (s:=s) (i:=j) M_;have b6:=zy (show zH s i=(match pD s (j+1) 0 with|none=>.error s.size|some e=>.ok (⟨x,i,t,some (j+1,e)⟩,e)) by unfold zH;rw[hx,z,i_ rfl,i_ F,hp];simp only;rw[i_ a0];cases pD s (j+1) 0<;>rfl);replace z:=zy (show zh (bt s i)=true by rw[hx];exact z);replace hx:=zy hx;replace F:=zy F;replace hp:=zy hp;replace a0:=zy a0;go_in;go_wp2_with (first
    |(go_at_call 163;apply(xK h0 G0 A hs hi).mono;rintro e w1 ⟨a,b,ev,rfl,p,hm⟩;obtain⟨rfl,rfl,rfl,h1⟩:a=(i:Int)/\b=(x:Int)/\ev=.nilIface/\PAt w1 bp s (i+1):=(by rcases hm with⟨_,l,m,q3,Y,_⟩|⟨D,_⟩;(exact⟨l,m.trans (by rw[hx.o]),q3,Y⟩);exact absurd (z.o.symm.trans D) D_);have P1:=C_ h1 (.cells #[I_ i,U_ x] 186);have B:=(F0.o.trans p u_).alloc (.cells #[I_ i,U_ x] 186);have H:=a1.o.fr B (Ne.symm A);have N:=B_ w1 #[I_ i,U_ x] 186;have u:=(p.bl B0 M_).alloc (.cells #[I_ i,U_ x] 186);have a3:=p.size;have a5:=zy ((by simp):(w1.alloc (.cells #[I_ i,U_ x] 186)).heap.size=w1.heap.size+1);rw[a9.o]at a3;replace P1:=zy (show PAt _ bp s (i+1) from P1);revert B H N u;refine g_ λB H N u=>?_)
    |(go_at_call 99;apply(yJ 58 P1 H A hs a7 rfl D_).mono;rintro e U ⟨v2,rfl,q,hE⟩;obtain⟨rfl,I⟩:v2=.nilIface/\PAt U bp s (i+2):=(by rcases hE with⟨_,l,m,_⟩|⟨D,_⟩;(exact⟨l,m⟩);exact absurd F.o D);have a8:=q.size;rw[a5.o]at a8;have C:=q.bl u M_;have Z:=q.bl N M_;have M:=B.o.trans q u_;have G2:=zy (a1.o.fr M (Ne.symm A));replace C:=zy C;replace Z:=zy Z;replace M:=zy M;replace I:=zy I)
    |(go_at_call 67;apply(kq hs _ (i+2) l_ b4 U bp et ex I G2 A).mono;rintro e E ⟨v3,b7,b5,rfl,G,hm⟩;rw[hp.o]at hm;obtain⟨rfl,h3,a4⟩:=hm;obtain⟨J,K,rfl⟩:∃T x,v3=.iface T x:=(by cases a4<;>exact⟨_,_,rfl⟩);have b9:=G.size;have X:=G.bl C M_;have L3:=G.bl Z M_;have F3:=M.o.trans G u_;have l0:=L3.c0;have l1:=L3.c1;have V:=(A_ E N_).alloc (.cells #[I_ i,U_ x,.iface J K,.pointer none] 189);have a6:(E.alloc (.cells #[I_ i,U_ x,.iface J K,.pointer none] 189)).heap.size=E.heap.size+1:=(by simp);have D4:=V.bl X id;have E4:=B_ E #[I_ i,U_ x,.iface J K,.pointer none] 189;have F4:=F3.trans V v_;have P4:=V.bl h3 id;have V4:=zy ((a4.mono (Q:=λg=>E.heap.size≠g/\w.heap.size<g/\w1.heap.size<g) (λg a2 R=>M_)).fr V u_);revert D4 E4 F4;refine h_ λD4 E4 F4=>?_;replace P4:=zy (show PAt _ bp s j from P4);replace a6:=zy a6)
    |(go_at_call 100;apply(wP 61 P4 hs hj.2 rfl D_ a0).mono;rintro e w5 ⟨rfl,O,h5⟩;have p:=O.size;rw[a6.o]at p;have D5:=O.bl D4 M_;have E5:=zy (O.bl E4 M_);revert O h5 D5;refine h_ λO h5 D5=>?_)
    |(go_at_call 182;apply(dR h5 hs b8).mono;rintro e C ⟨I,q,G,p,M,p,rfl,F,u,D⟩;have H:=u.bl D5 M_;have B:=u.bl E5 M_;have d3:=B.cell 3;have p:=B.th 3;have A:=B.set 3 (P_ q);have z:Fr C (C.setCell ⟨E.heap.size,3,none⟩ (P_ q)) (λg=>g=E.heap.size):=(A_ C (λg=>g=E.heap.size)).setCell ⟨E.heap.size,3,none⟩ _ (λ_=>rfl);have p:=z.bl H M_;have r0:=p.cell 0;have r1:=p.cell 1;have r2:=p.cell 2;have r3:=p.cell 3;obtain⟨g0,g1,g2,g3⟩:=p.t4;have e0:=A.cell 0;have e1:=A.cell 1;have e2:=A.cell 2;have e3:=A.cell 3;simp only[am_,an_,aa_,ab_]at d3 r0 r1 r2 r3 e0 e1 e2 e3;replace p:=zy p;replace z:=zy z;replace u:=zy u;replace D:=zy D;replace F:=zy F;replace G:=zy G))
   have S2:=Blk.four p (I_ i) (U_ x) (.iface J K) (P_ q);obtain⟨q0,l,m,q3⟩:=S2.d4;refine bodyPost_ret (v:=.tuple #[.agg #[I_ i,U_ x,.iface J K,P_ q],.nilIface]) (by simp[results,results162,go_sem,q0,l,m,q3]) rfl ?_;rw[Q_.o];have h4:=Fr.four (C.setCell ⟨E.heap.size,3,none⟩ (P_ q)) w.heap.size (I_ i) (U_ x) (.iface J K) (P_ q);have p:=((((V4.o.fr O (λg hg e=>M_)).fr u (λg hg e=>M_)).fr z (λg hg e=>M_)).fr h4 (λg hg e=>M_)).mono (Q:=λg=>w.heap.size<=g) (λg _ hg=>M_);have m:=h4.bl (z.o.bl D M_) M_;have l:=h4.bl (z.o.bl F M_) M_;refine⟨(i:Int),(x:Int),.iface J K,P_ q,.nilIface,rfl,.inr ⟨_,_,rfl⟩,⟨_,rfl⟩,(((F4.o.trans O u_).trans u u_).trans z (λy hy e=>M_)).trans h4 (λy hy e=>M_),.inl ⟨⟨x,i,t,some (j+1,I)⟩,I,rfl,m,M,⟨rfl,rfl,p,?_⟩,?_⟩⟩
   .exact⟨q,.nilIface,M_,rfl,.inl rfl,l⟩
   .have hk:=G.o;rw[b6.o];cases hd:pD s (j+1) 0 with
    |none=>rw[hd]at hk;exact .inr ⟨rfl,hk⟩
    |some e=>rw[hd]at hk;simp only[Option.getD_some]at hk;subst hk;exact .inl rfl
end Go.Proofs.YtjkiencmjggakaaGreatDoor
