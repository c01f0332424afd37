import Derived.Test.YtokgeopihcopeaaGreatDoorW10
set_option linter.unusedVariables false
set_option maxHeartbeats 16000000
set_option maxRecDepth 100000
set_option linter.defProp false
set_option linter.unusedSimpArgs false
open Go.Proofs.Tryz
namespace Go.Proofs.YtokgeopihcopeaaGreatDoor
open Go.RowKit
variable {i lo hi m q g:Nat}{P S:Az}{L M:Ao}{d:PD}{t:PT}{f:PF}{w':Aw}{et:Av}{ex:Ax}{l:An}
def aJ(s:BA):∀(n i:Nat) (l:List PF) (j:Nat),yW s n i=.ok (l,j)->j<=s.size:=by
 intro n;induction n with
 |zero=>intro i l j h;cases h
 |succ n ih=>
  intro i l j h;unfold yW at h;split at h
  .cases h
  .rename_i f k hf;split at h
   .rename_i a;simp only[ae_,ad_]at h;have:=zp (s:=s) (i:=k) M_;omega
   .split at h
    .split at h
     .cases h
     .rename_i fs b hr;simp only[ae_,ad_]at h;have:=ih _ _ _ hr;omega
    .cases h
def bk{s:BA}{b:PB}{j:Nat}(h:yG s i=.ok (b,j)):j<=s.size:=by
 unfold yG at h;split at h
 .split at h
  .cases h
  .rename_i ds k hr;cases h;unfold yf at hr;split at hr
   .split at hr
    .rename_i a;simp only[ae_,ad_]at hr;have:=zp (s:=s) (i:=i+1+1) M_;omega
    .exact aJ s _ _ _ _ hr
   .cases hr
 .split at h
  .split at h
   .cases h
   .rename_i l o k hr;cases h;unfold xY at hr;split at hr
    .split at hr
     .cases hr
     .rename_i r q c;split at hr
      .split at hr
       .split at hr
        .simp only[ae_,ad_]at hr;have:=zp (s:=s) (i:=q+2) M_;omega
        .cases hr
       .cases hr
      .split at hr
       .simp only[ae_,ad_]at hr;have:=zp (s:=s) (i:=q) M_;omega
       .cases hr
    .cases hr
  .split at h
   .split at h
    .simp only[ae_,ad_]at h;have:=zp (s:=s) (i:=i+1) M_;omega
    .cases h
   .cases h
def kD(w:Aw)(P:Az)(s:BA)(ds:Ar)(xs:Ay):Prop:=
 ∀i d,ds[i]?=some d->∃c,xs[3*i]?=some (I_ d.place)/\xs[3*i+1]?=some (U_ d.letter)/\xs[3*i+2]?=some c/\yV w P s d.body c
def kD.mono{w:Aw}{Q:Az}{s:BA}{ds:Ar}{xs:Ay}(h:kD w P s ds xs)(n:∀g,g<w.heap.size->P g->Q g):kD w Q s ds xs:=λi f e=>by
 obtain⟨c,h1,a,b,k⟩:=h i f e;exact⟨c,h1,a,b,k.mono n⟩
def kD.fr{w:Aw}{s:BA}{ds:Ar}{xs:Ay}(h:kD w P s ds xs)(hf:Fr w w' S)(n:∀g,P g->¬S g):kD w' P s ds xs:=λi f e=>by
 obtain⟨c,h1,a,b,k⟩:=h i f e;exact⟨c,h1,a,b,k.fr hf n⟩
def kD.snoc{w:Aw}{s:BA}{ds:Ar}{xs:Ay}{c:Ax}(h:kD w P s ds xs)(hl:xs.length=ds.length*3)(hc:yV w P s d.body c):kD w P s (ds++[d]) (xs++[I_ d.place,U_ d.letter,c]):=λi f' e=>by
 by_cases hi:i<ds.length
 .rw[ar_ hi]at e;obtain⟨a,h1,b,k,n⟩:=h i f' e;exact⟨a,by rw[ar_ M_];exact h1,by rw[ar_ M_];exact b,by rw[ar_ M_];exact k,n⟩
 .have a:i=ds.length:=by
   have:=(ak_.1 e).1;simp at this;omega
  subst a;rw[aw_ l_,Nat.sub_self]at e;simp only[aa_,af_]at e;subst e;refine⟨c,?_,?_,?_,hc⟩
  .rw[aw_ M_,show 3*ds.length-xs.length=0 by omega];rfl
  .rw[aw_ M_,show 3*ds.length+1-xs.length=1 by omega];rfl
  .rw[aw_ M_,show 3*ds.length+2-xs.length=2 by omega];rfl
def CX(w:Aw)(P:Az)(s:BA)(ds:Ar)(t:PT)(sv rv:Ax):Prop:=
 ∃xs,w.ownsRow 0 178 3 sv ds.length xs/\(∀g,sv.ownBlock=some g->P g)/\kD w P s ds xs/\TyV w P t rv
def rI(w:Aw)(bp:Nat)(s:BA)(et:Av)(ex:Ax)(e:Ak)(w':Aw):Prop:=
 ∃(sv rv ev:Value),e=.returned (.tuple #[.agg #[sv,rv],ev])/\(∃a n c,sv=.slice a n c)/\IfV rv/\Fr w w' (· = bp)/\
 match ze s with
 | .ok (ds,t)=>ev=.nilIface/\CX w' (λg=>w.heap.size<=g) s ds t sv rv
 | .error k=>zO w' w.heap.size ev (k:Int) (.iface et ex)
def mo{s:BA}{ds:Ar}{j:Nat}(h:yi s 6 0=jM ds (yi s (6-ds.length) j))(hl:ds.length<=6)(hn:¬(ds.length<6/\atD s j=true)):ze s=match pT s j with | .error k=>.error k | .ok (t,k)=>if k<s.size then .error k else .ok (ds,t):=by
 unfold ze;rw[h];by_cases a:ds.length<6
 .have ha:atD s j=false:=by
   cases hb:atD s j with
   |false=>rfl
   |true=>exact absurd ⟨a,hb⟩ hn
  rw[show 6-ds.length=(5-ds.length)+1 by omega,wy];unfold atD at ha;by_cases hc:zY (bt s j)=true/\j+1<s.size
  .have a:bt s (j+1)≠61:=λe=>by rw[hc.1,decide_eq_true hc.2,decide_eq_true e]at ha;cases ha
   rw[i_ hc,n_ a,iz (by simpa[zY] using hc.1)];simp only;rw[i_ hc.2]
  .rw[n_ hc];simp only;cases pT s j with
   |error k=>rfl
   |ok r=>rfl
 .rw[show 6-ds.length=0 by omega,yi,jM,bg_];simp only;cases pT s j with
  |error k=>rfl
  |ok r=>rfl
structure SMm(w:Aw)(bp:Nat)(s:BA)(j:Nat)(sv:Ax)(ds:Ar)(xs:Ay)(W:Aw):Prop where
 A:AM w bp s j (w.heap.size+1) [sv,.nilIface] 48 178 3 sv ds.length xs W
 D:kD W (λg=>w.heap.size+1+1<=g/\sv.ownBlock≠some g) s ds xs
 R:Blk W w.heap.size [L_,.nilIface] 48
section
variable {w W W':Aw} {bp:Nat} {s:BA} {j j':Nat} {sv:Ax} {ds:Ar} {xs:Ay}
def SMm.call(M:SMm w bp s j sv ds xs W)(h:PAt W' bp s j')(hf:Fr W W' (· = bp)):SMm w bp s j' sv ds xs W':=by
 have h1:=M.A.lt;exact⟨M.A.call h hf,M.D.fr hf (λg hg e=>M_),hf.bl M.R M_⟩
def SMm.alloc(M:SMm w bp s j sv ds xs W)(o:Obj):SMm w bp s j sv ds xs (W.alloc o):=M.call (E_ M.A.here o) ((A_ W _).alloc o)
def SMm.si(M:SMm w bp s j sv ds xs W)(a:zq W W'):SMm w bp s j sv ds xs W':=M.call (M.A.here.si a) ((A_ W _).si a)
def SMm.item(M:SMm w bp s j sv ds xs W){o:Obj}{k:Aw}{h c:Ax}(hg:(W.alloc o).grownBy k sv.ownBlock)(ho:k.ownsRow (w.heap.size+1+1) 178 3 h (ds.length+1) (xs++[I_ d.place,U_ d.letter,c]))(hl:h.ownBlock=sv.ownBlock\/h.ownBlock=some (W.alloc o).heap.size)(hv:yV W (λg=>w.heap.size+1+1<=g/\sv.ownBlock≠some g) s d.body c):SMm w bp s j h (ds++[d]) (xs++[I_ d.place,U_ d.letter,c]) (k.setCell ⟨w.heap.size+1,0,none⟩ h):=by
 obtain⟨h1,k,p⟩:=M.A.item ((A_ W _).alloc o) hg ho hl 0;have off:∀g,(w.heap.size+1+1<=g/\sv.ownBlock≠some g)/\g<W.heap.size->¬(sv.ownBlock=some g\/g=w.heap.size+1):=λg hg e=>by
  rcases e with e|e
  .exact hg.1.2 e
  .have:=hg.1.1;omega
 have n:∀g,(w.heap.size+1+1<=g/\sv.ownBlock≠some g)/\g<W.heap.size->w.heap.size+1+1<=g/\h.ownBlock≠some g:=λg hg=>⟨hg.1.1,λe=>by
  rcases(p g e).2 with q|q
  .exact hg.1.2 q
  .have:=hg.2;omega⟩
 refine⟨?_,kD.snoc (((M.D.mono (Q:=λg=>(w.heap.size+1+1<=g/\sv.ownBlock≠some g)/\g<W.heap.size) (λ_ a b=>⟨b,a⟩)).fr k off).mono (λg _ hg=>n g hg)) M.A.row.1 (((hv.mono (Q:=λg=>(w.heap.size+1+1<=g/\sv.ownBlock≠some g)/\g<W.heap.size) (λ_ a b=>⟨b,a⟩)).fr k off).mono (λg _ hg=>n g hg)),k.bl M.R (λe=>?_)⟩
 .rw[ag_,ao_];exact h1
 .rcases e with e|e
  .have:=M.A.row.lt _ e;omega
  .omega
end
def GI:Tryz.prog.underlying 44=some (.slice 178):=K_
def UZ:(Tryz.prog.info? 178).map (λi=>(i.zero,i.size,i.bytes))=some (some (.agg #[O_,.int .u8 0,.nilIface]),3,32):=K_
def Gm(w:Aw)(bp:Nat)(s:BA)(m:Nat)(W:Aw):Prop:=
 ∃j sv ds xs,SMm w bp s j sv ds xs W/\j<=s.size/\ds.length<=6/\7-ds.length<=m/\yi s 6 0=jM ds (yi s (6-ds.length) j)
def Fr.pa(w:Aw)(b:Nat)(a c:Ax):Fr w ((w.setCell ⟨b,0,none⟩ a).setCell ⟨b,1,none⟩ c) (λg=>g=b):=
 ((A_ w (λg=>g=b)).setCell ⟨b,0,none⟩ a (λ_=>rfl)).setCell ⟨b,1,none⟩ c (λ_=>rfl)
def Blk.pa{w:Aw}{b t:Nat}{u0 a:Ax}(h:Blk w b [u0,a] t)(a c:Ax):Blk ((w.setCell ⟨b,0,none⟩ a).setCell ⟨b,1,none⟩ c) b [a,c] t:=(h.set 0 a).set 1 c
def W_:=@Blk.pa
def jg{w W:Aw}{bp:Nat}{s:BA}{k:Nat}{a:Ax}(hk:ze s=.error k)(c:zO W lo a (k:Int) (.iface et ex))(hf:Fr w W (· = bp))(h:w.heap.size<lo):rI w bp s et ex (.returned (.tuple #[.agg #[L_,.nilIface],a])) ((W.setCell ⟨w.heap.size,0,none⟩ (L_)).setCell ⟨w.heap.size,1,none⟩ .nilIface):=by
 have b:=Fr.pa W w.heap.size (L_) .nilIface;refine⟨_,_,a,rfl,⟨_,_,_,rfl⟩,.inl rfl,hf.trans b (λx hx e=>M_),?_⟩;rw[hk];exact(c.fr b (λg hg e=>M_)).ls M_
def cwak1_{p:Prop}(h:p:=by
 (first|(have:=cc1;rw[n_ h59]at hpd;have herr:=zy (show ze s=.error j2 by unfold ze;rw[hpd]))|(have herr:=zy (show ze s=.error k by unfold ze;rw[hpd,hp])));replace hp:=zy hp;(try have:=cc1;replace h59:=zy h59);go_wp2_with (first
  |(go_at_call 68;apply hC1.o.mono;rintro e w2 ⟨a,b,c,ev,rfl,hIc,hf2,hm⟩;rw[hp.o]at hm;(try have:=cc1;simp only[]at hm;rw[n_ h59.o]at hm);obtain⟨⟨g,hg1,rfl,hg2⟩,_⟩:=hm;rcases hIc with rfl|⟨cT,cx,rfl⟩;have R3:=(hf2.bl M1.o.R M_).alloc (.cells #[Z_ a,.int .u8 b,.nilIface] 178);have r0:=R3.c0;have r1:=R3.c1;have g0:=R3.th 0;have g1:=R3.th 1;replace R3:=zy R3;replace hf2:=zy hf2;replace hg2:=zy hg2;rotate_left;have R3:=(hf2.bl M1.o.R M_).alloc (.cells #[Z_ a,.int .u8 b,.iface cT cx] 178);have r0:=R3.c0;have r1:=R3.c1;have g0:=R3.th 0;have g1:=R3.th 1;revert hf2 hg2 R3;refine h_ λhf2 hg2 R3=>?_))
 all_goals
  have S2:=W_ R3.o (L_) .nilIface;have q0:=S2.c0;have q1:=S2.c1;refine bodyPost_ret (v:=.tuple #[.agg #[L_,.nilIface],.iface 184 (P_ g)]) xm_ rfl ?_;rw[Q_.o];exact jg herr.o (lo:=w1.heap.size) ⟨g,hg1,rfl,hg2.o.alloc _⟩ ((M1.o.A.fr.trans hf2.o u_).alloc _) M_):p:=h
def ak{w:Aw}{bp:Nat}{s:BA}(h:PAt w bp s 0)(B:pW w et ex)(E:bp≠0)(hs:s.size<=300):Calls prog 40 #[P_ bp] w (rI w bp s et ex):=by
 obtain⟨b5,Q_⟩:=y_ (rI w bp s et ex);rw[<- Q_.o];have a5:=h.lt;have start:Gm w bp s 7 ((w.alloc (.cells #[L_,.nilIface] 48)).alloc (.cells #[L_,.nilIface] 48)):=by
  refine⟨0,L_,[],[],⟨⟨E_ (E_ h _) _,((A_ w _).alloc _).alloc _,a5,M_,by simp,?_,World.ownsRow_nil _ _ _ _⟩,λi d e=>by simp at e,(B_ w #[L_,.nilIface] 48).alloc _⟩,am_ _,by simp,by simp,(rD _).symm⟩;have:=B_ (w.alloc (.cells #[L_,.nilIface] 48)) #[L_,.nilIface] 48;simpa using this
 replace start:=zy start;have b7:=World.block_lt_of_cell? w ⟨0,0,none⟩ B;replace B:=zy B;clear h;go_in;go_wp2_with fail;go_loopg [] 7 (λm W=>Gm w bp s m W);case atStart=>exact start.o
 case round=>
  clear start;obtain⟨j,sv,ds,xs,M,I,a7,hm,hpd⟩:=hrel;obtain⟨J,K,rfl⟩:=zw M.A.row;have a2:=M.A.fr.size;have b6:=M.A.hB;have s0:=M.A.b.c0;replace M:=zy M;by_cases Y:ds.length<6/\atD s j=true
  .obtain⟨X,C⟩:=Y;have a0:(ds.length:Int)<6:=M_;have hd:zY (bt s j)=true/\j+1<s.size/\bt s (j+1)=61:=by
    unfold atD at C;simpa[and_assoc] using C
   have n:j+2<=s.size:=M_;rw[show 6-ds.length=(5-ds.length)+1 by omega,wy,i_ ⟨hd.1,hd.2.1⟩,i_ hd.2.2]at hpd;replace C:=zy C;obtain⟨x,hx⟩:=x_ (bt s j);rw[hx]at hpd;replace hx:=zy hx;clear hd;replace hpd:=zy hpd;go_upto_region 3 with(go_at_call 67;refine(jW M.o.A.here hs I).mono ?_;rintro e w1 ⟨rfl,T⟩;rw[C.o];have M1:=M.o.si T;have hC1:=zy (lY M1.A.here (B.o.fr M1.A.fr (Ne.symm E)) E hs n (λpb q e=>bk e));have a3:=M1.A.hB;replace M1:=zy M1);replace hpd:=hpd.o;cases hp:yG s (j+2) with
   |error k=>
    exact cwak1_
   |ok r=>
    obtain⟨pb,j2⟩:=r;rw[hp]at hpd;simp only at hpd;by_cases h59:bt s j2=59
    .rw[i_ h59]at hpd;replace hpd:=zy hpd;replace hp:=zy hp;replace h59:=zy h59;obtain⟨ti,H,N,O,U⟩:=info_parts UZ;go_wp2_with (first
      |(go_at_call 68;refine hC1.o.mono ?_;rintro e w2 ⟨a,b,c,ev,rfl,hIc,hf2,hm⟩;rw[hp.o]at hm;simp only[]at hm;rw[i_ h59.o,hx.o]at hm;obtain⟨rfl,p,V,rfl,rfl,hv⟩:=hm;obtain⟨cT,cx,rfl⟩:=hv.iface;have n:=(M1.o.call p hf2).alloc (.cells #[I_ j,U_ x,.iface cT cx] 178);have b4:=zy ((hv.mono (Q:=λg=>w.heap.size+1+1<=g/\(Value.slice J ds.length K).ownBlock≠some g) (λg _ hg=>⟨M_,λe=>o1_ (M1.o.A.row.lt g e)⟩)).fr ((A_ w2 N_).alloc (.cells #[I_ j,U_ x,.iface cT cx] 178)) u_);have u:=B_ w2 #[I_ j,U_ x,.iface cT cx] 178;have z:=n.A.b.c0;obtain⟨z,z,z⟩:=u.d3;have z:=(M1.o.call p hf2).A.hB;replace n:=zy n;clear p hv u hIc hf2)
      |(at_builtin;go_must (refine wpList_append_own_at _ rfl _ _ 44 rfl (w.heap.size+1+1) 178 ti _ 3 32 GI H N O U rfl D_ (.slice J ds.length K) ds.length xs rfl ?hown _ 1 1 [I_ j,U_ x,.iface cT cx] rfl rfl (zK _ #[I_ j,U_ x,.iface cT cx] _ _ ?nn) ?one ?b1 ?b2 ?b3 ?_)
        case hown=>exact World.ownsRow.alloc n.o.A.row _
        case nn=>simp
        case one=>simp[Value.oneCell']
        case b1=>unfold maxLen;omega
        case b2=>omega
        case b3=>simp;omega
        intro v5 w5 F z Z G
        have p:=n.o.item (d:=⟨x,j,pb⟩) z F G b4.o
        have u:=n.o.A.ie ((A_ _ _).alloc _) z
        have n:=u.c0
        have f5:=u.th 0
        obtain⟨n,n,rfl⟩:=zg F M_
        clear z G Z F u
        replace p:=zy p))
     go_roundg (7-(ds.length+1));case measure=>omega
     case rel=>exact⟨j2+1,_,ds++[⟨x,j,pb⟩],_,p.o,V,by rw[ag_,ao_];omega,by rw[ag_,ao_];omega,by rw[ag_,ao_,show 6-(ds.length+1)=5-ds.length by omega];exact hpd.o⟩
    .have cc1:=Nat;exact cwak1_
  .have Z:=zy (mo hpd a7 Y);clear hpd;rcases Nat.lt_or_ge ds.length 6 with X|X
   rotate_left
   have a0:¬((ds.length:Int)<6):=M_;have hC1:=zy (kE hs _ j l_ I _ bp et ex M.o.A.here (B.o.fr M.o.A.fr (Ne.symm E)) E);have M1:=M;have a8:wr.heap.size<=wr.heap.size:=l_;go_upto_region 7 with fail
   rotate_left
   have a0:(ds.length:Int)<6:=M_;have C:=zy (show atD s j=false by cases h:atD s j;exact rfl;exact absurd ⟨X,h⟩ Y);go_upto_region 7 with(go_at_call 67;refine(jW M.o.A.here hs I).mono ?_;rintro e w1 ⟨rfl,T⟩;rw[C.o];have M1:=M.o.si T;have hC1:=zy (kE hs _ j l_ I _ bp et ex M1.A.here (B.o.fr M1.A.fr (Ne.symm E)) E);have a3:=M1.A.hB;replace M1:=zy M1;have a8:=((A_ wr N_).si T).size);all_goals
    have a4:=(xV (s:=s) I);cases hp:pT s j with
    |error k=>
     have herr:=zy (show ze s=.error k by rw[Z.o,hp]);replace hp:=zy hp;go_wp2_with (first
      |(go_at_call 69;refine hC1.o.mono ?_;rintro e z ⟨v,ev,_,rfl,u,hm⟩;rw[hp.o]at hm;obtain⟨⟨g,hg1,rfl,hg2⟩,_⟩:=hm;have R3:=u.bl M1.o.R M_;have r0:=R3.c0;have r1:=R3.c1;have g0:=R3.th 0;have g1:=R3.th 1;replace R3:=zy R3;replace u:=zy u;replace hg2:=zy hg2))
     have S2:=W_ R3.o (L_) .nilIface;have q0:=S2.c0;have q1:=S2.c1;refine bodyPost_ret (v:=.tuple #[.agg #[L_,.nilIface],.iface 184 (P_ g)]) xm_ rfl ?_;rw[Q_.o];have a2:=M1.o.A.hB;exact jg herr.o (lo:=wr.heap.size) ⟨g,M_,rfl,hg2.o⟩ (M1.o.A.fr.trans u.o u_) M_
    |ok r=>
     obtain⟨t,k⟩:=r;have hk:=a4.1 t k hp;replace hp:=zy hp;go_upto_region 10 with(go_at_call 69;refine hC1.o.mono ?_;rintro e z ⟨v,ev,_,rfl,u,hm⟩;rw[hp.o]at hm;obtain⟨rfl,h3,hv⟩:=hm;obtain⟨G,H,rfl⟩:=hv.iface;have F:=M1.o.call h3 u;have c0:=F.A.here.c0;have c1:=F.A.here.c1;have hV:=zy (hv.mono (Q:=λg=>w.heap.size+1+1<=g) (λg _ hg=>M_));have C:=u.size;replace F:=zy F;clear u h3 hv);by_cases a1:k<s.size
     .have herr:=zy (show ze s=.error k by rw[Z.o,hp.o];simp only;rw[i_ a1]);have a6:(k:Int)<(s.size:Int):=M_;go_quiet (fail);have n:=F.o.si (zq.drewN z nq);generalize O:z.drewN nq=W4 at n⊢;have u:W4.heap.size=z.heap.size:=by rw[<- O];rfl
      clear O;have u:=zy (vy n.A.here (B.o.fr n.A.fr (Ne.symm E)));replace n:=zy n;go_wp2_with (go_at_call 70;refine u.o.mono ?_;rintro e w5 ⟨v5,rfl,⟨g,hg1,rfl,hg2⟩,N⟩;have R3:=N.bl n.o.R id;have r0:=R3.c0;have r1:=R3.c1;have g0:=R3.th 0;have g1:=R3.th 1;replace R3:=zy R3;replace N:=zy N;replace hg2:=zy hg2);have S2:=W_ R3.o (L_) .nilIface;have q0:=S2.c0;have q1:=S2.c1;refine bodyPost_ret (v:=.tuple #[.agg #[L_,.nilIface],.iface 184 (P_ g)]) xm_ rfl ?_;rw[Q_.o];have a2:=n.o.A.hB;exact jg herr.o (lo:=W4.heap.size) ⟨g,hg1,rfl,hg2.o⟩ (n.o.A.fr.trans N.o v_) M_
     .have a9:=zy (show ze s=.ok (ds,t) by rw[Z.o,hp.o];simp only;rw[n_ a1]);have a6:¬((k:Int)<(s.size:Int)):=M_;go_quiet (fail);have n:=F.o.si (zq.drewN z nq);have V:=hV.o.fr ((A_ z N_).si (zq.drewN z nq)) u_;generalize O:z.drewN nq=W4 at n V⊢;clear O;have p:=n.A.put 1 (.iface G H);have u:Fr W4 (W4.setCell ⟨w.heap.size+1,1,none⟩ (.iface G H)) (λg=>g=w.heap.size+1):=(A_ W4 (λg=>g=w.heap.size+1)).setCell ⟨w.heap.size+1,1,none⟩ _ (λ_=>rfl);have R3:=u.bl n.R M_;have C:=n.A.b.cell 1;have z:=n.A.b.th 1;have z:=p.b.cell 0;have B:=p.b.cell 1;have r0:=R3.cell 0;have r1:=R3.cell 1;have g0:=R3.th 0;have g1:=R3.th 1;simp only[an_,ap_,aa_,ab_]at C z B r0 r1;have U:=n.D.fr u (λg hg e=>M_);have V5:=zy (V.fr u (λg hg e=>M_));replace p:=zy p;replace n:=zy n;replace U:=zy U;replace R3:=zy R3;clear u V;go_wp2_with fail;have S2:=W_ R3.o (.slice J ds.length K) (.iface G H);have q0:=S2.c0;have q1:=S2.c1;refine bodyPost_ret (v:=.tuple #[.agg #[.slice J ds.length K,.iface G H],.nilIface]) xm_ rfl ?_;rw[Q_.o];have N:=Fr.pa (W4.setCell ⟨w.heap.size+1,1,none⟩ (.iface G H)) w.heap.size (.slice J ds.length K) (.iface G H);refine⟨_,_,_,rfl,⟨_,_,_,rfl⟩,.inr ⟨_,_,rfl⟩,p.o.fr.trans N (λy hy e=>M_),?_⟩;rw[a9.o];refine⟨rfl,xs,yl (zj p.o.row N (λg hg e=>o1_ (p.o.row.lt g hg))),λg hg=>o1_ (p.o.row.lt g hg),(U.o.fr N (λg hg e=>M_)).mono (λg _ hg=>o1_ hg.1),(V5.o.fr N (λg hg e=>M_)).mono (λg _ hg=>M_)⟩
def vX(m:Int)(L:Ao):Int:=L.foldl (λ(m:Int) (p:Nat)=>zF (p:Int) m) m
def yF(m:Int)(L M:Ao):vX m (L++M)=vX (vX m L) M:=by simp[vX]
def kG(m:Int)(p:Nat)(L:Ao):vX m (p::L)=vX (zF (p:Int) m) L:=rfl
def iM(a b:Nat)(m:Int):zF (a:Int) (zF (b:Int) m)=zF (b:Int) (zF (a:Int) m):=by
 unfold zF;by_cases h1:m<0\/(b:Int)<m<;>by_cases c:m<0\/(a:Int)<m
 .rw[i_ h1,i_ c];split<;>split<;>omega
 .rw[i_ h1,n_ c];split<;>(try split)<;>omega
 .rw[n_ h1,i_ c];split<;>omega
 .rw[n_ h1,n_ c,n_ h1]
def fI(p:Nat)(L:Ao):∀m,vX (zF (p:Int) m) L=zF (p:Int) (vX m L):=by
 induction L with
 |nil=>intro m;rfl
 |cons a r ih=>intro m;rw[kG,kG,iM,ih]
def Wj(L:Ao):∀n:Nat,∃x:Nat,vX (n:Int) L=(x:Int)/\(x=n\/x∈L)/\x<=n/\∀y∈L,x<=y:=by
 induction L with
 |nil=>intro n;exact⟨n,rfl,.inl rfl,l_,λy h=>by simp at h⟩
 |cons a r ih=>
  intro n;by_cases h:a<n
  .obtain⟨x,h1,b,c,e⟩:=ih a;refine⟨x,?_,.inr ?_,M_,λy hy=>?_⟩
   .rw[kG,show zF (a:Int) (n:Int)=(a:Int) by unfold zF;rw[i_ (.inr M_)]];exact h1
   .rcases b with b|b
    .rw[b];simp
    .simp[b]
   .rcases aq_.1 hy with rfl|hy
    .exact c
    .exact e y hy
  .obtain⟨x,h1,b,c,e⟩:=ih n;refine⟨x,?_,?_,c,λy hy=>?_⟩
   .rw[kG,show zF (a:Int) (n:Int)=(n:Int) by unfold zF;rw[n_ M_]];exact h1
   .rcases b with b|b
    .exact .inl b
    .exact .inr (by simp[b])
   .rcases aq_.1 hy with rfl|hy
    .omega
    .exact e y hy
def gA(L:Ao):(L=[]/\vX (-1) L = -1)\/∃x∈L,vX (-1) L=(x:Int)/\∀y∈L,x<=y:=by
 cases L with
 |nil=>exact .inl ⟨rfl,rfl⟩
 |cons a r=>
  right;obtain⟨x,h1,b,c,e⟩:=Wj r a;refine⟨x,?_,?_,λy hy=>?_⟩
  .rcases b with b|b
   .rw[b];simp
   .simp[b]
  .rw[kG,show zF (a:Int) (-1)=(a:Int) by unfold zF;rw[i_ (.inl M_)]];exact h1
  .rcases aq_.1 hy with rfl|hy
   .exact c
   .exact e y hy
def tI(h:∀x,x∈L↔x∈M):vX (-1) L=vX (-1) M:=by
 rcases gA L with⟨rfl,e⟩|⟨x,hx,e,hl⟩
 .rcases gA M with⟨rfl,a⟩|⟨y,hy,_,_⟩
  .rfl
  .exact absurd ((h y).2 hy) x6_
 .rcases gA M with⟨rfl,a⟩|⟨y,hy,a,hm⟩
  .exact absurd ((h x).1 hx) x6_
  .have h1:=hl y ((h y).2 hy);have b:=hm x ((h x).1 hx);rw[e,a];omega
def Asc(lo hi:Nat):List Nat->Prop
 | []=>lo<=hi
 |x::r=>lo<=x/\Asc (x+1) hi r
def Asc.le(h:Asc lo hi L):lo<=hi:=by
 induction L generalizing lo with
 |nil=>exact h
 |cons x r ih=>have:=ih h.2;have:=h.1;omega
def Asc.up{a:Nat}(h:Asc lo hi L)(hl:a<=lo):Asc a hi L:=by
 cases L with
 |nil=>exact al_ hl h
 |cons x r=>exact⟨al_ hl h.1,h.2⟩
def Asc.wide{a:Nat}(h:Asc lo hi L)(hl:hi<=a):Asc lo a L:=by
 induction L generalizing lo with
 |nil=>exact al_ h hl
 |cons x r ih=>exact⟨h.1,ih h.2⟩
def Asc.append{a:Nat}(h:Asc lo a L)(k:Asc a hi M):Asc lo hi (L++M):=by
 induction L generalizing lo with
 |nil=>exact k.up h
 |cons x r ih=>exact⟨h.1,ih h.2⟩
def Asc.ge(h:Asc lo hi L):∀y∈L,lo<=y:=by
 induction L generalizing lo with
 |nil=>intro y hy;simp at hy
 |cons x r ih=>
  intro y hy;rcases aq_.1 hy with rfl|hy
  .exact h.1
  .have:=ih h.2 y hy;have:=h.1;omega
def Asc.ite{p:Nat}{c:Prop}[Decidable c](h:lo<=p)(h2:p+1<=hi):Asc lo hi (if c then [p] else []):=by
 split
 .exact⟨h,h2⟩
 .show lo<=hi;omega
def Asc.filter{l:As}(p:Nat×Nat->Bool)(h:Asc lo hi (l.map Prod.snd)):Asc lo hi ((l.filter p).map Prod.snd):=by
 induction l generalizing lo with
 |nil=>exact h
 |cons x r ih=>
  rw[List.filter_cons];split
  .exact⟨h.1,ih h.2⟩
  .exact(ih h.2).up (o1_ h.1)
def mL:List Nat->Int
 | []=>-1
 |x::_=>(x:Int)
def lD(h:Asc lo hi L):vX (-1) L=mL L:=by
 cases L with
 |nil=>rfl
 |cons x r=>
  rcases gA (x::r) with⟨e,_⟩|⟨y,hy,e,hl⟩
  .cases e
  .rw[e];have h1:=hl x x6_;rcases aq_.1 hy with rfl|hy
   .rfl
   .have:=h.2.ge y hy;exact absurd h1 M_
def vg(env:Au)(us:As):List Nat:=(us.filter (λu=>(env u.1).isNone)).map Prod.snd
def rZ(seen:Ao):List PF->List Nat
 | []=>[]
 |f::r=>(if f.letter∈seen then [f.place] else [])++rZ (seen++[f.letter]) r
def qg(seen:Ao):List (Nat×Nat)->List Nat
 | []=>[]
 |q::r=>(if q.1∈seen then [q.2] else [])++qg (seen++[q.1]) r
def pC(l:As):Option (Nat×Nat)->List Nat
 |none=>[]
 |some (c,p)=>if c∈l.map Prod.fst then [] else [p]
def PB.dup:PB->List Nat
 | .recd fs=>rZ [] fs
 | .enum l o=>qg [] l++pC l o
 | .bytes _=>[]
def uq(seen:Ao):List PD->List Nat
 | []=>[]
 |d::r=>d.body.dup++(if d.letter∈seen then [d.place] else [])++uq (seen++[d.letter]) r
def cR(c:Prop)[Decidable c](p:Nat)(m:Int):vX m (if c then [p] else [])=if c then zF (p:Int) m else m:=by
 split<;>rfl
def QG(fs:An):∀a m,wrF a fs m=vX m (rZ a fs):=by
 induction fs with
 |nil=>intro a m;rfl
 |cons f r ih=>intro a m;rw[wrF,rZ,ih,yF,cR]
def QK(l:As):∀a m,wrS a l m=vX m (qg a l):=by
 induction l with
 |nil=>intro a m;rfl
 |cons f r ih=>intro a m;rw[wrS,qg,ih,yF,cR]
def PB.wr_minf(b:PB)(m:Int):b.wr m=vX m b.dup:=by
 cases b with
 |recd fs=>exact QG fs [] m
 |bytes n=>rfl
 |enum l o=>
  show wrE l o m=vX m (qg [] l++pC l o);rw[yF,<- QK]
  match o with
  |none=>rfl
  |some (c,p)=>
   simp only[wrE,pC];split<;>rfl
def Qh(ds:Ar):∀a m,qy a ds m=vX m (uq a ds):=by
 induction ds with
 |nil=>intro a m;rfl
 |cons d r ih=>intro a m;rw[qy,uq,ih,yF,yF,cR,PB.wr_minf]
def QJ(env:Au)(us:As):∀m,wrU env us m=vX m (vg env us):=by
 induction us with
 |nil=>intro m;rfl
 |cons u r ih=>
  intro m;have h:=ih (if (env u.1).isNone=true then zF (u.2:Int) m else m);show wrU env r (if (env u.1).isNone=true then zF (u.2:Int) m else m)=_;rw[h];unfold vg;rw[List.filter_cons];split<;>rfl
def kh(env:Au)(seen:Ao):List PF->List Nat
 | []=>[]
 |f::r=>(if f.letter∈seen then [f.place] else [])++(vg env (zZ f.ty)++kh env (seen++[f.letter]) r)
def qc(env:Au):PB->List Nat
 | .recd fs=>kh env [] fs
 | .enum l o=>qg [] l++pC l o
 | .bytes _=>[]
def ke(env:Au)(seen:Ao):List PD->List Nat
 | []=>[]
 |d::r=>(if d.letter∈seen then [d.place] else [])++(qc env d.body++ke env (seen++[d.letter]) r)
def xL(ds:Ar)(t:PT):List Nat:=ke (zx ds) [] ds++vg (zx ds) (zZ t)
def qH(env:Au)(a b:As):vg env (a++b)=vg env a++vg env b:=by simp[vg]
def oF(env:Au)(fs:An)(x:Nat):∀a,x∈kh env a fs↔x∈rZ a fs\/x∈vg env (zX (fs.map PF.ty)):=by
 induction fs with
 |nil=>intro a;simp[kh,rZ,zX,vg]
 |cons f r ih=>
  intro a;rw[kh,rZ,a0_,zX,qH];simp only[a4_,ih];constructor
  .rintro(h|h|h|h)<;>simp[h]
  .rintro((h|h)|h|h)<;>simp[h]
def Qf(env:Au)(b:PB)(x:Nat):x∈qc env b↔x∈b.dup\/x∈vg env b.us:=by
 cases b with
 |recd fs=>exact oF env fs x []
 |enum l o=>simp[qc,PB.dup,PB.us,vg]
 |bytes n=>simp[qc,PB.dup,PB.us,vg]
def oR(env:Au)(ds:Ar)(x:Nat):∀a,x∈ke env a ds↔x∈uq a ds\/x∈vg env (jm ds):=by
 induction ds with
 |nil=>intro a;simp[ke,uq,jm,vg]
 |cons d r ih=>
  intro a;rw[ke,uq,jm,qH];simp only[a4_,ih,Qf];constructor
  .rintro(h|(h|h)|h|h)<;>simp[h]
  .rintro(((h|h)|h)|h|h)<;>simp[h]
def Yg(ds:Ar)(t:PT):wrU (zx ds) (jm ds++zZ t) (qy [] ds (-1))=vX (-1) (xL ds t):=by
 rw[QJ,Qh,<- yF];refine tI (λx=>?_);simp only[xL,qH,a4_,oR,or_assoc]
mutual
def xj:PT->List Nat
 | .leaf _ _=>[]
 | .wrap _ _ t=>xj t
 | .alts _ ts=>jX [] ts
def jX(seen:Ao):List PT->List Nat
 | []=>[]
 |t::r=>(if t.kind=40\/t.kind∈seen then [t.place] else [])++(xj t++jX (seen++[t.kind]) r)
end
def ir(a:Ao)(t:PT)(m:Int):qG a t m=if t.kind=40\/t.kind∈a then zF (t.place:Int) m else m:=by
 unfold qG zF;by_cases h:t.kind=40\/t.kind∈a
 .rw[i_ h];by_cases a:m<0\/(t.place:Int)<m
  .rw[i_ ⟨h,a⟩,i_ a]
  .rw[n_ (λq=>a q.2),n_ a]
 .rw[n_ (λq=>h q.1),n_ h]
mutual
def bV:∀(t:PT) (m:Int),mix t m=vX m (xj t)
 | .leaf c p,m=>by simp[mix,xj,vX]
 | .wrap c p t,m=>by rw[mix,xj];exact bV t m
 | .alts p ts,m=>by rw[mix,xj];exact tS ts [] m
def tS:∀(ts:List PT) (a:List Nat) (m:Int),qr a ts m=vX m (jX a ts)
 | [],a,m=>by simp[qr,jX,vX]
 |t::r,a,m=>by
  rw[qr,jX,yF,yF,tS r,ir,bV t m,cR];split
  .rw[fI,fI,fI]
  .rfl
end
def PB.fs:PB->List PF
 | .recd fs=>fs
 | _=>[]
def zk(ds:Ar):List PF:=ds.flatMap (λd=>d.body.fs)
def vz(ds:Ar)(t:PT):List Nat:=(zk ds).flatMap (λf=>xj f.ty)++xj t
def Jp(fs:An):∀m,kW fs m=vX m (fs.flatMap (λf=>xj f.ty)):=by
 induction fs with
 |nil=>intro m;rfl
 |cons f r ih=>
  intro m;rw[a9_,yF,<- bV];exact ih (mix f.ty m)
def Qr(ds:Ar):∀m,qp ds m=vX m ((zk ds).flatMap (λf=>xj f.ty)):=by
 induction ds with
 |nil=>intro m;rfl
 |cons d r ih=>
  intro m;have h:=ih (d.body.mx m);show qp r (d.body.mx m)=_;rw[h];unfold zk;rw[a9_,bb_,yF]
  congr 1
  cases d.body with
  |recd fs=>exact Jp fs m
  |enum l o=>rfl
  |bytes n=>rfl
def eM(ds:Ar)(t:PT):mix t (qp ds (-1))=vX (-1) (vz ds t):=by
 rw[bV,Qr,vz,yF]
def cwPR1_{p:Prop}(h:p:=by
 rw[jG]at h;unfold vR at h;split at h
 ·(try have:=cc1;rename_i hb);cases h;(first|(have:=cc1;unfold xS)|(rename_i hb));(first|(have:=cc1;exact .inl hb)|(simp[zZ,hb,xj,Asc,PT.place]))
 .split at h
  ·(try have:=cc1;rename_i hb;have hl:=zp (s:=s) (i:=i) M_);cases hp:vY s f (i+1) with
   |error k=>rw[hp]at h;simp at h
   |ok r=>
    obtain⟨t',j'⟩:=r;rw[hp]at h;simp only at h;split at h
    .cases h;(first|(have:=cc1;unfold xS)|(obtain⟨h1,h2,_⟩:=ihT _ _ _ hp));(first|(have:=cc1;exact ihT _ _ _ M_ hp)|(exact⟨by rw[zZ];exact(h1.up M_).wide M_,by rw[xj];exact(h2.up M_).wide M_,rfl⟩))
    .simp at h
  .split at h
   ·(try have:=cc1;rename_i hb;have hl:=zp (s:=s) (i:=i) M_);cases hp:xy s f (i+1) with
    |error k=>rw[hp]at h;simp at h
    |ok r=>
     obtain⟨t',j'⟩:=r;rw[hp]at h;simp only at h;split at h
     .cases h;(first|(have:=cc1;have h1:=ihA _ _ _ M_ hp)|(obtain⟨h1,h2⟩:=ihA _ _ _ hp));(first|(have:=cc1;have h2:=(hbA (i+1) M_).1 _ _ hp;unfold xS;exact⟨M_,h1.2⟩)|(exact⟨by rw[zZ];exact(h1.up M_).wide M_,by rw[xj];exact(h2 []).wide M_,rfl⟩))
     .simp at h
   .split at h
    ·(try have:=cc1;rename_i hb);cases h;(first|(have:=cc1;unfold xS)|(rename_i hb _ _ _));(first|(have:=cc1;exact .inr hb)|(simp[zZ,hb,xj,Asc,PT.place]))
    .simp at h):p:=h
def PR(s:BA)(f:Nat):(∀i t j,vY s f i=.ok (t,j)->Asc i j ((zZ t).map Prod.snd)/\Asc (i+1) j (xj t)/\t.place=i)/\
 (∀i ts j,xy s f i=.ok (ts,j)->Asc i j ((zX ts).map Prod.snd)/\∀a,Asc i j (jX a ts)):=by
 induction f with
 |zero=>exact⟨λi t j h=>by simp[vY]at h,λi t j h=>by simp[xy]at h⟩
 |succ f ih=>
  obtain⟨ihT,ihA⟩:=ih;refine⟨λi t j h=>?_,λi t j h=>?_⟩
  .exact cwPR1_
  .rw[jz]at h;unfold wC at h;cases hp:vY s f i with
   |error k=>rw[hp]at h;simp at h
   |ok r=>
    obtain⟨t',j'⟩:=r;rw[hp]at h;obtain⟨h1,h2,b⟩:=ihT _ _ _ hp;have c:∀a:List Nat,Asc i j' ((if t'.kind=40\/t'.kind∈a then [t'.place] else [])++xj t'):=λa=>by
     rw[b];exact Asc.append (Asc.ite (ac_ i) (ac_ (i+1))) h2
    simp only at h;split at h
    .cases b:xy s f (j'+1) with
     |error k=>rw[b]at h;simp at h
     |ok r=>
      obtain⟨ts,k⟩:=r;rw[b]at h;cases h;obtain⟨e,n⟩:=ihA _ _ _ b;refine⟨?_,λa=>?_⟩
      .rw[zX,bf_];exact h1.append (e.up M_)
      .rw[jX,<- bx_];exact(c a).append ((n _).up M_)
    .cases h;refine⟨?_,λa=>?_⟩
     .rw[zX,zX,bg_];exact h1
     .rw[jX,jX,bg_];exact c a
def ZB{s:BA}{j:Nat}(h:pT s i=.ok (t,j)):Asc i j ((zZ t).map Prod.snd)/\Asc (i+1) j (xj t):=⟨((PR s _).1 i t j h).1,((PR s _).1 i t j h).2.1⟩
def dfB(s:BA)(env:Au)(f:PF):List Nat:=
 match f.dflt with|none=>[]|some (a,b)=>if (ym env true f.ty (s.extract a b)).isSome=true then [] else [a]
def ZD{s:BA}{j:Nat}(h:zR s i=.ok (f,j)):f.place=i/\f.letter=bt s i/\zl (bt s i)=true/\
 Asc (i+1) j ((zZ f.ty).map Prod.snd)/\Asc (i+1) j (xj f.ty)/\∀env,Asc (i+1) (j+1) (dfB s env f):=by
 unfold zR at h;split at h
 .rename_i b;split at h
  .split at h
   .cases h
   .rename_i t k hp;obtain⟨h1,a⟩:=ZB hp;split at h
    .split at h
     .cases h
     .rename_i e hd;have hb:=gN hd;simp only[ae_,ad_]at h;obtain⟨rfl,rfl⟩:=h;have hk:=h1.le;refine⟨rfl,rfl,b,(h1.up M_).wide M_,(a.up M_).wide M_,λenv=>?_⟩;simp only[dfB];split
      .show i+1<=e+1;omega
      .exact⟨M_,by show k+1+1<=e+1;omega⟩
    .simp only[ae_,ad_]at h;obtain⟨rfl,rfl⟩:=h;have hk:=h1.le;exact⟨rfl,rfl,b,h1.up M_,a.up M_,λenv=>by show i+1<=k+1;omega⟩
  .cases h
 .cases h
def eV(s:BA)(lo hi:Nat)(l:An):Prop:=
 (∀env seen,Asc lo hi (kh env seen l))/\Asc lo hi (l.flatMap (λf=>xj f.ty))/\(∀env,Asc lo hi (l.flatMap (dfB s env)))/\∀f∈l,zl f.letter=true
def eV.one{s:BA}{j:Nat}(h:zR s i=.ok (f,j)):eV s i (j+1) [f]:=by
 obtain⟨h1,h0,e,a,b,c⟩:=ZD h;have k:=a.le;refine⟨λenv k=>?_,?_,λenv=>?_,λg hg=>?_⟩
 .rw[kh,kh,bg_,h1];exact(Asc.ite (ac_ i) (ac_ (i+1))).append ((Asc.filter _ a).wide M_)
 .rw[a9_,b5_,bg_];exact(b.up M_).wide M_
 .rw[a9_,b5_,bg_];exact(c env).up M_
 .rw[a2_]at hg;subst hg;rw[h0];exact e
def eV.cons{s:BA}{j:Nat}(h:eV s i m [f])(k:eV s m j l):eV s i j (f::l):=by
 refine⟨λenv a=>?_,?_,λenv=>?_,λg hg=>?_⟩
 .have h1:=h.1 env a;rw[kh,kh,bg_]at h1;rw[kh,<- bx_];exact h1.append (k.1 env _)
 .have h1:=h.2.1;rw[a9_,b5_,bg_]at h1;rw[a9_];exact h1.append k.2.1
 .have h1:=h.2.2.1 env;rw[a9_,b5_,bg_]at h1;rw[a9_];exact h1.append (k.2.2.1 env)
 .rcases aq_.1 hg with rfl|hg
  .exact h.2.2.2 g x6_
  .exact k.2.2.2 g hg
def cq28_{p:Prop}(h:p:=by
 intro n;induction n with
 |zero=>intro i l j h;cases h
 |succ n ih=>
  intro i l j h;unfold yW at h;split at h
  .cases h
  .rename_i f k hf;(first|(have:=cc1;have h1:=VL hf)|(have h1:=eV.one hf));split at h
   .cases h;(try have:=cc1;rw[a9_,b5_,bg_]);exact h1
   .split at h
    .split at h
     .cases h
     .rename_i fs a hr;cases h;(first|(have:=cc1;rw[a9_];exact h1.append (ih _ _ _ hr))|(exact h1.cons (ih _ _ _ hr)))
    .cases h):p:=h
def ij(s:BA):∀(n i:Nat) (l:List PF) (j:Nat),yW s n i=.ok (l,j)->eV s i j l:=by
 exact cq28_
def aX{s:BA}{j:Nat}(h:yf s i=.ok (l,j)):eV s i j l:=by
 unfold yf at h;split at h
 .split at h
  .cases h;exact⟨λenv a=>by show i<=i+2;omega,by show i<=i+2;omega,λenv=>by show i<=i+2;omega,λg hg=>by simp at hg⟩
  .have h1:=ij s _ _ _ _ h;exact⟨λenv a=>(h1.1 env a).up M_,h1.2.1.up M_,λenv=>(h1.2.2.1 env).up M_,h1.2.2.2⟩
 .cases h
def ZM(s:BA):∀(n i:Nat) (l:List (Nat×Nat)) (j:Nat),jr s n i=.ok (l,j)->(∀b,Asc i j (qg b l))/\(∀q∈l,zl q.1=true)/\l.length+i<=j:=by
 intro n;induction n with
 |zero=>intro i l j h;cases h
 |succ n ih=>
  intro i l j h;unfold jr at h;split at h
  .rename_i c;split at h
   .split at h
    .cases h
    .rename_i r k hr;cases h;obtain⟨h1,e,o⟩:=ih _ _ _ hr;refine⟨λb=>?_,λq a=>?_,by simp;omega⟩
     .rw[qg];exact(Asc.ite (ac_ i) M_).append (h1 _)
     .rcases aq_.1 a with rfl|a
      .exact c
      .exact e q a
   .cases h;refine⟨λb=>?_,λq a=>?_,by simp;omega⟩
    .rw[qg,qg,bg_];exact Asc.ite (ac_ i) l_
    .rw[a2_]at a;subst a;exact c
  .cases h
def uV{s:BA}{l:As}{o:Ac}{j:Nat}(h:xY s i=.ok ((l,o),j)):Asc i j (qg [] l++pC l o)/\(∀q∈l,zl q.1=true)/\(∀c p,o=some (c,p)->zl c=true)/\l.length+i<=j:=by
 unfold xY at h;split at h
 .split at h
  .cases h
  .rename_i r k hr;obtain⟨h1,a,n⟩:=ZM s _ _ _ _ hr;have h0:=(h1 []).le;split at h
   .split at h
    .rename_i b;split at h
     .simp only[ae_,ad_]at h;obtain⟨⟨rfl,rfl⟩,rfl⟩:=h;refine⟨((h1 []).up M_).append ?_,a,λc p e=>?_,M_⟩
      .simp only[pC];split
       .show k<=k+3;omega
       .exact⟨M_,by show k+1+1<=k+3;omega⟩
      .simp only[af_,ad_]at e;rw[<- e.1];exact b
     .cases h
    .cases h
   .split at h
    .simp only[ae_,ad_]at h;obtain⟨⟨rfl,rfl⟩,rfl⟩:=h;exact⟨((h1 []).up M_).append (by show k<=k+1;omega),a,λc p e=>(nomatch e),M_⟩
    .cases h
 .cases h
def smB:PB->Prop
 | .recd fs=>∀f∈fs,zl f.letter=true
 | .enum l o=>(∀q∈l,zl q.1=true)/\∀c p,o=some (c,p)->zl c=true
 | .bytes _=>True
def cq26_{p:Prop}(h:p:=by
 unfold yG at h;split at h
 .split at h
  .cases h
  .rename_i ds k hr;simp only[ae_,ad_]at h;obtain⟨rfl,rfl⟩:=h;(first|(have:=cc1;exact(ZL hr).up M_)|(obtain⟨h1,a,b,c⟩:=aX hr;exact⟨λenv=>(h1 env []).up M_,a.up M_,λenv=>(b env).up M_,c⟩))
 .split at h
  .split at h
   .cases h
   .rename_i l o k hr;simp only[ae_,ad_]at h;obtain⟨rfl,rfl⟩:=h;(first|(have:=cc1;have:=(uV hr).1.le)|(obtain⟨h1,a,b,_⟩:=uV hr));(first|(have:=cc1;show i<=k)|(have:=h1.le));(first|(have:=cc1;omega)|(exact⟨λenv=>h1.up M_,by show i<=k;omega,λenv=>by show i<=k;omega,a,b⟩))
  .split at h
   .split at h
    .simp only[ae_,ad_]at h;obtain⟨rfl,rfl⟩:=h;(first|(have:=cc1;show i<=i+2;omega)|(exact⟨λenv=>by show i<=i+2;omega,by show i<=i+2;omega,λenv=>by show i<=i+2;omega,trivial⟩))
    .cases h
   .cases h):p:=h
def VD{s:BA}{b:PB}{j:Nat}(h:yG s i=.ok (b,j)):(∀env,Asc i j (qc env b))/\Asc i j (b.fs.flatMap (λf=>xj f.ty))/\(∀env,Asc i j (b.fs.flatMap (dfB s env)))/\smB b:=by
 exact cq26_
def jR(d:PD)(r:Ar):zk (d::r)=d.body.fs++zk r:=by simp[zk]
def ZN(s:BA):∀(n i:Nat) (ds:List PD) (j:Nat),yi s n i=.ok (ds,j)->
 (∀env a,Asc i j (ke env a ds))/\Asc i j ((zk ds).flatMap (λf=>xj f.ty))/\(∀env,Asc i j ((zk ds).flatMap (dfB s env)))/\(∀d∈ds,zY d.letter=true/\smB d.body)/\ds.length<=n:=by
 intro n;induction n with
 |zero=>
  intro i ds j h;simp only[yi,ae_,ad_]at h;obtain⟨rfl,rfl⟩:=h;exact⟨λ_ _=>l_,l_,λ_=>l_,λd hd=>by simp at hd,l_⟩
 |succ n ih=>
  intro i ds j h;unfold yi at h;split at h
  .rename_i hn;split at h
   .split at h
    .cases h
    .rename_i b k hb;obtain⟨b1,b2,b3,c⟩:=VD hb;split at h
     .split at h
      .cases h
      .rename_i r e hr;cases h;obtain⟨r1,o,p,u,v⟩:=ih _ _ _ hr;have hk:=b2.le;refine⟨λenv a=>?_,?_,λenv=>?_,λd hd=>?_,by simp;omega⟩
       .rw[ke];exact(Asc.ite (ac_ i) (show i+1<=i+2 by omega)).append ((b1 env).append ((r1 env _).up M_))
       .rw[jR,bb_];exact(b2.up M_).append (o.up M_)
       .rw[jR,bb_];exact((b3 env).up M_).append ((p env).up M_)
       .rcases aq_.1 hd with rfl|hd
        .exact⟨hn.1,c⟩
        .exact u d hd
     .cases h
   .cases h
  .cases h;exact⟨λ_ _=>l_,l_,λ_=>l_,λd hd=>by simp at hd,by simp⟩
def qm(s:BA)(ds:Ar):List Nat:=(zk ds).flatMap (dfB s (zx ds))
def jT{s:BA}{ds:Ar}(h:ze s=.ok (ds,t)):wrU (zx ds) (jm ds++zZ t) (qy [] ds (-1))=mL (xL ds t)/\mix t (qp ds (-1))=mL (vz ds t)/\vX (-1) (qm s ds)=mL (qm s ds)/\(∀d∈ds,zY d.letter=true/\smB d.body)/\ds.length<=6:=by
 unfold ze at h;split at h
 .cases h
 .rename_i ds' i hd;split at h
  .cases h
  .rename_i t' j a;split at h
   .cases h
   .cases h;obtain⟨r1,b,c,e,k⟩:=ZN s _ _ _ _ hd;obtain⟨n,o⟩:=ZB a;exact⟨by rw[Yg];exact lD ((r1 _ _).append (Asc.filter _ n)),by rw[eM];exact lD (b.append (o.up M_)),lD (c _),e,k⟩
def JH(s:BA)(env:Au)(fs:An):∀m,tw s env fs m=vX m (fs.flatMap (dfB s env)):=by
 induction fs with
 |nil=>intro m;rfl
 |cons f r ih=>
  intro m;rw[a9_,yF];show tw s env r _=_;rw[ih]
  congr 1
  show(match f.dflt with|none=>m|some (a,b)=>if (ym env true f.ty (s.extract a b)).isSome=true then m else zF (a:Int) m)=vX m (match f.dflt with|none=>[]|some (a,b)=>if (ym env true f.ty (s.extract a b)).isSome=true then [] else [a]);cases f.dflt with
  |none=>rfl
  |some q=>
   obtain⟨a,b⟩:=q;show(if (ym env true f.ty (s.extract a b)).isSome=true then m else zF (a:Int) m)=vX m (if (ym env true f.ty (s.extract a b)).isSome=true then [] else [a]);split<;>rfl
def iA(s:BA)(env:Au)(k:Nat):xk s env k=vX (-1) ((List.range k).flatMap (λq=>(xK env q).flatMap (dfB s env))):=by
 induction k with
 |zero=>rfl
 |succ k ih=>rw[xk,JH,ih,bv_,bb_,yF];simp
def Gf{ds:Ar}:∀{a:List Nat},uq a ds=[]->(∀d∈ds,d.letter∉a)/\(ds.map PD.letter).Nodup:=by
 induction ds with
 |nil=>intro a _;exact⟨λd hd=>by simp at hd,by simp⟩
 |cons d r ih=>
  intro a h;rw[uq]at h;simp only[ch_]at h;obtain⟨⟨_,c⟩,n⟩:=h;obtain⟨b,k⟩:=ih n;have hd:d.letter∉a:=λhm=>by rw[i_ hm]at c;simp at c
  refine⟨λx hx=>?_,?_⟩
  .rcases aq_.1 hx with rfl|hx
   .exact hd
   .exact λhm=>b x hx (by simp[hm])
  .rw[a0_,List.nodup_cons];refine⟨λhm=>?_,k⟩;obtain⟨x,hx,e⟩:=a7_.1 hm;exact b x hx (by rw[e];simp)
def Yu{ds:Ar}:∀{b:Nat},(ds.map PD.letter).Nodup->∀d∈ds,(vh b d.letter ds).map Prod.fst=some d.body:=by
 induction ds with
 |nil=>intro b _ d hd;simp at hd
 |cons x r ih=>
  intro b h d hd;rw[a0_,List.nodup_cons]at h;rcases aq_.1 hd with rfl|hd
  .simp[vh]
  .have a:x.letter≠d.letter:=λe=>h.1 (e▸List.mem_map_of_mem hd);rw[vh,n_ a];exact ih h.2 d hd
def JC{s:BA}{ds:Ar}(hn:∀d∈ds,zY d.letter=true)(hd:(ds.map PD.letter).Nodup):xk s (zx ds) 6=vX (-1) (qm s ds):=by
 rw[iA];refine tI (λx=>?_);unfold qm zk;simp only[cd_,List.mem_range];constructor
 .rintro⟨k,hk,f,hf,hx⟩;unfold xK at hf;split at hf
  .rename_i fs he;unfold zx at he;cases hl:vh 0 (65+k) ds with
   |none=>rw[hl]at he;cases he
   |some q=>
    obtain⟨pb,e⟩:=q;obtain⟨d,a,hb⟩:=gh hl;rw[hl]at he;simp only[by_,af_]at he;exact⟨f,⟨d,a,by rw[hb,he];exact hf⟩,hx⟩
  .simp at hf
 .rintro⟨f,⟨d,a,hf⟩,hx⟩;have h1:=hn d a;have h:65<=d.letter/\d.letter<=70:=by simpa[zY] using h1
  have c:=Yu (b:=0) hd d a;refine⟨d.letter-65,M_,f,?_,hx⟩;unfold xK;rw[show 65+(d.letter-65)=d.letter by omega];unfold zx;rw[c];cases hb:d.body with
  |recd fs=>rw[hb]at hf;exact hf
  |enum l o=>rw[hb]at hf;exact absurd hf (by simp[PB.fs])
  |bytes n=>rw[hb]at hf;exact absurd hf (by simp[PB.fs])
def qK{s:BA}{ds:Ar}(hs:s.size<=300)(h:ze s=.ok (ds,t)):zu s =
 match xL ds t,vz ds t,qm s ds with
 |x::_,_,_=>(3,(x:Int))
 | [],x::_,_=>(4,(x:Int))
 | [],[],x::_=>(5,(x:Int))
 | [],[],[]=>(0,0):=by
 obtain⟨h1,a,b,c,e⟩:=jT h;unfold zu;rw[n_ M_,h];simp only;rw[h1,a];cases a:xL ds t with
 |cons x r=>simp[mL]
 |nil=>
  have e:uq [] ds=[]:=by
   rw[List.eq_nil_iff_forall_not_mem];intro x hx;have:x∈xL ds t:=by
    unfold xL;rw[a4_,oR];exact .inl (.inl hx)
   rw[a]at this;simp at this
  rw[JC (λd hd=>(c d hd).1) (Gf e).2,b];cases a:vz ds t with
  |cons x r=>simp[mL]
  |nil=>
   cases a:qm s ds with
   |cons x r=>simp[mL]
   |nil=>simp[mL]
def dP(f:PF):List Nat:=match f.dflt with|none=>[]|some (a,_)=>[a]
def VL{s:BA}{j:Nat}(h:zR s i=.ok (f,j)):Asc i (j+1) (dP f):=by
 unfold zR at h;split at h
 .split at h
  .split at h
   .cases h
   .rename_i t k hp;obtain⟨h1,_⟩:=ZB hp;have hk:=h1.le;split at h
    .split at h
     .cases h
     .rename_i e hd;have hb:=gN hd;simp only[ae_,ad_]at h;obtain⟨rfl,rfl⟩:=h;exact⟨M_,by show k+1+1<=e+1;omega⟩
    .simp only[ae_,ad_]at h;obtain⟨rfl,rfl⟩:=h;show i<=k+1;omega
  .cases h
 .cases h
def aQ(s:BA):∀(n i:Nat) (l:List PF) (j:Nat),yW s n i=.ok (l,j)->Asc i j (l.flatMap dP):=by
 have cc1:=Nat
 exact cq28_
def ZL{s:BA}{j:Nat}(h:yf s i=.ok (l,j)):Asc i j (l.flatMap dP):=by
 unfold yf at h;split at h
 .split at h
  .cases h;show i<=i+2;omega
  .exact(aQ s _ _ _ _ h).up M_
 .cases h
def KG{s:BA}{b:PB}{j:Nat}(h:yG s i=.ok (b,j)):Asc i j (b.fs.flatMap dP):=by
 have cc1:=Nat
 exact cq26_
def VH(s:BA):∀(n i:Nat) (ds:List PD) (j:Nat),yi s n i=.ok (ds,j)->Asc i j ((zk ds).flatMap dP):=by
 intro n;induction n with
 |zero=>
  intro i ds j h;simp only[yi,ae_,ad_]at h;obtain⟨rfl,rfl⟩:=h;exact l_
 |succ n ih=>
  intro i ds j h;unfold yi at h;split at h
  .split at h
   .split at h
    .cases h
    .rename_i b k hb;have b3:=KG hb;split at h
     .split at h
      .cases h
      .rename_i r e hr;cases h;have a:=ih _ _ _ hr;rw[jR,bb_];exact(b3.up M_).append (a.up M_)
     .cases h
   .cases h
  .cases h;exact l_
def ZC{s:BA}{ds:Ar}(h:ze s=.ok (ds,t)):∃lo hi,Asc lo hi ((zk ds).flatMap dP):=by
 unfold ze at h;split at h
 .cases h
 .rename_i ds' i hd;split at h
  .cases h
  .rename_i t' j a;split at h
   .cases h
   .cases h;exact⟨_,_,VH s _ _ _ _ hd⟩
def Pi(h:Asc lo hi (L++M)):(∀x∈L,∀y∈M,x<y)/\∃m,Asc m hi M:=by
 induction L generalizing lo with
 |nil=>exact⟨λx hx=>by simp at hx,lo,h⟩
 |cons a r ih=>
  obtain⟨h1,b⟩:=h;obtain⟨c,e⟩:=ih b;refine⟨λx hx y hy=>?_,e⟩;rcases aq_.1 hx with rfl|hx
  .have:=Asc.ge b y (b8_ _ hy);omega
  .exact c x hx y hy
def WD:∀(l:List PF){lo hi:Nat},Asc lo hi (l.flatMap dP)->∀(i j:Nat) (f g:PF) (a e a' e':Nat),i<j->l[i]?=some f->l[j]?=some g->f.dflt=some (a,e)->g.dflt=some (a',e')->a<a'
 | [],_,_,_,i,j,f,g,a,e,a',e',_,hf,_,_,_=>by simp at hf
 |x::r,lo,hi,h,i,j,f,g,a,e,a',e',hij,hf,hg,hfa,hga=>by
  rw[a9_]at h;obtain⟨h1,m,b⟩:=Pi h;cases i with
  |zero=>
   simp only[aa_,af_]at hf;subst hf;obtain⟨j,rfl⟩:∃k,j=k+1:=⟨j-1,M_⟩;rw[ab_]at hg;refine h1 a (by simp[dP,hfa]) a' (cd_.2 ⟨g,ai_ hg,by simp[dP,hga]⟩)
  |succ i=>
   obtain⟨j,rfl⟩:∃k,j=k+1:=⟨j-1,M_⟩;rw[ab_]at hf hg;exact WD r b i j f g a e a' e' M_ hf hg hfa hga
def Bx{s:BA}{ds:Ar}(h:ze s=.ok (ds,t))(i j:Nat)(f g:PF)(a e a' e':Nat)(hf:(zk ds)[i]?=some f)(hg:(zk ds)[j]?=some g)(c:f.dflt=some (a,e))(k:g.dflt=some (a',e'))(n:i≠j):a≠a':=by
 obtain⟨lo,hi,b⟩:=ZC h;rcases Nat.lt_or_gt_of_ne n with hl|hl
 .have:=WD _ b i j f g a e a' e' hl hf hg c k;omega
 .have:=WD _ b j i g f a' e' a e hl hg hf k c;omega
def Jn(c:Nat)(ds:Ar):∀b a,(vh b c ds).map Prod.fst=(vh a c ds).map Prod.fst:=by
 induction ds with
 |nil=>intro b a;rfl
 |cons d r ih=>
  intro b a;simp only[vh];split
  .rfl
  .exact ih _ _
def JU(c:Nat):zx [] c=none:=rfl
def YT(d:PD)(r:Ar)(c:Nat):zx (d::r) c=if d.letter=c then some d.body else zx r c:=by
 unfold zx;simp only[vh];split
 .rfl
 .exact Jn c r _ _
def YD{ds:Ar}(h:ds[q]?=some d)(c:Nat):zx (ds.drop q) c=if d.letter=c then some d.body else zx (ds.drop (q+1)) c:=by
 have hl:=(ak_.1 h).1;rw[bs_ hl,YT,(ak_.1 h).2]
structure yR(w:Aw)(P:Az)(s:BA)(ds:Ar)(sv:Ax)(xs:Ay):Prop where
 row:w.ownsRow 0 178 3 sv ds.length xs
 off:∀g,sv.ownBlock=some g->P g
 V:kD w P s ds xs
 len:ds.length<=6
def yR.fr{w:Aw}{s:BA}{ds:Ar}{sv:Ax}{xs:Ay}(h:yR w P s ds sv xs)(hf:Fr w w' S)(a:∀g,P g->¬S g):yR w' P s ds sv xs:=
 ⟨zj h.row hf (λg hg=>a g (h.off g hg)),h.off,h.V.fr hf a,h.len⟩
def yR.cells{w:Aw}{s:BA}{ds:Ar}{cap:Nat}{xs:Ay}(h:yR w P s ds (S_ g m cap) xs)(k:ds[q]?=some d):∃T x,w.cell? ⟨g,q*3,none⟩=some (I_ d.place)/\w.cell? ⟨g,q*3+1,none⟩=some (U_ d.letter)/\w.cell? ⟨g,q*3+2,none⟩=some (.iface T x)/\yV w P s d.body (.iface T x):=by
 obtain⟨c,h1,a,b,e⟩:=h.V q d k;obtain⟨T,x,rfl⟩:=e.iface;have hm:=mV h.row;subst hm;rw[bh_]at h1 a b;exact⟨T,x,zr h.row rfl h1,zr h.row rfl a,zr h.row rfl b,e⟩
def ZV(ds:Ar)(xs:Ay)(b:PB)(v:Ax):Prop:=∃q d,ds[q]?=some d/\d.body=b/\xs[3*q+2]?=some v
def yR.cellz{w:Aw}{s:BA}{ds:Ar}{cap:Nat}{xs:Ay}(h:yR w P s ds (S_ g m cap) xs)(k:ds[q]?=some d):∃T x,w.cell? ⟨g,q*3,none⟩=some (I_ d.place)/\w.cell? ⟨g,q*3+1,none⟩=some (U_ d.letter)/\w.cell? ⟨g,q*3+2,none⟩=some (.iface T x)/\yV w P s d.body (.iface T x)/\ZV ds xs d.body (.iface T x):=by
 obtain⟨c,h1,b,a,e⟩:=h.V q d k;obtain⟨T,x,rfl⟩:=e.iface;have hz:ZV ds xs d.body (.iface T x):=⟨q,d,k,rfl,a⟩;have hm:=mV h.row;subst hm;rw[bh_]at h1 b a;exact⟨T,x,zr h.row rfl h1,zr h.row rfl b,zr h.row rfl a,e,hz⟩
def Ga(w:Aw)(P:Az)(s:BA)(ds:Ar)(c:Nat)(e:Ak)(w':Aw):Prop:=
 ∃v,e=.returned v/\Fr w w' N_/\match zx ds c with|none=>v=.nilIface|some b=>yV w' P s b v
def Bs(w:Aw)(P:Az)(s:BA)(ds:Ar)(xs:Ay)(c:Nat)(e:Ak)(w':Aw):Prop:=
 ∃v,e=.returned v/\Fr w w' N_/\match zx ds c with|none=>v=.nilIface|some b=>yV w' P s b v/\ZV ds xs b v
def tE{w:Aw}{s:BA}{ds:Ar}{sv rv:Ax}{xs:Ay}(c:Nat)(D:yR w P s ds sv xs):Calls prog 71 #[.agg #[sv,rv],U_ c] w (Bs w P s ds xs c):=by
 refine hq_ λp b=>?_;obtain⟨a,n,rfl⟩:=zw D.row;have p:=D.len;have start:H_ (∃q:Nat,Value.int .i64 0=I_ q/\q<=ds.length/\ds.length+1-q<=ds.length+1/\Fr w (w.alloc (.cells #[.slice a ds.length n,rv] 48)) N_/\zx ds c=zx (ds.drop q) c):=zy ⟨0,rfl,am_ _,M_,(A_ w _).alloc _,rfl⟩;replace D:=zy D;go_in;go_wp2;go_loopg [10] (ds.length+1) (λm v W=>∃q:Nat,v=I_ q/\q<=ds.length/\ds.length+1-q<=m/\Fr w W N_/\zx ds c=zx (ds.drop q) c);case atStart=>exact start
 case round=>
  obtain⟨q,rfl,a,hm,hf,he⟩:=hrel;by_cases e:q<ds.length
  .have k:(q:Int)<(ds.length:Int):=M_;have hd:ds[q]?=some ds[q]:=aj_ e;generalize ds[q]=d at hd;obtain⟨g,a,a⟩:=zg D.o.row M_;cases a;have a:=D.o.fr hf u_;obtain⟨T,x,c0,c1,c2,hb,hz⟩:=a.cellz hd;replace hz:=zy hz;have h:=zy (hb.fr ((A_ wr N_).alloc (.cells #[I_ d.place,U_ d.letter,.iface T x] 178)) u_);rw[YD hd]at he;replace a:=zy a;replace hb:=zy hb;replace hf:=zy hf;by_cases hc:d.letter=c
   .rw[i_ hc]at he;replace he:=zy he;subst hc;go_wp2;try go_ret
    rw[b.o];refine⟨_,rfl,hf.o.alloc _,?_⟩;rw[he.o];exact⟨h,hz⟩
   .rw[n_ hc]at he;replace he:=zy he;have a:((d.letter:Int)==(c:Int))=false:=x1_
    go_wp2;go_roundg (ds.length+1-(q+1));case measure=>omega
    case rel=>exact⟨q+1,rfl,e,l_,hf.o.alloc _,he⟩
  .have k:¬((q:Int)<(ds.length:Int)):=M_;rw[b0_ M_,JU]at he;replace he:=zy he;replace hf:=zy hf;go_wp2;try go_ret
   rw[b.o];refine⟨.nilIface,rfl,hf,?_⟩;rw[he.o]
def jp{w:Aw}{s:BA}{ds:Ar}{sv rv:Ax}{xs:Ay}(c:Nat)(D:yR w P s ds sv xs):Calls prog 71 #[.agg #[sv,rv],U_ c] w (Ga w P s ds c):=by
 apply(tE (rv:=rv) c D).mono;rintro e w' ⟨v,h1,h,a⟩;refine⟨v,h1,h,?_⟩;cases he:zx ds c with
 |none=>rw[he]at a;exact a
 |some b=>rw[he]at a;exact a.1
set_option maxRecDepth 100000
set_option linter.defProp false
@[go_sem]def GU:=yI 215 46
@[go_sem]def eu:=vt 215 46 (.agg #[O_])
@[go_sem]def Bw:=yI 217 46
@[go_sem]def UL:=vt 217 46 (.agg #[O_])
@[go_sem]def Mo:=yI 218 46
@[go_sem]def Cp:=vt 218 46 (.agg #[O_])
@[go_sem]def UT:=yI 219 46
@[go_sem]def Ma:=vt 219 46 (.agg #[O_])
@[go_sem]def UH:=yI 220 46
@[go_sem]def Mi:=vt 220 46 (.agg #[O_])
@[go_sem]def UN:=yI 222 46
@[go_sem]def kC:=vt 222 46 (.agg #[O_,.nilIface])
@[go_sem]def Me:=yI 223 46
@[go_sem]def gW:=vt 223 46 (.agg #[O_,.nilIface])
@[go_sem]def gK:=yI 226 46
@[go_sem]def vQ:=vt 226 46 (.agg #[O_,L_])
@[go_sem]def UR:=yI 229 46
@[go_sem]def nH:=vt 229 46 (.agg #[O_,.int .u8 0])
@[go_sem]def Pe:=yI 231 46
@[go_sem]def Bg:=vt 231 46 (.agg #[O_,L_])
@[go_sem]def UI:=yI 236 46
@[go_sem]def MZ:=vt 236 46 (.agg #[O_,L_,.pointer none])
@[go_sem]def Bp:=yI 238 46
@[go_sem]def UE:=vt 238 46 (.agg #[O_,O_])
def yD(w:Aw)(cause:Ax)(L:Ao)(e:Ak)(w':Aw):Prop:=
 ∃v,e=.returned v/\Fr w w' N_/\match L with | []=>v=.nilIface|x::_=>zO w' w.heap.size v (x:Int) cause
def vN(g:Nat)(w:Aw)(et:Av)(ex:Ax):Prop:=w.cell? ⟨g,0,none⟩=some (.iface et ex)
def vN.fr{w:Aw}(h:vN g w et ex)(hf:Fr w w' S)(b:¬S g):vN g w' et ex:=
 (World.cell?_of_block (a:=⟨g,0,none⟩) (hf.block _ (World.block_lt_of_cell? w ⟨g,0,none⟩ h) b)).trans h
def xp(p:Int)(w:Aw):Calls prog 72 #[Z_ p] w λe w'=>e=.returned (Z_ p)/\w'=w:=by
 go_in;go_wp2;go_ret;exact⟨rfl,rfl⟩
def je(c:Nat):vL c≠222/\vL c≠223/\vL c≠226/\vL c≠229/\vL c≠231/\vL c≠236/\vL c≠238:=by
 unfold vL
 repeat' split
 all_goals decide
def pX(t:PT):Prop:=∀(w:World) (P:Nat->Prop) (s:BA) (ds:List PD) (sv rv v:Value) (xs:List Value) (et:TypeId) (ex:Value),yR w P s ds sv xs->TyV w P t v->vN 1 w et ex->
 Calls prog 74 #[.agg #[sv,rv],v] w (yD w (.iface et ex) (vg (zx ds) (zZ t)))
def Vs(c p:Nat)(hc:zi c=true):pX (.leaf c p):=by
 intro w P s ds sv rv v xs et ex D hv b;refine hq_ λn a=>?_;have e:=zy (show vg (zx ds) (zZ (.leaf c p))=[] by rw[zZ,i_ hc];rfl);have k:v=.iface (vL c) (.agg #[I_ p]):=by
  cases hv with
  |base _ _ h=>rfl
  |name _ _ h=>
   simp only[zi,ay_,beq_iff_eq]at hc;simp only[zY,a3_,decide_eq_true_eq]at h;omega
 subst k;clear hv D b;obtain⟨u,hu⟩:=e_ (vL c);rw[<- hu];have hn:=je c;rw[<- hu]at hn;have b:=kC u hn.1;have b:=gW u hn.2.1;have b:=vQ u hn.2.2.1;have b:=nH u hn.2.2.2.1;clear hu hn;go_in;go_wp2;try go_ret
 rw[a.o];refine⟨.nilIface,rfl,(A_ w _).alloc _,?_⟩;rw[e.o]
def cwVn1_{p:Prop}(h:p:=by
 (first|(have:=cc1;simp only[qX,n_ hc])|(subst hc;simp only[qX,if_true]));go_in;go_wp2_with (go_at_call 74;apply(hcall.o _).mono;rintro e w2 ⟨v2,rfl,hf2,hm⟩;replace hf2:=zy hf2;replace hm:=zy hm);try go_ret
 rw[Q_.o];have hsz:=hf2.o.size;refine⟨v2,rfl,(((A_ w N_).alloc _).alloc _).trans hf2.o u_,?_⟩;rw[zZ];have hm':=hm.o;cases hL:vg (zx ds) (zZ t) with
 |nil=>rw[hL]at hm';exact hm'
 |cons x r=>rw[hL]at hm';exact hm'.ls x1_):p:=h
def Vn(c p:Nat)(t:PT)(y:pX t):pX (.wrap c p t):=by
 intro w P s ds sv rv v xs et ex D hv u;refine hq_ λz Q_=>?_;obtain⟨v2,o,rfl⟩:∃v2,TyV w P t v2/\v=.iface (qX c) (.agg #[I_ p,v2]):=by
  cases hv with
  |wrap _ _ h=>exact⟨_,h,rfl⟩
 obtain⟨k,n,rfl⟩:=o.iface;obtain⟨a,b,rfl⟩:=zw D.row;have hcall:H_ (∀T,Calls prog 74 #[.agg #[.slice a ds.length b,rv],.iface k n] ((w.alloc (.cells #[.slice a ds.length b,rv] 48)).alloc (.cells #[I_ p,.iface k n] T)) (yD ((w.alloc (.cells #[.slice a ds.length b,rv] 48)).alloc (.cells #[I_ p,.iface k n] T)) (.iface et ex) (vg (zx ds) (zZ t)))):=zy (λT=>by
  have hf:Fr w ((w.alloc (.cells #[.slice a ds.length b,rv] 48)).alloc (.cells #[I_ p,.iface k n] T)) N_:=((A_ w _).alloc _).alloc _
  exact y _ P s ds _ _ _ _ _ _ (D.fr hf u_) (o.fr hf u_) (u.fr hf id))
 by_cases hc:c=91
 .exact cwVn1_
 .have cc1:=Nat;exact cwVn1_
def Zr(c p:Nat)(hc:zY c=true):pX (.leaf c p):=by
 intro w P s ds sv rv v xs et ex D hv I;refine hq_ λR G=>?_;have C:¬zi c=true:=λh=>by
  simp only[zi,ay_,beq_iff_eq]at h;simp only[zY,a3_,decide_eq_true_eq]at hc;omega
 have Q:v=.iface 229 (.agg #[I_ p,U_ c]):=by
  cases hv with
  |base _ _ h=>exact absurd h C
  |name _ _ h=>rfl
 subst Q;obtain⟨E,F,rfl⟩:=zw D.row;have z:=zy (show vg (zx ds) (zZ (.leaf c p))=if (zx ds c).isNone=true then [p] else [] by
  rw[zZ,n_ C];unfold vg;rw[List.filter_cons];split<;>rfl)
 have n:Fr w ((w.alloc (.cells #[.slice E ds.length F,rv] 48)).alloc (.cells #[I_ p,U_ c] 229)) N_:=((A_ w _).alloc _).alloc _;have H:=zy (jp (rv:=rv) c (D.fr n u_));have B:=I.fr n id;have y:=B_ (w.alloc (.cells #[.slice E ds.length F,rv] 48)) #[I_ p,U_ c] 229;have hz:(w.alloc (.cells #[.slice E ds.length F,rv] 48)).heap.size=w.heap.size+1:=x6_
 rw[hz]at y;replace n:=zy n;replace B:=zy B;replace y:=zy y;cases he:zx ds c with
 |some b=>
  rw[he]at z;replace he:=zy he;go_in;go_wp2_with (go_at_call 71;apply H.o.mono;rintro e r ⟨N,rfl,k,hm⟩;rw[he.o]at hm;obtain⟨u,bx,rfl⟩:=hm.iface;replace k:=zy k);try go_ret
  rw[G.o];refine⟨.nilIface,rfl,n.o.trans k u_,?_⟩;rw[z.o];rfl
 |none=>
  rw[he]at z;replace he:=zy he;go_in;go_wp2_with (go_at_call 71;apply H.o.mono;rintro e r ⟨N,rfl,k,hm⟩;rw[he.o]at hm;replace hm:N=.nilIface:=hm;subst hm;have A:=(k.bl y id).c0;have u:=B.o.fr k id;replace k:=zy k;replace u:_=_:=u);refine tr_ 7 (λW=>z_ W (w.heap.size+1) 0 (I_ p)/\z_ W 1 0 (.iface et ex)) ?_;refine tz_ 0 ?_;refine tz_ 1 ?_;refine tz_ 3 ?_;refine zh 2 rfl K_ (λ_=>⟨A,u⟩) (λK J=>?_);go_simp;apply(xp (p:Int) _).mono;rintro e w' ⟨rfl,rfl⟩;refine J _ _ ?_;refine tz_ 4 ?_;refine t1_ 5 ⟨A,u⟩ ?_;have y:∀{a:Addr} {x:Value},r.cell? a=some x->(r.drew.alloc (.cells #[I_ p,.iface et ex] 186)).cell? a=some x:=@λa x h=>(World.cell?_alloc_lt (r.drew) _ a (by exact World.block_lt_of_cell? r a h)).trans h;refine t1_ 6 ⟨y A,y u⟩ ?_;refine t1_ 7 ⟨y A,y u⟩ ?_;refine td_ ?_ _;go_wp2;try go_ret
  rw[G.o];have O:=(n.o.trans k u_).size;refine⟨_,rfl,((n.o.trans k u_).alloc _).drew,?_⟩;rw[z.o];exact⟨r.heap.size,O,rfl,(B_ r _ _).drew⟩
end Go.Proofs.YtokgeopihcopeaaGreatDoor
