import Derived.Test.YtjkiencmjggakaaGreatDoorW10
set_option maxHeartbeats 16000000
set_option maxRecDepth 100000
set_option linter.defProp false
set_option linter.unusedSimpArgs false
open Go.Proofs.Tryz
namespace Go.Proofs.YtjkiencmjggakaaGreatDoor
open Go.RowKit
variable {P S:Nat->Prop}{lo hi i q g:Nat}{L:List Nat}{d:PD}{w':World}{et:TypeId}{ex:Value}
def sE(s:BA):∀(n i:Nat) (l:List PF) (j:Nat),yK s n i=.ok (l,j)->j<=s.size:=by
 intro n;induction n with
 |zero=>intro i l j h;cases h
 |succ n ih=>
  intro i l j h;unfold yK at h;split at h
  .cases h
  .rename_i f k hf;split at h
   .rename_i a;simp only[ag_,ad_]at h;have:=zc (s:=s) (i:=k) M_;omega
   .split at h
    .split at h
     .cases h
     .rename_i fs b hr;simp only[ag_,ad_]at h;have:=ih _ _ _ hr;omega
    .cases h
def fi{s:BA}{b:PB}{j:Nat}(h:yZ s i=.ok (b,j)):j<=s.size:=by
 unfold yZ at h;split at h
 .split at h
  .cases h
  .rename_i ds k hr;simp only[ag_,ad_]at h;obtain⟨_,rfl⟩:=h;unfold yp at hr;split at hr
   .split at hr
    .rename_i a;simp only[ag_,ad_]at hr;have:=zc (s:=s) (i:=i+1+1) M_;omega
    .exact sE s _ _ _ _ hr
   .cases hr
 .split at h
  .split at h
   .cases h
   .rename_i l o k hr;simp only[ag_,ad_]at h;obtain⟨_,rfl⟩:=h;unfold xz at hr;split at hr
    .split at hr
     .cases hr
     .rename_i r q c;split at hr
      .split at hr
       .split at hr
        .simp only[ag_,ad_]at hr;have:=zc (s:=s) (i:=q+2) M_;omega
        .cases hr
       .cases hr
      .split at hr
       .simp only[ag_,ad_]at hr;have:=zc (s:=s) (i:=q) M_;omega
       .cases hr
    .cases hr
  .split at h
   .split at h
    .simp only[ag_,ad_]at h;have:=zc (s:=s) (i:=i+1) M_;omega
    .cases h
   .cases h
def qE(w:World)(P:Nat->Prop)(s:BA)(ds:List PD)(xs:List Value):Prop:=
 ∀i d,ds[i]?=some d->∃c,xs[3*i]?=some (I_ d.place)/\xs[3*i+1]?=some (U_ d.letter)/\xs[3*i+2]?=some c/\ye w P s d.body c
def qE.mono{w:World}{Q:Nat->Prop}{s:BA}{ds:List PD}{xs:List Value}(h:qE w P s ds xs)(hQ:∀g,g<w.heap.size->P g->Q g):qE w Q s ds xs:=λi f e=>by
 obtain⟨c,h1,a,b,k⟩:=h i f e;exact⟨c,h1,a,b,k.mono hQ⟩
def qE.fr{w:World}{s:BA}{ds:List PD}{xs:List Value}(h:qE w P s ds xs)(hf:Fr w w' S)(l:∀g,P g->¬S g):qE w' P s ds xs:=λi f e=>by
 obtain⟨c,h1,a,b,k⟩:=h i f e;exact⟨c,h1,a,b,k.fr hf l⟩
def qE.snoc{w:World}{s:BA}{ds:List PD}{xs:List Value}{c:Value}(h:qE w P s ds xs)(hl:xs.length=ds.length*3)(hc:ye w P s d.body c):qE w P s (ds++[d]) (xs++[I_ d.place,U_ d.letter,c]):=λi b e=>by
 by_cases hi:i<ds.length
 .rw[ar_ hi]at e;obtain⟨a,h1,f,k,l⟩:=h i b e;exact⟨a,by rw[ar_ M_];exact h1,by rw[ar_ M_];exact f,by rw[ar_ M_];exact k,l⟩
 .have a:i=ds.length:=by
   have:=(ae_.1 e).1;simp at this;omega
  subst a;rw[as_ l_,Nat.sub_self]at e;simp only[aa_,ah_]at e;subst e;refine⟨c,?_,?_,?_,hc⟩
  .rw[as_ M_,show 3*ds.length-xs.length=0 by omega];rfl
  .rw[as_ M_,show 3*ds.length+1-xs.length=1 by omega];rfl
  .rw[as_ M_,show 3*ds.length+2-xs.length=2 by omega];rfl
def Bd(w:World)(P:Nat->Prop)(s:BA)(ds:List PD)(t:PT)(sv rv:Value):Prop:=
 ∃xs,w.ownsRow 0 173 3 sv ds.length xs/\(∀g,sv.ownBlock=some g->P g)/\qE w P s ds xs/\TyV w P t rv
def cZ(w:World)(bp:Nat)(s:BA)(et:TypeId)(ex:Value)(e:Ending)(w':World):Prop:=
 ∃(sv rv ev:Value),e=.returned (.tuple #[.agg #[sv,rv],ev])/\(∃a n c,sv=.slice a n c)/\IfV rv/\Fr w w' (· = bp)/\
 match ze s with
 | .ok (ds,t)=>ev=.nilIface/\Bd w' (λg=>w.heap.size<=g) s ds t sv rv
 | .error k=>zT w' w.heap.size ev (k:Int) (.iface et ex)
def bJ{s:BA}{ds:List PD}{j:Nat}(h:yb s 6 0=jt ds (yb s (6-ds.length) j))(hl:ds.length<=6)(hn:¬(ds.length<6/\atD s j=true)):ze s=match pT s j with | .error k=>.error k | .ok (t,k)=>if k<s.size then .error k else .ok (ds,t):=by
 unfold ze;rw[h];by_cases a:ds.length<6
 .have ha:atD s j=false:=by
   cases hb:atD s j with
   |false=>rfl
   |true=>exact absurd ⟨a,hb⟩ hn
  rw[show 6-ds.length=(5-ds.length)+1 by omega,km];unfold atD at ha;by_cases hc:zp (bt s j)=true/\j+1<s.size
  .have a:bt s (j+1)≠61:=λe=>by rw[hc.1,decide_eq_true hc.2,decide_eq_true e]at ha;cases ha
   rw[i_ hc,n_ a,dE (by simpa[zp] using hc.1)];simp only;rw[i_ hc.2]
  .rw[n_ hc];simp only;cases pT s j with
   |error k=>rfl
   |ok r=>rfl
 .rw[show 6-ds.length=0 by omega,yb,jt,b3_];simp only;cases pT s j with
  |error k=>rfl
  |ok r=>rfl
structure SMm(w:World)(bp:Nat)(s:BA)(j:Nat)(sv:Value)(ds:List PD)(xs:List Value)(W:World):Prop where
 A:AM w bp s j (w.heap.size+1) [sv,.nilIface] 55 173 3 sv ds.length xs W
 D:qE W (λg=>w.heap.size+1+1<=g/\sv.ownBlock≠some g) s ds xs
 R:Blk W w.heap.size [L_,.nilIface] 55
section
variable {w W W':World} {bp:Nat} {s:BA} {j j':Nat} {sv:Value} {ds:List PD} {xs:List Value}
def SMm.call(M:SMm w bp s j sv ds xs W)(h:PAt W' bp s j')(hf:Fr W W' (· = bp)):SMm w bp s j' sv ds xs W':=by
 have h1:=M.A.lt;exact⟨M.A.call h hf,M.D.fr hf (λg hg e=>M_),hf.bl M.R M_⟩
def SMm.alloc(M:SMm w bp s j sv ds xs W)(o:Obj):SMm w bp s j sv ds xs (W.alloc o):=M.call (C_ M.A.here o) ((A_ W _).alloc o)
def SMm.si(M:SMm w bp s j sv ds xs W)(a:zq W W'):SMm w bp s j sv ds xs W':=M.call (M.A.here.si a) ((A_ W _).si a)
def SMm.item(M:SMm w bp s j sv ds xs W){o:Obj}{h:World}{f c:Value}(hg:(W.alloc o).grownBy h sv.ownBlock)(ho:h.ownsRow (w.heap.size+1+1) 173 3 f (ds.length+1) (xs++[I_ d.place,U_ d.letter,c]))(hl:f.ownBlock=sv.ownBlock\/f.ownBlock=some (W.alloc o).heap.size)(hv:ye W (λg=>w.heap.size+1+1<=g/\sv.ownBlock≠some g) s d.body c):SMm w bp s j f (ds++[d]) (xs++[I_ d.place,U_ d.letter,c]) (h.setCell ⟨w.heap.size+1,0,none⟩ f):=by
 obtain⟨h1,h,l⟩:=M.A.item ((A_ W _).alloc o) hg ho hl 0;have off:∀g,(w.heap.size+1+1<=g/\sv.ownBlock≠some g)/\g<W.heap.size->¬(sv.ownBlock=some g\/g=w.heap.size+1):=λg hg e=>by
  rcases e with e|e
  .exact hg.1.2 e
  .have:=hg.1.1;omega
 have k:∀g,(w.heap.size+1+1<=g/\sv.ownBlock≠some g)/\g<W.heap.size->w.heap.size+1+1<=g/\f.ownBlock≠some g:=λg hg=>⟨hg.1.1,λe=>by
  rcases(l g e).2 with q|q
  .exact hg.1.2 q
  .have:=hg.2;omega⟩
 refine⟨?_,qE.snoc (((M.D.mono (Q:=λg=>(w.heap.size+1+1<=g/\sv.ownBlock≠some g)/\g<W.heap.size) (λ_ a b=>⟨b,a⟩)).fr h off).mono (λg _ hg=>k g hg)) M.A.row.1 (((hv.mono (Q:=λg=>(w.heap.size+1+1<=g/\sv.ownBlock≠some g)/\g<W.heap.size) (λ_ a b=>⟨b,a⟩)).fr h off).mono (λg _ hg=>k g hg)),h.bl M.R (λe=>?_)⟩
 .rw[ai_,av_];exact h1
 .rcases e with e|e
  .have:=M.A.row.lt _ e;omega
  .omega
end
def Kl:Tryz.prog.underlying 51=some (.slice 173):=K_
def Ft:(Tryz.prog.info? 173).map (λi=>(i.zero,i.size,i.bytes))=some (some (.agg #[O_,.int .u8 0,.nilIface]),3,32):=K_
def QL(w:World)(bp:Nat)(s:BA)(m:Nat)(W:World):Prop:=
 ∃j sv ds xs,SMm w bp s j sv ds xs W/\j<=s.size/\ds.length<=6/\7-ds.length<=m/\yb s 6 0=jt ds (yb s (6-ds.length) j)
def Fr.pa(w:World)(b:Nat)(a c:Value):Fr w ((w.setCell ⟨b,0,none⟩ a).setCell ⟨b,1,none⟩ c) (λg=>g=b):=
 ((A_ w (λg=>g=b)).setCell ⟨b,0,none⟩ a (λ_=>rfl)).setCell ⟨b,1,none⟩ c (λ_=>rfl)
def Z_:=@Fr.pa
def Blk.pa{w:World}{b t:Nat}{u0 a:Value}(h:Blk w b [u0,a] t)(a c:Value):Blk ((w.setCell ⟨b,0,none⟩ a).setCell ⟨b,1,none⟩ c) b [a,c] t:=(h.set 0 a).set 1 c
def X_:=@Blk.pa
def vM{w W:World}{bp:Nat}{s:BA}{k:Nat}{a:Value}(hk:ze s=.error k)(c:zT W lo a (k:Int) (.iface et ex))(hf:Fr w W (· = bp))(b:w.heap.size<lo):cZ w bp s et ex (.returned (.tuple #[.agg #[L_,.nilIface],a])) ((W.setCell ⟨w.heap.size,0,none⟩ (L_)).setCell ⟨w.heap.size,1,none⟩ .nilIface):=by
 have b:=Z_ W w.heap.size (L_) .nilIface;refine⟨_,_,a,rfl,⟨_,_,_,rfl⟩,.inl rfl,hf.trans b (λx hx e=>M_),?_⟩;rw[hk];exact(c.fr b (λg hg e=>M_)).ls M_
def sQ{w:World}{bp:Nat}{s:BA}(h:PAt w bp s 0)(U:gI w et ex)(G:bp≠0)(hs:s.size<=300):Calls prog 43 #[P_ bp] w (cZ w bp s et ex):=by
 obtain⟨f3,Q_⟩:=y_ (cZ w bp s et ex);rw[<- Q_.o];have e3:=h.lt;have start:QL w bp s 7 ((w.alloc (.cells #[L_,.nilIface] 55)).alloc (.cells #[L_,.nilIface] 55)):=by
  refine⟨0,L_,[],[],⟨⟨C_ (C_ h _) _,((A_ w _).alloc _).alloc _,e3,M_,by simp,?_,World.ownsRow_nil _ _ _ _⟩,λi d e=>by simp at e,(B_ w #[L_,.nilIface] 55).alloc _⟩,al_ _,by simp,by simp,(ci _).symm⟩;have:=B_ (w.alloc (.cells #[L_,.nilIface] 55)) #[L_,.nilIface] 55;simpa using this
 replace start:=zy start;replace U:=zy U;clear h;go_in;go_wp2_with fail;go_loopg [] 7 (λm W=>QL w bp s m W);case atStart=>exact start.o
 case round=>
  clear start;obtain⟨j,sv,ds,xs,M,V,d8,hm,I⟩:=hrel;obtain⟨sa,sc,rfl⟩:=zl M.A.row;have a9:=M.A.fr.size;have f6:=M.A.hB;have s0:=M.A.b.c0;replace M:=zy M;by_cases h6:ds.length<6
  .have d9:(ds.length:Int)<6:=M_;cases T:atD s j with
   |true=>
    have hd:zp (bt s j)=true/\j+1<s.size/\bt s (j+1)=61:=by
     unfold atD at T;simpa[and_assoc] using T
    have b7:j+2<=s.size:=M_;rw[show 6-ds.length=(5-ds.length)+1 by omega,km,i_ ⟨hd.1,hd.2.1⟩,i_ hd.2.2]at I;replace T:=zy T;obtain⟨x,hx⟩:=x_ (bt s j);rw[hx]at I;replace hx:=zy hx;clear hd;cases hp:yZ s (j+2) with
    |error k=>
     have Z:=zy (show ze s=.error k by unfold ze;rw[I,hp]);replace hp:=zy hp;go_wp2_with (first
      |(go_at_call 65;refine(ju M.o.A.here hs V).mono ?_;rintro e w1 ⟨rfl,X⟩;rw[T.o];have l:=M.o.si X;have H:=zy (uO l.A.here (U.o.fr l.A.fr (Ne.symm G)) G hs b7 (λpb q e=>fi e));have a7:=l.A.hB;replace l:=zy l)
      |(go_at_call 66;refine H.o.mono ?_;rintro e w2 ⟨a,b,c,ev,rfl,a6,E,hm⟩;rw[hp.o]at hm;obtain⟨⟨g,a3,rfl,p⟩,_⟩:=hm;rcases a6 with rfl|⟨cT,cx,rfl⟩;have f:=(E.bl l.o.R M_).alloc (.cells #[.int .i64 a,.int .u8 b,.nilIface] 173);have r0:=f.c0;have r1:=f.c1;have g0:=f.th 0;have g1:=f.th 1;replace f:=zy f;replace E:=zy E;replace p:=zy p;rotate_left;have f:=(E.bl l.o.R M_).alloc (.cells #[.int .i64 a,.int .u8 b,.iface cT cx] 173);have r0:=f.c0;have r1:=f.c1;have g0:=f.th 0;have g1:=f.th 1;replace f:=zy f;replace E:=zy E;replace p:=zy p))
     all_goals
      have B:=X_ f.o (L_) .nilIface;have J:=B.c0;have K:=B.c1;refine bodyPost_ret (v:=.tuple #[.agg #[L_,.nilIface],.iface 179 (P_ g)]) (by simp[results,results43,go_sem,J,K]) rfl ?_;rw[Q_.o];exact vM Z.o (lo:=w1.heap.size) ⟨g,a3,rfl,p.o.alloc _⟩ ((l.o.A.fr.trans E.o u_).alloc _) M_
    |ok r=>
     obtain⟨pb,j2⟩:=r;rw[hp]at I;simp only at I;by_cases a4:bt s j2=59
     .rw[i_ a4]at I;replace I:=zy I;replace hp:=zy hp;replace a4:=zy a4;obtain⟨ti,e4,e6,e7,e8⟩:=info_parts Ft;go_wp2_with (first
       |(go_at_call 65;refine(ju M.o.A.here hs V).mono ?_;rintro e w1 ⟨rfl,X⟩;rw[T.o];have l:=M.o.si X;have H:=zy (uO l.A.here (U.o.fr l.A.fr (Ne.symm G)) G hs b7 (λpb q e=>fi e));have a7:=l.A.hB;replace l:=zy l)
       |(go_at_call 66;refine H.o.mono ?_;rintro e w2 ⟨a,b,c,ev,rfl,a6,E,hm⟩;rw[hp.o]at hm;simp only[]at hm;rw[i_ a4.o,hx.o]at hm;obtain⟨rfl,h2,e9,rfl,rfl,hv⟩:=hm;obtain⟨cT,cx,rfl⟩:=hv.iface;have M2:=(l.o.call h2 E).alloc (.cells #[I_ j,U_ x,.iface cT cx] 173);have f1:=zy ((hv.mono (Q:=λg=>w.heap.size+1+1<=g/\(Value.slice sa ds.length sc).ownBlock≠some g) (λg _ hg=>⟨M_,λe=>by have:=l.o.A.row.lt g e;omega⟩)).fr ((A_ w2 N_).alloc (.cells #[I_ j,U_ x,.iface cT cx] 173)) u_);have N2:=B_ w2 #[I_ j,U_ x,.iface cT cx] 173;have t0:=M2.A.b.c0;obtain⟨n0,n1,n2⟩:=N2.d3;have f7:=(l.o.call h2 E).A.hB;replace M2:=zy M2;clear h2 hv N2 a6 E)
       |(at_builtin;go_must (refine wpList_append_own_at _ rfl _ _ 51 rfl (w.heap.size+1+1) 173 ti _ 3 32 Kl e4 e6 e7 e8 rfl D_ (.slice sa ds.length sc) ds.length xs rfl ?hown _ 1 1 [I_ j,U_ x,.iface cT cx] rfl rfl (zN _ #[I_ j,U_ x,.iface cT cx] _ _ ?nn) ?one ?b1 ?b2 ?b3 ?_)
         case hown=>exact World.ownsRow.alloc M2.o.A.row _
         case nn=>simp
         case one=>simp[Value.oneCell']
         case b1=>unfold maxLen;omega
         case b2=>omega
         case b3=>simp;omega
         intro v5 w5 b9 b6 f0 d7
         have C:=M2.o.item (d:=⟨x,j,pb⟩) b6 b9 d7 f1.o
         have B5:=M2.o.A.ie ((A_ _ _).alloc _) b6
         have e5:=B5.c0
         have f5:=B5.th 0
         obtain⟨g5,f4,rfl⟩:=zm b9 M_
         clear b6 d7 f0 b9 B5
         replace C:=zy C))
      go_roundg (7-(ds.length+1));case measure=>omega
      case rel=>exact⟨j2+1,_,ds++[⟨x,j,pb⟩],_,C.o,e9,by rw[ai_,av_];omega,by rw[ai_,av_];omega,by rw[ai_,av_,show 6-(ds.length+1)=5-ds.length by omega];exact I.o⟩
     .rw[n_ a4]at I;have Z:=zy (show ze s=.error j2 by unfold ze;rw[I]);replace hp:=zy hp;replace a4:=zy a4;go_wp2_with (first
       |(go_at_call 65;refine(ju M.o.A.here hs V).mono ?_;rintro e w1 ⟨rfl,X⟩;rw[T.o];have l:=M.o.si X;have H:=zy (uO l.A.here (U.o.fr l.A.fr (Ne.symm G)) G hs b7 (λpb q e=>fi e));have a7:=l.A.hB;replace l:=zy l)
       |(go_at_call 66;refine H.o.mono ?_;rintro e w2 ⟨a,b,c,ev,rfl,a6,E,hm⟩;rw[hp.o]at hm;simp only[]at hm;rw[n_ a4.o]at hm;obtain⟨⟨g,a3,rfl,p⟩,_⟩:=hm;rcases a6 with rfl|⟨cT,cx,rfl⟩;have f:=(E.bl l.o.R M_).alloc (.cells #[.int .i64 a,.int .u8 b,.nilIface] 173);have r0:=f.c0;have r1:=f.c1;have g0:=f.th 0;have g1:=f.th 1;replace f:=zy f;replace E:=zy E;replace p:=zy p;rotate_left;have f:=(E.bl l.o.R M_).alloc (.cells #[.int .i64 a,.int .u8 b,.iface cT cx] 173);have r0:=f.c0;have r1:=f.c1;have g0:=f.th 0;have g1:=f.th 1;replace f:=zy f;replace E:=zy E;replace p:=zy p))
      all_goals
       have B:=X_ f.o (L_) .nilIface;have J:=B.c0;have K:=B.c1;refine bodyPost_ret (v:=.tuple #[.agg #[L_,.nilIface],.iface 179 (P_ g)]) (by simp[results,results43,go_sem,J,K]) rfl ?_;rw[Q_.o];exact vM Z.o (lo:=w1.heap.size) ⟨g,a3,rfl,p.o.alloc _⟩ ((l.o.A.fr.trans E.o u_).alloc _) M_
   |false=>
    have a5:=zy (bJ I d8 (by rw[T];exact λe=>absurd e.2 D_));replace T:=zy T;clear I;obtain⟨R_,e2⟩:=x_ (pT s j);have b5:=(xx (s:=s) V);cases hp:pT s j with
    |error k=>
     have Z:=zy (show ze s=.error k by rw[a5.o,hp]);replace hp:=zy hp;go_wp2_with (first
      |(go_at_call 65;refine(ju M.o.A.here hs V).mono ?_;rintro e w1 ⟨rfl,X⟩;rw[T.o];have l:=M.o.si X;have H:=zy (kq hs _ j l_ V _ bp et ex l.A.here (U.o.fr l.A.fr (Ne.symm G)) G);replace l:=zy l)
      |(go_at_call 67;refine H.o.mono ?_;rintro e F ⟨v,ev,_,rfl,u,hm⟩;rw[hp.o]at hm;obtain⟨⟨g,a3,rfl,p⟩,_⟩:=hm;have f:=u.bl l.o.R M_;have r0:=f.c0;have r1:=f.c1;have g0:=f.th 0;have g1:=f.th 1;replace f:=zy f;replace u:=zy u;replace p:=zy p))
     have B:=X_ f.o (L_) .nilIface;have J:=B.c0;have K:=B.c1;refine bodyPost_ret (v:=.tuple #[.agg #[L_,.nilIface],.iface 179 (P_ g)]) (by simp[results,results43,go_sem,J,K]) rfl ?_;rw[Q_.o];exact vM Z.o (lo:=wr.heap.size) ⟨g,by have:=((A_ wr N_).si X).size;omega,rfl,p.o⟩ (l.o.A.fr.trans u.o u_) M_
    |ok r=>
     obtain⟨t,k⟩:=r;have hk:=b5.1 t k hp;by_cases a8:k<s.size
     .have Z:=zy (show ze s=.error k by rw[a5.o,hp];simp only;rw[i_ a8]);have b8:(k:Int)<(s.size:Int):=M_;replace hp:=zy hp;go_wp2_with (first
       |(go_at_call 65;refine(ju M.o.A.here hs V).mono ?_;rintro e w1 ⟨rfl,X⟩;rw[T.o];have l:=M.o.si X;have H:=zy (kq hs _ j l_ V _ bp et ex l.A.here (U.o.fr l.A.fr (Ne.symm G)) G);have a7:=l.A.hB;replace l:=zy l)
       |(go_at_call 67;refine H.o.mono ?_;rintro e F ⟨v,ev,_,rfl,u,hm⟩;rw[hp.o]at hm;obtain⟨rfl,Y,hv⟩:=hm;obtain⟨N,O,rfl⟩:=hv.iface;have z:=l.o.call Y u;have c0:=z.A.here.c0;have c1:=z.A.here.c1;replace z:=zy z;clear u Y hv))
      go_quiet (fail);have n:=z.o.si (zq.drewN F nq);generalize a0:F.drewN nq=W4 at n⊢
      clear a0;have b4:=zy (xW n.A.here (U.o.fr n.A.fr (Ne.symm G)));replace n:=zy n;go_wp2_with (go_at_call 68;refine b4.o.mono ?_;rintro e w5 ⟨v5,rfl,⟨g,a3,rfl,p⟩,a1⟩;have f:=a1.bl n.o.R id;have r0:=f.c0;have r1:=f.c1;have g0:=f.th 0;have g1:=f.th 1;replace f:=zy f;replace a1:=zy a1;replace p:=zy p);have B:=X_ f.o (L_) .nilIface;have J:=B.c0;have K:=B.c1;refine bodyPost_ret (v:=.tuple #[.agg #[L_,.nilIface],.iface 179 (P_ g)]) (by simp[results,results43,go_sem,J,K]) rfl ?_;rw[Q_.o];have a9:=n.o.A.hB;exact vM Z.o (lo:=W4.heap.size) ⟨g,a3,rfl,p.o⟩ (n.o.A.fr.trans a1.o v_) M_
     .have d2:=zy (show ze s=.ok (ds,t) by rw[a5.o,hp];simp only;rw[n_ a8]);have b8:¬((k:Int)<(s.size:Int)):=M_;replace hp:=zy hp;go_wp2_with (first
       |(go_at_call 65;refine(ju M.o.A.here hs V).mono ?_;rintro e w1 ⟨rfl,X⟩;rw[T.o];have l:=M.o.si X;have H:=zy (kq hs _ j l_ V _ bp et ex l.A.here (U.o.fr l.A.fr (Ne.symm G)) G);have a7:=l.A.hB;replace l:=zy l)
       |(go_at_call 67;refine H.o.mono ?_;rintro e F ⟨v,ev,_,rfl,u,hm⟩;rw[hp.o]at hm;obtain⟨rfl,Y,hv⟩:=hm;obtain⟨N,O,rfl⟩:=hv.iface;have z:=l.o.call Y u;have c0:=z.A.here.c0;have c1:=z.A.here.c1;have hV:=zy (hv.mono (Q:=λg=>w.heap.size+1+1<=g) (λg _ hg=>M_));replace z:=zy z;clear u Y hv))
      go_quiet (fail);have n:=z.o.si (zq.drewN F nq);have V4:=hV.o.fr ((A_ F N_).si (zq.drewN F nq)) u_;generalize a0:F.drewN nq=W4 at n V4⊢;clear a0;have C:=n.A.put 1 (.iface N O);have a2:Fr W4 (W4.setCell ⟨w.heap.size+1,1,none⟩ (.iface N O)) (λg=>g=w.heap.size+1):=(A_ W4 (λg=>g=w.heap.size+1)).setCell ⟨w.heap.size+1,1,none⟩ _ (λ_=>rfl);have f:=a2.bl n.R M_;have k1:=n.A.b.cell 1;have kg:=n.A.b.th 1;have e0:=C.b.cell 0;have e1:=C.b.cell 1;have r0:=f.cell 0;have r1:=f.cell 1;have g0:=f.th 0;have g1:=f.th 1;simp only[am_,an_,aa_,ab_]at k1 e0 e1 r0 r1;have D5:=n.D.fr a2 (λg hg e=>M_);have V5:=zy (V4.fr a2 (λg hg e=>M_));replace C:=zy C;replace n:=zy n;replace D5:=zy D5;replace f:=zy f;clear a2 V4;go_wp2_with fail;have B:=X_ f.o (.slice sa ds.length sc) (.iface N O);have J:=B.c0;have K:=B.c1;refine bodyPost_ret (v:=.tuple #[.agg #[.slice sa ds.length sc,.iface N O],.nilIface]) (by simp[results,results43,go_sem,J,K]) rfl ?_;rw[Q_.o];have h4:=Z_ (W4.setCell ⟨w.heap.size+1,1,none⟩ (.iface N O)) w.heap.size (.slice sa ds.length sc) (.iface N O);refine⟨_,_,_,rfl,⟨_,_,_,rfl⟩,.inr ⟨_,_,rfl⟩,C.o.fr.trans h4 (λy hy e=>M_),?_⟩;rw[d2.o];refine⟨rfl,xs,zS (zj C.o.row h4 (λg hg e=>by have:=C.o.row.lt g hg;omega)),λg hg=>by have:=C.o.row.lt g hg;omega,(D5.o.fr h4 (λg hg e=>M_)).mono (λg _ hg=>by have:=hg.1;omega),(V5.o.fr h4 (λg hg e=>M_)).mono (λg _ hg=>M_)⟩
  .have d9:¬((ds.length:Int)<6):=M_;have a5:=zy (bJ I d8 (λe=>h6 e.1));have H:=zy (kq hs _ j l_ V _ bp et ex M.o.A.here (U.o.fr M.o.A.fr (Ne.symm G)) G);have l:=M;clear I;obtain⟨R_,e2⟩:=x_ (pT s j);have b5:=(xx (s:=s) V);cases hp:pT s j with
   |error k=>
    have Z:=zy (show ze s=.error k by rw[a5.o,hp]);replace hp:=zy hp;go_wp2_with (first
     |(go_at_call 67;refine H.o.mono ?_;rintro e F ⟨v,ev,_,rfl,u,hm⟩;rw[hp.o]at hm;obtain⟨⟨g,a3,rfl,p⟩,_⟩:=hm;have f:=u.bl l.o.R M_;have r0:=f.c0;have r1:=f.c1;have g0:=f.th 0;have g1:=f.th 1;replace f:=zy f;replace u:=zy u;replace p:=zy p))
    have B:=X_ f.o (L_) .nilIface;have J:=B.c0;have K:=B.c1;refine bodyPost_ret (v:=.tuple #[.agg #[L_,.nilIface],.iface 179 (P_ g)]) (by simp[results,results43,go_sem,J,K]) rfl ?_;rw[Q_.o];exact vM Z.o (lo:=wr.heap.size) ⟨g,M_,rfl,p.o⟩ (l.o.A.fr.trans u.o u_) M_
   |ok r=>
    obtain⟨t,k⟩:=r;have hk:=b5.1 t k hp;by_cases a8:k<s.size
    .have Z:=zy (show ze s=.error k by rw[a5.o,hp];simp only;rw[i_ a8]);have b8:(k:Int)<(s.size:Int):=M_;replace hp:=zy hp;go_wp2_with (first
      |(go_at_call 67;refine H.o.mono ?_;rintro e F ⟨v,ev,_,rfl,u,hm⟩;rw[hp.o]at hm;obtain⟨rfl,Y,hv⟩:=hm;obtain⟨N,O,rfl⟩:=hv.iface;have z:=l.o.call Y u;have c0:=z.A.here.c0;have c1:=z.A.here.c1;replace z:=zy z;clear u Y hv))
     go_quiet (fail);have n:=z.o.si (zq.drewN F nq);generalize a0:F.drewN nq=W4 at n⊢
     clear a0;have b4:=zy (xW n.A.here (U.o.fr n.A.fr (Ne.symm G)));replace n:=zy n;go_wp2_with (go_at_call 68;refine b4.o.mono ?_;rintro e w5 ⟨v5,rfl,⟨g,a3,rfl,p⟩,a1⟩;have f:=a1.bl n.o.R id;have r0:=f.c0;have r1:=f.c1;have g0:=f.th 0;have g1:=f.th 1;replace f:=zy f;replace a1:=zy a1;replace p:=zy p);have B:=X_ f.o (L_) .nilIface;have J:=B.c0;have K:=B.c1;refine bodyPost_ret (v:=.tuple #[.agg #[L_,.nilIface],.iface 179 (P_ g)]) (by simp[results,results43,go_sem,J,K]) rfl ?_;rw[Q_.o];have a9:=n.o.A.hB;exact vM Z.o (lo:=W4.heap.size) ⟨g,a3,rfl,p.o⟩ (n.o.A.fr.trans a1.o v_) M_
    .have d2:=zy (show ze s=.ok (ds,t) by rw[a5.o,hp];simp only;rw[n_ a8]);have b8:¬((k:Int)<(s.size:Int)):=M_;replace hp:=zy hp;go_wp2_with (first
      |(go_at_call 67;refine H.o.mono ?_;rintro e F ⟨v,ev,_,rfl,u,hm⟩;rw[hp.o]at hm;obtain⟨rfl,Y,hv⟩:=hm;obtain⟨N,O,rfl⟩:=hv.iface;have z:=l.o.call Y u;have c0:=z.A.here.c0;have c1:=z.A.here.c1;have hV:=zy (hv.mono (Q:=λg=>w.heap.size+1+1<=g) (λg _ hg=>M_));replace z:=zy z;clear u Y hv))
     go_quiet (fail);have n:=z.o.si (zq.drewN F nq);have V4:=hV.o.fr ((A_ F N_).si (zq.drewN F nq)) u_;generalize a0:F.drewN nq=W4 at n V4⊢;clear a0;have C:=n.A.put 1 (.iface N O);have a2:Fr W4 (W4.setCell ⟨w.heap.size+1,1,none⟩ (.iface N O)) (λg=>g=w.heap.size+1):=(A_ W4 (λg=>g=w.heap.size+1)).setCell ⟨w.heap.size+1,1,none⟩ _ (λ_=>rfl);have f:=a2.bl n.R M_;have k1:=n.A.b.cell 1;have kg:=n.A.b.th 1;have e0:=C.b.cell 0;have e1:=C.b.cell 1;have r0:=f.cell 0;have r1:=f.cell 1;have g0:=f.th 0;have g1:=f.th 1;simp only[am_,an_,aa_,ab_]at k1 e0 e1 r0 r1;have D5:=n.D.fr a2 (λg hg e=>M_);have V5:=zy (V4.fr a2 (λg hg e=>M_));replace C:=zy C;replace D5:=zy D5;replace f:=zy f;clear a2 V4;go_wp2_with fail;have B:=X_ f.o (.slice sa ds.length sc) (.iface N O);have J:=B.c0;have K:=B.c1;refine bodyPost_ret (v:=.tuple #[.agg #[.slice sa ds.length sc,.iface N O],.nilIface]) (by simp[results,results43,go_sem,J,K]) rfl ?_;rw[Q_.o];have h4:=Z_ (W4.setCell ⟨w.heap.size+1,1,none⟩ (.iface N O)) w.heap.size (.slice sa ds.length sc) (.iface N O);refine⟨_,_,_,rfl,⟨_,_,_,rfl⟩,.inr ⟨_,_,rfl⟩,C.o.fr.trans h4 (λy hy e=>M_),?_⟩;rw[d2.o];refine⟨rfl,xs,zS (zj C.o.row h4 (λg hg e=>by have:=C.o.row.lt g hg;omega)),λg hg=>by have:=C.o.row.lt g hg;omega,(D5.o.fr h4 (λg hg e=>M_)).mono (λg _ hg=>by have:=hg.1;omega),(V5.o.fr h4 (λg hg e=>M_)).mono (λg _ hg=>M_)⟩
def xH(m:Int)(L:List Nat):Int:=L.foldl (λ(m:Int) (p:Nat)=>zX (p:Int) m) m
def yt(m:Int)(L M:List Nat):xH m (L++M)=xH (xH m L) M:=by simp[xH]
def qC(m:Int)(p:Nat)(L:List Nat):xH m (p::L)=xH (zX (p:Int) m) L:=rfl
def JK(m:Int):xH m []=m:=rfl
def tS(a b:Nat)(m:Int):zX (a:Int) (zX (b:Int) m)=zX (b:Int) (zX (a:Int) m):=by
 unfold zX;by_cases h1:m<0\/(b:Int)<m<;>by_cases c:m<0\/(a:Int)<m
 .rw[i_ h1,i_ c];split<;>split<;>omega
 .rw[i_ h1,n_ c];split<;>(try split)<;>omega
 .rw[n_ h1,i_ c];split<;>omega
 .rw[n_ h1,n_ c,n_ h1]
def gV(p:Nat)(L:List Nat):∀m,xH (zX (p:Int) m) L=zX (p:Int) (xH m L):=by
 induction L with
 |nil=>intro m;rfl
 |cons a r ih=>intro m;rw[qC,qC,tS,ih]
def JW(L:List Nat):∀n:Nat,∃x:Nat,xH (n:Int) L=(x:Int)/\(x=n\/x∈L)/\x<=n/\∀y∈L,x<=y:=by
 induction L with
 |nil=>intro n;exact⟨n,rfl,.inl rfl,l_,λy h=>by simp at h⟩
 |cons a r ih=>
  intro n;by_cases h:a<n
  .obtain⟨x,h1,b,c,e⟩:=ih a;refine⟨x,?_,.inr ?_,M_,λy hy=>?_⟩
   .rw[qC,show zX (a:Int) (n:Int)=(a:Int) by unfold zX;rw[i_ (.inr M_)]];exact h1
   .rcases b with b|b
    .rw[b];simp
    .simp[b]
   .rcases ao_.1 hy with rfl|hy
    .exact c
    .exact e y hy
  .obtain⟨x,h1,b,c,e⟩:=ih n;refine⟨x,?_,?_,c,λy hy=>?_⟩
   .rw[qC,show zX (a:Int) (n:Int)=(n:Int) by unfold zX;rw[n_ M_]];exact h1
   .rcases b with b|b
    .exact .inl b
    .exact .inr (by simp[b])
   .rcases ao_.1 hy with rfl|hy
    .omega
    .exact e y hy
def wU(L:List Nat):(L=[]/\xH (-1) L = -1)\/∃x∈L,xH (-1) L=(x:Int)/\∀y∈L,x<=y:=by
 cases L with
 |nil=>exact .inl ⟨rfl,rfl⟩
 |cons a r=>
  right;obtain⟨x,h1,b,c,e⟩:=JW r a;refine⟨x,?_,?_,λy hy=>?_⟩
  .rcases b with b|b
   .rw[b];simp
   .simp[b]
  .rw[qC,show zX (a:Int) (-1)=(a:Int) by unfold zX;rw[i_ (.inl M_)]];exact h1
  .rcases ao_.1 hy with rfl|hy
   .exact c
   .exact e y hy
def lO{M:List Nat}(h:∀x,x∈L↔x∈M):xH (-1) L=xH (-1) M:=by
 rcases wU L with⟨rfl,e⟩|⟨x,hx,e,hl⟩
 .rcases wU M with⟨rfl,a⟩|⟨y,hy,_,_⟩
  .rfl
  .exact absurd ((h y).2 hy) (by simp)
 .rcases wU M with⟨rfl,a⟩|⟨y,hy,a,hm⟩
  .exact absurd ((h x).1 hx) (by simp)
  .have h1:=hl y ((h y).2 hy);have b:=hm x ((h x).1 hx);rw[e,a];omega
def Asc(lo hi:Nat):List Nat->Prop
 | []=>lo<=hi
 |x::r=>lo<=x/\Asc (x+1) hi r
def Asc.le(h:Asc lo hi L):lo<=hi:=by
 induction L generalizing lo with
 |nil=>exact h
 |cons x r ih=>have:=ih h.2;have:=h.1;omega
def Asc.up{a:Nat}(h:Asc lo hi L)(hl:a<=lo):Asc a hi L:=by
 cases L with
 |nil=>exact ak_ hl h
 |cons x r=>exact⟨ak_ hl h.1,h.2⟩
def Asc.wide{a:Nat}(h:Asc lo hi L)(hl:hi<=a):Asc lo a L:=by
 induction L generalizing lo with
 |nil=>exact ak_ h hl
 |cons x r ih=>exact⟨h.1,ih h.2⟩
def Asc.append{a:Nat}{M:List Nat}(h:Asc lo a L)(k:Asc a hi M):Asc lo hi (L++M):=by
 induction L generalizing lo with
 |nil=>exact k.up h
 |cons x r ih=>exact⟨h.1,ih h.2⟩
def Asc.ge(h:Asc lo hi L):∀y∈L,lo<=y:=by
 induction L generalizing lo with
 |nil=>intro y hy;simp at hy
 |cons x r ih=>
  intro y hy;rcases ao_.1 hy with rfl|hy
  .exact h.1
  .have:=ih h.2 y hy;have:=h.1;omega
def Asc.filter{l:List (Nat×Nat)}(p:Nat×Nat->Bool)(h:Asc lo hi (l.map Prod.snd)):Asc lo hi ((l.filter p).map Prod.snd):=by
 induction l generalizing lo with
 |nil=>exact h
 |cons x r ih=>
  rw[List.filter_cons];split
  .exact⟨h.1,ih h.2⟩
  .exact(ih h.2).up (by have:=h.1;omega)
def xF(env:Nat->Option PB)(us:List (Nat×Nat)):List Nat:=(us.filter (λu=>(env u.1).isNone)).map Prod.snd
def oT(seen:List Nat):List PF->List Nat
 | []=>[]
 |f::r=>(if f.letter∈seen then [f.place] else [])++oT (seen++[f.letter]) r
def qT(seen:List Nat):List (Nat×Nat)->List Nat
 | []=>[]
 |q::r=>(if q.1∈seen then [q.2] else [])++qT (seen++[q.1]) r
def uw(l:List (Nat×Nat)):Option (Nat×Nat)->List Nat
 |none=>[]
 |some (c,p)=>if c∈l.map Prod.fst then [] else [p]
def PB.dup:PB->List Nat
 | .recd fs=>oT [] fs
 | .enum l o=>qT [] l++uw l o
 | .bytes _=>[]
def py(seen:List Nat):List PD->List Nat
 | []=>[]
 |d::r=>d.body.dup++(if d.letter∈seen then [d.place] else [])++py (seen++[d.letter]) r
def uX(c:Prop)[Decidable c](p:Nat)(m:Int):xH m (if c then [p] else [])=if c then zX (p:Int) m else m:=by
 split<;>rfl
def Vo(fs:List PF):∀a m,wrF a fs m=xH m (oT a fs):=by
 induction fs with
 |nil=>intro a m;rfl
 |cons f r ih=>intro a m;rw[wrF,oT,ih,yt,uX]
def Ve(l:List (Nat×Nat)):∀a m,wrS a l m=xH m (qT a l):=by
 induction l with
 |nil=>intro a m;rfl
 |cons f r ih=>intro a m;rw[wrS,qT,ih,yt,uX]
def PB.wr_minf(b:PB)(m:Int):b.wr m=xH m b.dup:=by
 cases b with
 |recd fs=>exact Vo fs [] m
 |bytes n=>rfl
 |enum l o=>
  show wrE l o m=xH m (qT [] l++uw l o);rw[yt,<- Ve]
  match o with
  |none=>rfl
  |some (c,p)=>
   simp only[wrE,uw];split<;>rfl
def Vb(ds:List PD):∀a m,jK a ds m=xH m (py a ds):=by
 induction ds with
 |nil=>intro a m;rfl
 |cons d r ih=>intro a m;rw[jK,py,ih,yt,yt,uX,PB.wr_minf]
def Vs(env:Nat->Option PB)(us:List (Nat×Nat)):∀m,wrU env us m=xH m (xF env us):=by
 induction us with
 |nil=>intro m;rfl
 |cons u r ih=>
  intro m;have h:=ih (if (env u.1).isNone=true then zX (u.2:Int) m else m);show wrU env r (if (env u.1).isNone=true then zX (u.2:Int) m else m)=_;rw[h];unfold xF;rw[List.filter_cons];split<;>rfl
def fL(env:Nat->Option PB)(seen:List Nat):List PF->List Nat
 | []=>[]
 |f::r=>(if f.letter∈seen then [f.place] else [])++(xF env (zZ f.ty)++fL env (seen++[f.letter]) r)
def qu(env:Nat->Option PB):PB->List Nat
 | .recd fs=>fL env [] fs
 | .enum l o=>qT [] l++uw l o
 | .bytes _=>[]
def wo(env:Nat->Option PB)(seen:List Nat):List PD->List Nat
 | []=>[]
 |d::r=>(if d.letter∈seen then [d.place] else [])++(qu env d.body++wo env (seen++[d.letter]) r)
def xY(ds:List PD)(t:PT):List Nat:=wo (zx ds) [] ds++xF (zx ds) (zZ t)
def qr(env:Nat->Option PB)(a b:List (Nat×Nat)):xF env (a++b)=xF env a++xF env b:=by simp[xF]
def Qj(env:Nat->Option PB)(fs:List PF)(x:Nat):∀a,x∈fL env a fs↔x∈oT a fs\/x∈xF env (zY (fs.map PF.ty)):=by
 induction fs with
 |nil=>intro a;simp[fL,oT,zY,xF]
 |cons f r ih=>
  intro a;rw[fL,oT,aw_,zY,qr];simp only[a2_,ih];constructor
  .rintro(h|h|h|h)<;>simp[h]
  .rintro((h|h)|h|h)<;>simp[h]
def Vk(env:Nat->Option PB)(b:PB)(x:Nat):x∈qu env b↔x∈b.dup\/x∈xF env b.us:=by
 cases b with
 |recd fs=>exact Qj env fs x []
 |enum l o=>simp[qu,PB.dup,PB.us,xF]
 |bytes n=>simp[qu,PB.dup,PB.us,xF]
def ei(env:Nat->Option PB)(ds:List PD)(x:Nat):∀a,x∈wo env a ds↔x∈py a ds\/x∈xF env (vS ds):=by
 induction ds with
 |nil=>intro a;simp[wo,py,vS,xF]
 |cons d r ih=>
  intro a;rw[wo,py,vS,qr];simp only[a2_,ih,Vk];constructor
  .rintro(h|(h|h)|h|h)<;>simp[h]
  .rintro(((h|h)|h)|h|h)<;>simp[h]
def mY(ds:List PD)(t:PT):wrU (zx ds) (vS ds++zZ t) (jK [] ds (-1))=xH (-1) (xY ds t):=by
 rw[Vs,Vb,<- yt];refine lO (λx=>?_);simp only[xY,qr,a2_,ei,or_assoc]
mutual
def xv:PT->List Nat
 | .leaf _ _=>[]
 | .wrap _ _ t=>xv t
 | .alts _ ts=>jU [] ts
def jU(seen:List Nat):List PT->List Nat
 | []=>[]
 |t::r=>(if t.kind=40\/t.kind∈seen then [t.place] else [])++(xv t++jU (seen++[t.kind]) r)
end
def tJ(a:List Nat)(t:PT)(m:Int):qk a t m=if t.kind=40\/t.kind∈a then zX (t.place:Int) m else m:=by
 unfold qk zX;by_cases h:t.kind=40\/t.kind∈a
 .rw[i_ h];by_cases a:m<0\/(t.place:Int)<m
  .rw[i_ ⟨h,a⟩,i_ a]
  .rw[n_ (λq=>a q.2),n_ a]
 .rw[n_ (λq=>h q.1),n_ h]
mutual
def fK:∀(t:PT) (m:Int),mix t m=xH m (xv t)
 | .leaf c p,m=>by simp[mix,xv,xH]
 | .wrap c p t,m=>by rw[mix,xv];exact fK t m
 | .alts p ts,m=>by rw[mix,xv];exact lA ts [] m
def lA:∀(ts:List PT) (a:List Nat) (m:Int),jL a ts m=xH m (jU a ts)
 | [],a,m=>by simp[jL,jU,xH]
 |t::r,a,m=>by
  rw[jL,jU,yt,yt,lA r,tJ,fK t m,uX];split
  .rw[gV,gV,gV]
  .rfl
end
def PB.fs:PB->List PF
 | .recd fs=>fs
 | _=>[]
def zk(ds:List PD):List PF:=ds.flatMap (λd=>d.body.fs)
def xZ(ds:List PD)(t:PT):List Nat:=(zk ds).flatMap (λf=>xv f.ty)++xv t
def Xx(fs:List PF):∀m,qM fs m=xH m (fs.flatMap (λf=>xv f.ty)):=by
 induction fs with
 |nil=>intro m;rfl
 |cons f r ih=>
  intro m;rw[bm_,yt,<- fK];exact ih (mix f.ty m)
def Vu(ds:List PD):∀m,jP ds m=xH m ((zk ds).flatMap (λf=>xv f.ty)):=by
 induction ds with
 |nil=>intro m;rfl
 |cons d r ih=>
  intro m;have h:=ih (d.body.mx m);show jP r (d.body.mx m)=_;rw[h];unfold zk;rw[bm_,be_,yt]
  congr 1
  cases d.body with
  |recd fs=>exact Xx fs m
  |enum l o=>rfl
  |bytes n=>rfl
def bZ(ds:List PD)(t:PT):mix t (jP ds (-1))=xH (-1) (xZ ds t):=by
 rw[fK,Vu,xZ,yt]
def dfB(s:BA)(env:Nat->Option PB)(f:PF):List Nat:=
 match f.dflt with|none=>[]|some (a,b)=>if (xu env true f.ty (s.extract a b)).isSome=true then [] else [a]
def aY{s:BA}{f:PF}{j:Nat}(h:zH s i=.ok (f,j)):zh f.letter=true:=by
 unfold zH at h;split at h
 .rename_i a;split at h
  .split at h
   .cases h
   .split at h
    .split at h
     .cases h
     .simp only[ag_,ad_]at h;obtain⟨rfl,rfl⟩:=h;exact a
    .simp only[ag_,ad_]at h;obtain⟨rfl,rfl⟩:=h;exact a
  .cases h
 .cases h
def cq18_{p:Prop}(h:p:=by
 intro n;induction n with
 |zero=>intro i l j h;cases h
 |succ n ih=>
  (first|(have:=cc1;intro i l j h)|(intro i l j h g hg));unfold yK at h;split at h
  .cases h
  .rename_i f k hf;(first|(have:=cc1;obtain⟨h1,c⟩:=ao hs hf)|(have h1:=aY hf));split at h
   .simp only[ag_,ad_]at h;obtain⟨rfl,rfl⟩:=h;(first|(have:=cc1;exact⟨λg hg=>by rw[a1_]at hg;subst hg;exact h1,by simp;omega⟩)|(rw[a1_]at hg;subst hg;exact h1))
   .split at h
    .split at h
     .cases h
     .rename_i fs e hr;(try have:=cc1;obtain⟨a,b⟩:=ih _ _ _ hr);simp only[ag_,ad_]at h;obtain⟨rfl,rfl⟩:=h;(try have:=cc1;refine⟨λg hg=>?_,by simp;omega⟩);rcases ao_.1 hg with rfl|hg
      .exact h1
      ·(first|(have:=cc1;exact a g hg)|(exact ih _ _ _ hr g hg))
    .cases h):p:=h
def tz(s:BA):∀(n i:Nat) (l:List PF) (j:Nat),yK s n i=.ok (l,j)->∀f∈l,zh f.letter=true:=by
 exact cq18_
def sI{s:BA}{l:List PF}{j:Nat}(h:yp s i=.ok (l,j)):∀f∈l,zh f.letter=true:=by
 unfold yp at h;split at h
 .split at h
  .simp only[ag_,ad_]at h;obtain⟨rfl,rfl⟩:=h;simp
  .exact tz s _ _ _ _ h
 .cases h
def aa(s:BA):∀(n i:Nat) (l:List (Nat×Nat)) (j:Nat),vA s n i=.ok (l,j)->(∀q∈l,zh q.1=true)/\l.length+i<=j:=by
 intro n;induction n with
 |zero=>intro i l j h;cases h
 |succ n ih=>
  intro i l j h;unfold vA at h;split at h
  .rename_i b;split at h
   .split at h
    .cases h
    .rename_i r k hr;simp only[ag_,ad_]at h;obtain⟨rfl,rfl⟩:=h;obtain⟨c,e⟩:=ih _ _ _ hr;refine⟨λq a=>?_,by simp;omega⟩;rcases ao_.1 a with rfl|a
     .exact b
     .exact c q a
   .simp only[ag_,ad_]at h;obtain⟨rfl,rfl⟩:=h;refine⟨λq a=>?_,by simp;omega⟩;rw[a1_]at a;subst a;exact b
  .cases h
def lL{s:BA}{l:List (Nat×Nat)}{o:Option (Nat×Nat)}{j:Nat}(h:xz s i=.ok ((l,o),j)):True/\(∀q∈l,zh q.1=true)/\(∀c p,o=some (c,p)->zh c=true)/\l.length+i<=j:=by
 unfold xz at h;split at h
 .split at h
  .cases h
  .rename_i r k hr;obtain⟨a,f⟩:=aa s _ _ _ _ hr;split at h
   .split at h
    .rename_i b;split at h
     .simp only[ag_,ad_]at h;obtain⟨⟨rfl,rfl⟩,rfl⟩:=h;refine⟨trivial,a,λc p e=>?_,M_⟩;simp only[ah_,ad_]at e;rw[<- e.1];exact b
     .cases h
    .cases h
   .split at h
    .simp only[ag_,ad_]at h;obtain⟨⟨rfl,rfl⟩,rfl⟩:=h;exact⟨trivial,a,λc p e=>(nomatch e),M_⟩
    .cases h
 .cases h
def smB:PB->Prop
 | .recd fs=>∀f∈fs,zh f.letter=true
 | .enum l o=>(∀q∈l,zh q.1=true)/\∀c p,o=some (c,p)->zh c=true
 | .bytes _=>True
def YB{s:BA}{b:PB}{j:Nat}(h:yZ s i=.ok (b,j)):smB b:=by
 unfold yZ at h;split at h
 .split at h
  .cases h
  .rename_i ds k hr;simp only[ag_,ad_]at h;obtain⟨rfl,rfl⟩:=h;exact sI hr
 .split at h
  .split at h
   .cases h
   .rename_i l o k hr;simp only[ag_,ad_]at h;obtain⟨rfl,rfl⟩:=h;obtain⟨_,a,c,_⟩:=lL hr;exact⟨a,c⟩
  .split at h
   .split at h
    .simp only[ag_,ad_]at h;obtain⟨rfl,rfl⟩:=h;trivial
    .cases h
   .cases h
def li(d:PD)(r:List PD):zk (d::r)=d.body.fs++zk r:=by simp[zk]
def aV(s:BA):∀(n i:Nat) (ds:List PD) (j:Nat),yb s n i=.ok (ds,j)->
 (∀d∈ds,zp d.letter=true/\smB d.body)/\ds.length<=n:=by
 intro n;induction n with
 |zero=>
  intro i ds j h;simp only[yb,ag_,ad_]at h;obtain⟨rfl,rfl⟩:=h;simp
 |succ n ih=>
  intro i ds j h;unfold yb at h;split at h
  .rename_i hn;split at h
   .split at h
    .cases h
    .rename_i b k hb;have a:=YB hb;split at h
     .split at h
      .cases h
      .rename_i r e hr;simp only[ag_,ad_]at h;obtain⟨rfl,rfl⟩:=h;obtain⟨c,f⟩:=ih _ _ _ hr;refine⟨λd hd=>?_,by simp;omega⟩;rcases ao_.1 hd with rfl|hd
       .exact⟨hn.1,a⟩
       .exact c d hd
     .cases h
   .cases h
  .simp only[ag_,ad_]at h;obtain⟨rfl,rfl⟩:=h;simp
def kB(s:BA)(ds:List PD):List Nat:=(zk ds).flatMap (dfB s (zx ds))
def xA{s:BA}{ds:List PD}{t:PT}(h:ze s=.ok (ds,t)):(xY ds t=[]->wrU (zx ds) (vS ds++zZ t) (jK [] ds (-1)) = -1)/\(xZ ds t=[]->mix t (jP ds (-1)) = -1)/\True/\(∀d∈ds,zp d.letter=true/\smB d.body)/\ds.length<=6:=by
 refine⟨λe=>by rw[mY,e];rfl,λe=>by rw[bZ,e];rfl,trivial,?_⟩;unfold ze at h;split at h
 .cases h
 .rename_i ds' i hd;split at h
  .cases h
  .split at h
   .cases h
   .simp only[ag_,ad_]at h;obtain⟨rfl,rfl⟩:=h;exact aV s _ _ _ _ hd
def XL(s:BA)(env:Nat->Option PB)(fs:List PF):∀m,lY s env fs m=xH m (fs.flatMap (dfB s env)):=by
 induction fs with
 |nil=>intro m;rfl
 |cons f r ih=>
  intro m;rw[bm_,yt];show lY s env r _=_;rw[ih]
  congr 1
  show(match f.dflt with|none=>m|some (a,b)=>if (xu env true f.ty (s.extract a b)).isSome=true then m else zX (a:Int) m)=xH m (match f.dflt with|none=>[]|some (a,b)=>if (xu env true f.ty (s.extract a b)).isSome=true then [] else [a]);cases f.dflt with
  |none=>rfl
  |some q=>
   obtain⟨a,b⟩:=q;show(if (xu env true f.ty (s.extract a b)).isSome=true then m else zX (a:Int) m)=xH m (if (xu env true f.ty (s.extract a b)).isSome=true then [] else [a]);split<;>rfl
def nu(s:BA)(env:Nat->Option PB)(k:Nat):yL s env k=xH (-1) ((List.range k).flatMap (λq=>(yM env q).flatMap (dfB s env))):=by
 induction k with
 |zero=>rfl
 |succ k ih=>rw[yL,XL,ih,bp_,be_,yt];simp
def QP{ds:List PD}:∀{a:List Nat},py a ds=[]->(∀d∈ds,d.letter∉a)/\(ds.map PD.letter).Nodup:=by
 induction ds with
 |nil=>intro a _;exact⟨λd hd=>by simp at hd,by simp⟩
 |cons d r ih=>
  intro a h;rw[py]at h;simp only[bw_]at h;obtain⟨⟨_,c⟩,k⟩:=h;obtain⟨b,f⟩:=ih k;have hd:d.letter∉a:=λhm=>by rw[i_ hm]at c;simp at c
  refine⟨λx hx=>?_,?_⟩
  .rcases ao_.1 hx with rfl|hx
   .exact hd
   .exact λhm=>b x hx (by simp[hm])
  .rw[aw_,List.nodup_cons];refine⟨λhm=>?_,f⟩;obtain⟨x,hx,e⟩:=ay_.1 hm;exact b x hx (by rw[e];simp)
def aI{ds:List PD}:∀{b:Nat},(ds.map PD.letter).Nodup->∀d∈ds,(xR b d.letter ds).map Prod.fst=some d.body:=by
 induction ds with
 |nil=>intro b _ d hd;simp at hd
 |cons x r ih=>
  intro b h d hd;rw[aw_,List.nodup_cons]at h;rcases ao_.1 hd with rfl|hd
  .simp[xR]
  .have a:x.letter≠d.letter:=λe=>h.1 (e▸List.mem_map_of_mem hd);rw[xR,n_ a];exact ih h.2 d hd
def XM{s:BA}{ds:List PD}(hn:∀d∈ds,zp d.letter=true)(hd:(ds.map PD.letter).Nodup):yL s (zx ds) 6=xH (-1) (kB s ds):=by
 rw[nu];refine lO (λx=>?_);unfold kB zk;simp only[List.mem_flatMap,List.mem_range];constructor
 .rintro⟨k,hk,f,hf,hx⟩;unfold yM at hf;split at hf
  .rename_i fs he;unfold zx at he;cases hl:xR 0 (65+k) ds with
   |none=>rw[hl]at he;cases he
   |some q=>
    obtain⟨pb,e⟩:=q;obtain⟨d,a,hb⟩:=qH hl;rw[hl]at he;simp only[bz_,ah_]at he;exact⟨f,⟨d,a,by rw[hb,he];exact hf⟩,hx⟩
  .simp at hf
 .rintro⟨f,⟨d,a,hf⟩,hx⟩;have h1:=hn d a;have h:65<=d.letter/\d.letter<=70:=by simpa[zp] using h1
  have c:=aI (b:=0) hd d a;refine⟨d.letter-65,M_,f,?_,hx⟩;unfold yM;rw[show 65+(d.letter-65)=d.letter by omega];unfold zx;rw[c];cases hb:d.body with
  |recd fs=>rw[hb]at hf;exact hf
  |enum l o=>rw[hb]at hf;exact absurd hf (by simp[PB.fs])
  |bytes n=>rw[hb]at hf;exact absurd hf (by simp[PB.fs])
def fp{s:BA}{ds:List PD}{t:PT}(hs:s.size<=300)(h:ze s=.ok (ds,t)):(zg s).1 =
 match xY ds t,xZ ds t,kB s ds with
 | _::_,_,_=>3
 | [],_::_,_=>4
 | [],[],_::_=>5
 | [],[],[]=>0:=by
 obtain⟨_,_,_,a,_⟩:=xA h;have pos:∀(x:Nat) r,0<=xH (-1) (x::r):=λx r=>by
  rcases wU (x::r) with⟨e,_⟩|⟨y,_,e,_⟩
  .cases e
  .rw[e];omega
 have zero:¬0<=xH (-1) []:=by rw[JK];decide
 unfold zg;rw[n_ M_,h];simp only;rw[mY,bZ];cases b:xY ds t with
 |cons x r=>rw[i_ (pos x r)]
 |nil=>
  have c:py [] ds=[]:=by
   rw[List.eq_nil_iff_forall_not_mem];intro x hx;have:x∈xY ds t:=by
    unfold xY;rw[a2_,ei];exact .inl (.inl hx)
   rw[b]at this;simp at this
  rw[XM (λd hd=>(a d hd).1) (QP c).2,n_ zero];cases a:xZ ds t with
  |cons x r=>rw[i_ (pos x r)]
  |nil=>
   rw[n_ zero];cases a:kB s ds with
   |cons x r=>rw[i_ (pos x r)]
   |nil=>rw[n_ zero]
def Xc(c:Nat)(ds:List PD):∀b a,(xR b c ds).map Prod.fst=(xR a c ds).map Prod.fst:=by
 induction ds with
 |nil=>intro b a;rfl
 |cons d r ih=>
  intro b a;simp only[xR];split
  .rfl
  .exact ih _ _
def XB(c:Nat):zx [] c=none:=rfl
def oL(d:PD)(r:List PD)(c:Nat):zx (d::r) c=if d.letter=c then some d.body else zx r c:=by
 unfold zx;simp only[xR];split
 .rfl
 .exact Xc c r _ _
def oM{ds:List PD}(h:ds[q]?=some d)(c:Nat):zx (ds.drop q) c=if d.letter=c then some d.body else zx (ds.drop (q+1)) c:=by
 have hl:=(ae_.1 h).1;rw[ba_ hl,oL,(ae_.1 h).2]
structure xf(w:World)(P:Nat->Prop)(s:BA)(ds:List PD)(sv:Value)(xs:List Value):Prop where
 row:w.ownsRow 0 173 3 sv ds.length xs
 off:∀g,sv.ownBlock=some g->P g
 V:qE w P s ds xs
 len:ds.length<=6
def xf.fr{w:World}{s:BA}{ds:List PD}{sv:Value}{xs:List Value}(h:xf w P s ds sv xs)(hf:Fr w w' S)(a:∀g,P g->¬S g):xf w' P s ds sv xs:=
 ⟨zj h.row hf (λg hg=>a g (h.off g hg)),h.off,h.V.fr hf a,h.len⟩
def xf.cells{w:World}{s:BA}{ds:List PD}{m cap:Nat}{xs:List Value}(h:xf w P s ds (S_ g m cap) xs)(f:ds[q]?=some d):∃T x,w.cell? ⟨g,q*3,none⟩=some (I_ d.place)/\w.cell? ⟨g,q*3+1,none⟩=some (U_ d.letter)/\w.cell? ⟨g,q*3+2,none⟩=some (.iface T x)/\ye w P s d.body (.iface T x):=by
 obtain⟨c,h1,a,b,e⟩:=h.V q d f;obtain⟨T,x,rfl⟩:=e.iface;have hm:=mc h.row;subst hm;rw[bc_]at h1 a b;exact⟨T,x,zr h.row rfl h1,zr h.row rfl a,zr h.row rfl b,e⟩
def ZV(ds:List PD)(xs:List Value)(b:PB)(v:Value):Prop:=∃q d,ds[q]?=some d/\d.body=b/\xs[3*q+2]?=some v
def xf.cellz{w:World}{s:BA}{ds:List PD}{m cap:Nat}{xs:List Value}(h:xf w P s ds (S_ g m cap) xs)(f:ds[q]?=some d):∃T x,w.cell? ⟨g,q*3,none⟩=some (I_ d.place)/\w.cell? ⟨g,q*3+1,none⟩=some (U_ d.letter)/\w.cell? ⟨g,q*3+2,none⟩=some (.iface T x)/\ye w P s d.body (.iface T x)/\ZV ds xs d.body (.iface T x):=by
 obtain⟨c,h1,b,a,e⟩:=h.V q d f;obtain⟨T,x,rfl⟩:=e.iface;have hz:ZV ds xs d.body (.iface T x):=⟨q,d,f,rfl,a⟩;have hm:=mc h.row;subst hm;rw[bc_]at h1 b a;exact⟨T,x,zr h.row rfl h1,zr h.row rfl b,zr h.row rfl a,e,hz⟩
def QO(w:World)(P:Nat->Prop)(s:BA)(ds:List PD)(c:Nat)(e:Ending)(w':World):Prop:=
 ∃v,e=.returned v/\Fr w w' N_/\match zx ds c with|none=>v=.nilIface|some b=>ye w' P s b v
def Ge(w:World)(P:Nat->Prop)(s:BA)(ds:List PD)(xs:List Value)(c:Nat)(e:Ending)(w':World):Prop:=
 ∃v,e=.returned v/\Fr w w' N_/\match zx ds c with|none=>v=.nilIface|some b=>ye w' P s b v/\ZV ds xs b v
def ry{w:World}{s:BA}{ds:List PD}{sv rv:Value}{xs:List Value}(c:Nat)(D:xf w P s ds sv xs):Calls prog 69 #[.agg #[sv,rv],U_ c] w (Ge w P s ds xs c):=by
 refine hq_ λa b=>?_;obtain⟨a,e,rfl⟩:=zl D.row;have f:=D.len;have start:H_ (∃q:Nat,Value.int .i64 0=I_ q/\q<=ds.length/\ds.length+1-q<=ds.length+1/\Fr w (w.alloc (.cells #[.slice a ds.length e,rv] 55)) N_/\zx ds c=zx (ds.drop q) c):=zy ⟨0,rfl,al_ _,M_,(A_ w _).alloc _,rfl⟩;replace D:=zy D;go_in;go_wp2;go_loopg [10] (ds.length+1) (λm v W=>∃q:Nat,v=I_ q/\q<=ds.length/\ds.length+1-q<=m/\Fr w W N_/\zx ds c=zx (ds.drop q) c);case atStart=>exact start
 case round=>
  obtain⟨q,rfl,a,hm,hf,he⟩:=hrel;by_cases e:q<ds.length
  .have h:(q:Int)<(ds.length:Int):=M_;have hd:ds[q]?=some ds[q]:=af_ e;generalize ds[q]=d at hd;obtain⟨g,cap,a⟩:=zm D.o.row M_;cases a;have a:=D.o.fr hf u_;obtain⟨T,x,c0,c1,c2,hb,hz⟩:=a.cellz hd;replace hz:=zy hz;have f:=zy (hb.fr ((A_ wr N_).alloc (.cells #[I_ d.place,U_ d.letter,.iface T x] 173)) u_);rw[oM hd]at he;replace a:=zy a;replace hb:=zy hb;replace hf:=zy hf;by_cases hc:d.letter=c
   .rw[i_ hc]at he;replace he:=zy he;subst hc;go_wp2;try go_ret
    rw[b.o];refine⟨_,rfl,hf.o.alloc _,?_⟩;rw[he.o];exact⟨f,hz⟩
   .rw[n_ hc]at he;replace he:=zy he;have a:((d.letter:Int)==(c:Int))=false:=by simp;omega
    go_wp2;go_roundg (ds.length+1-(q+1));case measure=>omega
    case rel=>exact⟨q+1,rfl,e,l_,hf.o.alloc _,he⟩
  .have h:¬((q:Int)<(ds.length:Int)):=M_;rw[bx_ M_,XB]at he;replace he:=zy he;replace hf:=zy hf;go_wp2;try go_ret
   rw[b.o];refine⟨.nilIface,rfl,hf,?_⟩;rw[he.o]
def jV{w:World}{s:BA}{ds:List PD}{sv rv:Value}{xs:List Value}(c:Nat)(D:xf w P s ds sv xs):Calls prog 69 #[.agg #[sv,rv],U_ c] w (QO w P s ds c):=by
 apply(ry (rv:=rv) c D).mono;rintro e w' ⟨v,h1,f,a⟩;refine⟨v,h1,f,?_⟩;cases he:zx ds c with
 |none=>rw[he]at a;exact a
 |some b=>rw[he]at a;exact a.1
set_option maxRecDepth 100000
set_option linter.defProp false
@[go_sem]def Kf:=yB 199 53
@[go_sem]def nX:=vv 199 53 (.agg #[O_])
@[go_sem]def Gm:=yB 201 53
@[go_sem]def FG:=vv 201 53 (.agg #[O_])
@[go_sem]def Pl:=yB 202 53
@[go_sem]def PO:=vv 202 53 (.agg #[O_])
@[go_sem]def FB:=yB 203 53
@[go_sem]def Pc:=vv 203 53 (.agg #[O_])
@[go_sem]def FF:=yB 204 53
@[go_sem]def Pu:=vv 204 53 (.agg #[O_])
@[go_sem]def FU:=yB 206 53
@[go_sem]def qN:=vv 206 53 (.agg #[O_,.nilIface])
@[go_sem]def Pm:=yB 207 53
@[go_sem]def wX:=vv 207 53 (.agg #[O_,.nilIface])
@[go_sem]def wY:=yB 210 53
@[go_sem]def vy:=vv 210 53 (.agg #[O_,L_])
@[go_sem]def FP:=yB 213 53
@[go_sem]def rC:=vv 213 53 (.agg #[O_,.int .u8 0])
@[go_sem]def WW:=yB 215 53
@[go_sem]def Gc:=vv 215 53 (.agg #[O_,L_])
@[go_sem]def FC:=yB 220 53
@[go_sem]def Ph:=vv 220 53 (.agg #[O_,L_,.pointer none])
@[go_sem]def Gl:=yB 222 53
@[go_sem]def FL:=vv 222 53 (.agg #[O_,O_])
def yX(w:World)(cause:Value)(L:List Nat)(e:Ending)(w':World):Prop:=
 ∃v,e=.returned v/\Fr w w' N_/\match L with | []=>v=.nilIface|x::_=>zT w' w.heap.size v (x:Int) cause
def ji(g:Nat)(w:World)(et:TypeId)(ex:Value):Prop:=w.cell? ⟨g,0,none⟩=some (.iface et ex)
def ji.fr{w:World}(h:ji g w et ex)(hf:Fr w w' S)(b:¬S g):ji g w' et ex:=
 (World.cell?_of_block (a:=⟨g,0,none⟩) (hf.block _ (World.block_lt_of_cell? w ⟨g,0,none⟩ h) b)).trans h
def yR(p:Int)(w:World):Calls prog 70 #[z_ p] w λe w'=>e=.returned (z_ p)/\w'=w:=by
 go_in;go_wp2;go_ret;exact⟨rfl,rfl⟩
def jx(c:Nat):vi c≠206/\vi c≠207/\vi c≠210/\vi c≠213/\vi c≠215/\vi c≠220/\vi c≠222:=by
 unfold vi
 repeat' split
 all_goals decide
def gD(t:PT):Prop:=∀(w:World) (P:Nat->Prop) (s:BA) (ds:List PD) (sv rv v:Value) (xs:List Value) (et:TypeId) (ex:Value),xf w P s ds sv xs->TyV w P t v->ji 1 w et ex->
 Calls prog 72 #[.agg #[sv,rv],v] w (yX w (.iface et ex) (xF (zx ds) (zZ t)))
def Yl(c p:Nat)(hc:zu c=true):gD (.leaf c p):=by
 intro w P s ds sv rv v xs et ex D hv b;refine hq_ λk a=>?_;have e:=zy (show xF (zx ds) (zZ (.leaf c p))=[] by rw[zZ,i_ hc];rfl);have f:v=.iface (vi c) (.agg #[I_ p]):=by
  cases hv with
  |base _ _ h=>rfl
  |name _ _ h=>
   simp only[zu,au_,beq_iff_eq]at hc;simp only[zp,ax_,decide_eq_true_eq]at h;omega
 subst f;clear hv D b;obtain⟨u,hu⟩:=e_ (vi c);rw[<- hu];have hn:=jx c;rw[<- hu]at hn;have l:=qN u hn.1;have m:=wX u hn.2.1;have n:=vy u hn.2.2.1;have r:=rC u hn.2.2.2.1;clear hu hn;go_in;go_wp2;try go_ret
 rw[a.o];refine⟨.nilIface,rfl,(A_ w _).alloc _,?_⟩;rw[e.o]
def Yc(c p:Nat)(t:PT)(z:gD t):gD (.wrap c p t):=by
 intro w P s ds sv rv v xs et ex D hv u;refine hq_ λa n=>?_;obtain⟨f,m,rfl⟩:∃f,TyV w P t f/\v=.iface (jO c) (.agg #[I_ p,f]):=by
  cases hv with
  |wrap _ _ h=>exact⟨_,h,rfl⟩
 obtain⟨k,l,rfl⟩:=m.iface;obtain⟨a,b,rfl⟩:=zl D.row;have y:H_ (∀T,Calls prog 72 #[.agg #[.slice a ds.length b,rv],.iface k l] ((w.alloc (.cells #[.slice a ds.length b,rv] 55)).alloc (.cells #[I_ p,.iface k l] T)) (yX ((w.alloc (.cells #[.slice a ds.length b,rv] 55)).alloc (.cells #[I_ p,.iface k l] T)) (.iface et ex) (xF (zx ds) (zZ t)))):=zy (λT=>by
  have hf:Fr w ((w.alloc (.cells #[.slice a ds.length b,rv] 55)).alloc (.cells #[I_ p,.iface k l] T)) N_:=((A_ w _).alloc _).alloc _
  exact z _ P s ds _ _ _ _ _ _ (D.fr hf u_) (m.fr hf u_) (u.fr hf id))
 by_cases hc:c=91
 .subst hc;simp only[jO,if_true];go_in;go_wp2_with (go_at_call 72;apply(y.o _).mono;rintro e m ⟨f,rfl,a,hm⟩;replace a:=zy a;replace hm:=zy hm);try go_ret
  rw[n.o];refine⟨f,rfl,(((A_ w N_).alloc _).alloc _).trans a u_,?_⟩;rw[zZ];have b:=hm.o;cases k:xF (zx ds) (zZ t) with
  |nil=>rw[k]at b;exact b
  |cons x r=>rw[k]at b;exact b.ls (by simp;omega)
 .simp only[jO,n_ hc];go_in;go_wp2_with (go_at_call 72;apply(y.o _).mono;rintro e m ⟨f,rfl,a,hm⟩;replace a:=zy a;replace hm:=zy hm);try go_ret
  rw[n.o];refine⟨f,rfl,(((A_ w N_).alloc _).alloc _).trans a u_,?_⟩;rw[zZ];have b:=hm.o;cases k:xF (zx ds) (zZ t) with
  |nil=>rw[k]at b;exact b
  |cons x r=>rw[k]at b;exact b.ls (by simp;omega)
def eR(c p:Nat)(hc:zp c=true):gD (.leaf c p):=by
 intro w P s ds sv rv v xs et ex D hv z;refine hq_ λf u=>?_;have f:¬zu c=true:=λh=>by
  simp only[zu,au_,beq_iff_eq]at h;simp only[zp,ax_,decide_eq_true_eq]at hc;omega
 have k:v=.iface 213 (.agg #[I_ p,U_ c]):=by
  cases hv with
  |base _ _ h=>exact absurd h f
  |name _ _ h=>rfl
 subst k;obtain⟨l,t,rfl⟩:=zl D.row;have r:=zy (show xF (zx ds) (zZ (.leaf c p))=if (zx ds c).isNone=true then [p] else [] by
  rw[zZ,n_ f];unfold xF;rw[List.filter_cons];split<;>rfl)
 have k:Fr w ((w.alloc (.cells #[.slice l ds.length t,rv] 55)).alloc (.cells #[I_ p,U_ c] 213)) N_:=((A_ w _).alloc _).alloc _;have y:=zy (jV (rv:=rv) c (D.fr k u_));have n:=z.fr k id;have m:=B_ (w.alloc (.cells #[.slice l ds.length t,rv] 55)) #[I_ p,U_ c] 213;have hz:(w.alloc (.cells #[.slice l ds.length t,rv] 55)).heap.size=w.heap.size+1:=by simp
 rw[hz]at m;replace k:=zy k;replace n:=zy n;replace m:=zy m;cases he:zx ds c with
 |some b=>
  rw[he]at r;replace he:=zy he;go_in;go_wp2_with (go_at_call 69;apply y.o.mono;rintro e l ⟨t,rfl,f,hm⟩;rw[he.o]at hm;obtain⟨z,bx,rfl⟩:=hm.iface;replace f:=zy f);try go_ret
  rw[u.o];refine⟨.nilIface,rfl,k.o.trans f u_,?_⟩;rw[r.o];rfl
 |none=>
  rw[he]at r;replace he:=zy he;go_in;go_wp2_with (go_at_call 69;apply y.o.mono;rintro e l ⟨t,rfl,f,hm⟩;rw[he.o]at hm;replace hm:t=.nilIface:=hm;subst hm;have t:=(f.bl m id).c0;have m:=n.o.fr f id;replace f:=zy f;replace m:_=_:=m);refine tr_ 7 (λW=>f_ W (w.heap.size+1) 0 (I_ p)/\f_ W 1 0 (.iface et ex)) ?_;refine tz_ 0 ?_;refine tz_ 1 ?_;refine tz_ 3 ?_;refine zw 2 rfl K_ (λ_=>⟨t,m⟩) (λK n=>?_);go_simp;apply(yR (p:Int) _).mono;rintro e w' ⟨rfl,rfl⟩;refine n _ _ ?_;refine tz_ 4 ?_;refine t1_ 5 ⟨t,m⟩ ?_;have n:∀{a:Addr} {x:Value},l.cell? a=some x->(l.drew.alloc (.cells #[I_ p,.iface et ex] 181)).cell? a=some x:=@λa x h=>(World.cell?_alloc_lt (l.drew) _ a (by exact World.block_lt_of_cell? l a h)).trans h;refine t1_ 6 ⟨n t,n m⟩ ?_;refine t1_ 7 ⟨n t,n m⟩ ?_;refine td_ ?_ _;go_wp2;try go_ret
  rw[u.o];have m:=(k.o.trans f u_).size;refine⟨_,rfl,((k.o.trans f u_).alloc _).drew,?_⟩;rw[r.o];exact⟨l.heap.size,m,rfl,(B_ l _ _).drew⟩
end Go.Proofs.YtjkiencmjggakaaGreatDoor
