import Derived.Test.YtahhhgbojlkjnaaGreatDoorW18
set_option maxHeartbeats 16000000
set_option maxRecDepth 100000
set_option linter.defProp false
set_option linter.unusedSimpArgs false
open Go.Proofs.Tryz
namespace Go.Proofs.YtahhhgbojlkjnaaGreatDoor
open Go.RowKit
variable {fs:Am}{vT:As}{vx:Ax}{o:Ac}
def wG:∀(a b:List UInt8),(Op.bytesLess a b||a==b) = !Op.bytesLess b a:=by
 intro a;induction a with
 |nil=>intro b;cases b<;>rfl
 |cons x xs ih=>
  intro b;cases b with
  |nil=>rfl
  |cons y ys=>
   simp only[Op.bytesLess,List.cons_beq_cons];have h:=ih ys;by_cases h1:x<y
   .have c:¬y<x:=by simp only[UInt8.lt_iff_toNat_lt]at h1⊢;omega
    have d:¬y=x:=λe=>by subst e;simp only[UInt8.lt_iff_toNat_lt]at h1;omega
    simp[h1,c,d]
   .by_cases c:x=y
    .subst c;simp[h1,h]
    .have d:y<x:=by
      have:x.toNat≠y.toNat:=λe=>c (UInt8.toNat_inj.1 e);simp only[UInt8.lt_iff_toNat_lt]at h1⊢;omega
     simp[h1,c,d]
def vN(R:Al)(s:BA)(es:Ae)(j:Nat):Option (List (BA×DT)×Nat):=
 match kR s true (wT es) j with
 |none=>none
 |some (k,j1)=>(R j1).map (λq=>(es++[(k,q.1)],q.2))
def XR(R:Al)(s:BA)(a:Nat):∀n es j,jw (vN R s) s a n es j=(yZ R s a true n (wT es) j).map (λq=>(es++q.1,q.2)):=by
 intro n;induction n with
 |zero=>intro es j;rfl
 |succ n ih=>
  intro es j;rw[jw,yZ];simp only[vN];cases kR s true (wT es) j with
  |none=>rfl
  |some q=>
   obtain⟨key,b⟩:=q;simp only;cases R b with
   |none=>rfl
   |some q=>
    obtain⟨d,j'⟩:=q;simp only[a4_];split
    .rfl
    .split
     .rw[ih (es++[(key,d)]) (j'+1),jL];cases yZ R s a true n (some key) (j'+1) with
      |none=>rfl
      |some q=>simp
     .rfl
def JT(R:Al)(s:BA)(i:Nat):xO R s 123 i=(jX (vN R s) s 123 125 [] i).map (λq=>(.mk 123 0 noB (q.1.map Prod.fst) (q.1.map Prod.snd),q.2)):=by
 unfold jX xO qc;by_cases h:bt s i=123
 .rw[i_ h,i_ h,show xl 123=125 from rfl,show((123:Nat)==123)=true from rfl];by_cases a:bt s (i+1)=125
  .rw[i_ a,i_ a];rfl
  .rw[n_ a,n_ a,XR R s 125 _ [] (i+1),show wT []=none from rfl];cases yZ R s 125 true (s.size+2) none (i+1) with
   |none=>rfl
   |some q=>simp
 .rw[n_ h,n_ h];rfl
structure MI(w0 w:Aw)(P:Au)(ss:BA)(ds:Ar)(sv rv:Ax)(xs:Az)(s:BA)(nt:As)(nx:Ax)(pl:Ap)(br i:Nat)(t:PT)(p:Int)(v:Ax)(es:Ae)(j:Nat)(W:Aw):Prop where
 M:NC w0 P ss ds sv rv xs s nt nx pl br j W
 fr:Fr w W (· = br)
 lt:br<w.heap.size
 hB:w.heap.size+3<=W.heap.size
 b2:Blk W w.heap.size [P_ br] 289
 b3:Blk W (w.heap.size+1) [Z_ p,v] 201
 ty:TyV W P t v
 c:i+es.length<j
 row:∃lv ys,Blk W (w.heap.size+2) [lv] 131/\W.ownsRow (w.heap.size+3) 133 2 lv es.length ys/\QE (wT es) es.length ys/\qJ (zx ds) W (λg=>w.heap.size+3<=g/\lv.ownBlock≠some g) (.wrap 123 0 t) es ys
section
variable {w0 w:Aw} {P:Au} {ss:BA} {ds:Ar} {sv rv:Ax} {xs:Az} {s:BA} {nt:As} {nx:Ax} {pl:Ap} {br i:Nat} {t:PT} {p:Int} {v:Ax} {es:Ae} {j j':Nat} {W W':Aw}
def MI.call(L:MI w0 w P ss ds sv rv xs s nt nx pl br i t p v es j W)(h:yf W' br sv rv s j' (!pl))(a:Fr W W' (· = br))(c:j'<=s.size)(hc:i+es.length<j'):MI w0 w P ss ds sv rv xs s nt nx pl br i t p v es j' W':=by
 have h1:=L.lt;obtain⟨lv,ys,r1,b,d,k⟩:=L.row;exact⟨L.M.call h a c,L.fr.trans a u_,L.lt,ai_ L.hB a.size,a.bl L.b2 M_,a.bl L.b3 M_,L.ty.fr a (λg hg e=>L.M.brP (e▸hg)),hc,lv,ys,a.bl r1 M_,zk b a (λg hg e=>by have:=b.lt g hg;omega),d,k.fr a (λg hg e=>M_)⟩
end
def cU:Tryz.prog.underlying 131=some (.slice 133):=K_
def bW:(Tryz.prog.info? 133).map (λi=>(i.zero,i.size,i.bytes))=some (some (.agg #[.string ⟨#[]⟩,.nilIface]),2,32):=K_
def QS(w0 w:Aw)(P:Au)(ss:BA)(ds:Ar)(sv rv:Ax)(xs:Az)(s:BA)(nt:As)(nx:Ax)(pl:Ap)(br i:Nat)(t:PT)(p:Int)(v:Ax)(R:Al)(es:Ae)(j:Nat)(e:Ah)(W':Aw):Prop:=
 ∃v1,e=.returned v1/\match vN R s es j with|some (es',j')=>v1=.nilIface/\j<j'/\MI w0 w P ss ds sv rv xs s nt nx pl br i t p v es' j' W'|none=>(∃T x,v1=.iface T x)/\aC w sv rv s nt nx pl br v1 W'
def cwXs1_{p:Prop}(h:p:=by
 have hlt2:e1+1<=s.size:=zr (s:=s) (i:=e1) M_;have hsm:vN (rdT s (zx ds) pl f t) s es j=(rdT s (zx ds) pl f t (e1+1)).map (λq=>(es++[(key,q.1)],q.2)):=by
  unfold vN;rw[hrk.o,i_ ⟨h58,hri⟩]
 replace h58:=zy h58;cases hp:rdT s (zx ds) pl f t (e1+1) with
 |none=>
  have hst:=zy (show vN (rdT s (zx ds) pl f t) s es j=none by rw[hsm,hp];rfl);replace hp:=zy hp;clear hsm hgo hri;go_in;go_wp2_with (first
   |(go_at_call 189;apply hrun.o.mono;rintro e w1 ⟨rfl,hf1,h1⟩;(first|(have:=cc1;obtain⟨k0,k1⟩:=hfac.o w1 hf1)|(have k0:=hfac.o w1 hf1));have e0:=(hL1.o w1 hf1 h1).M.e;have b20:=(hL1.o w1 hf1 h1).b2.c0;have L1:=zy (hL1.o w1 hf1 h1);replace hf1:=zy hf1;replace h1:=zy h1)
   |(go_at_call 166;apply(xy 58 h1.o hs4 hle.2 rfl D_ h58.o).mono;rintro e w2 ⟨rfl,hf2,h2⟩;have L2:=L1.o.call h2 hf2 hlt2 za_;have hC:=zy (hR (e1+1) M_ hlt2 w2 _ L2.M L2.ty);have d20:=L2.b2.c0;have d31:=L2.b3.c1;replace L2:=zy L2;have F2:=zy (hf1.o.trans hf2 u_);clear hf2 h2)
   |(go_at_call 154;apply hC.o.mono;rintro e w3 ⟨v3,ev3,rfl,hf3,hm3⟩;rw[hp.o]at hm3;obtain⟨rfl,hErr,j3,h3,hj3⟩:=hm3;obtain⟨eT,ex,rfl⟩:=hErr.iface;have G3:=(L2.o.M.call h3 hf3 hj3).G;have F3:=zy (L2.o.fr.trans hf3 u_);replace hErr:=zy hErr;replace h3:=zy h3;replace G3:=zy G3;clear hf3)
   |(go_at_call 129;apply(kE (k:=key) hI G3.o hks).mono;intro e w4 hW;obtain⟨g4,tx4,rfl,hg4,hb4,hf4⟩:=hW;replace hf4:=zy hf4;replace hb4:=zy hb4))
  try go_ret
  rw[Q_.o];refine⟨_,rfl,?_⟩;rw[hst.o];have hs1:=F3.o.size;have hsW:=L2.o.fr.size;exact⟨⟨_,_,rfl⟩,F3.o.trans hf4.o v_,.within g4 M_ tx4 hb4.o ((hErr.o.ls hsW).fr hf4.o u_),j3,hf4.o.bl h3.o id,hj3⟩
 |some q=>
  obtain⟨d,j2⟩:=q;have hj2:=hgo _ d j2 hp;have hst:=zy (show vN (rdT s (zx ds) pl f t) s es j=some (es++[(key,d)],j2) by rw[hsm,hp];rfl);replace hp:=zy hp;obtain⟨ti,hi1,hi2,hi3,hi4⟩:=info_parts bW;clear hsm hgo hri;go_in;go_wp2_with (first
   |(go_at_call 189;apply hrun.o.mono;rintro e w1 ⟨rfl,hf1,h1⟩;(first|(have:=cc1;obtain⟨k0,k1⟩:=hfac.o w1 hf1)|(have k0:=hfac.o w1 hf1));have e0:=(hL1.o w1 hf1 h1).M.e;have b20:=(hL1.o w1 hf1 h1).b2.c0;have L1:=zy (hL1.o w1 hf1 h1);replace hf1:=zy hf1;replace h1:=zy h1)
   |(go_at_call 166;apply(xy 58 h1.o hs4 hle.2 rfl D_ h58.o).mono;rintro e w2 ⟨rfl,hf2,h2⟩;have L2:=L1.o.call h2 hf2 hlt2 za_;have hC:=zy (hR (e1+1) M_ hlt2 w2 _ L2.M L2.ty);have d20:=L2.b2.c0;have d31:=L2.b3.c1;replace L2:=zy L2;have F2:=zy (hf1.o.trans hf2 u_);clear hf2 h2)
   |(go_at_call 154;apply hC.o.mono;rintro e w3 ⟨v3,ev3,rfl,hf3,hm3⟩;rw[hp.o]at hm3;obtain⟨rfl,hDv,h3,hj3⟩:=hm3;obtain⟨dT,dx,rfl⟩:=hDv.iface;have L3:=L2.o.call h3 hf3 hj3 (by have:=L2.o.c;omega);obtain⟨lv3,ys3,q1,q2,q3,q4⟩:=L2.o.row;rw[hnn.o]at q2;have r0:=zy q2.lt;have r1:=hf3.bl q1 M_;have r2:=zk q2 hf3 (λg hg e=>zg_);have rM:=zy (q4.fr hf3 (λg hg e=>zz_));obtain⟨la3,lc3,rfl⟩:=zh r2;replace hDv:=zy hDv;clear q1 q2 q3 q4;have k3:=r1.c0;have kg:=r1.th 0;have hB3:=L3.hB;replace L3:=zy L3;replace r1:=zy r1;replace r2:=zy r2;clear hf3 h3)
   |(at_builtin;go_must ((first|(have:=cc1;refine wpList_append_own_at _ rfl _ _ 131 rfl (w.heap.size+3) 133 ti _ 2 32 cU hi1 hi2 hi3 hi4 rfl D_ (.slice la3 (m+1) lc3) (m+1) ys3 rfl ?hown _ 1 1 [.string key,.iface dT dx] rfl rfl (zL _ #[.string key,.iface dT dx] _ _ ?nn) ?one ?b1 ?b2 ?b3 ?_)|(refine wpList_append_own_at _ rfl _ _ 131 rfl (w.heap.size+3) 133 ti _ 2 32 cU hi1 hi2 hi3 hi4 rfl D_ (.slice la3 0 lc3) 0 ys3 rfl ?hown _ 1 1 [.string key,.iface dT dx] rfl rfl (zL _ #[.string key,.iface dT dx] _ _ ?nn) ?one ?b1 ?b2 ?b3 ?_)))
     case hown=>exact World.ownsRow.alloc r2.o _
     case nn=>simp
     case one=>simp[Value.oneCell']
     case b1=>unfold maxLen;omega
     case b2=>omega
     case b3=>simp;omega
     intro v5 w5 ho5 hg5 hn5 hl5
     (first|(have:=cc1;have hF5:Fr w3 w5 (λg=>(Value.slice la3 (m+1) lc3).ownBlock=some g):=T_ ((A_ w3 _).alloc _) hg5 (λk e _=>e))|(have hF5:Fr w3 w5 (λg=>(Value.slice la3 0 lc3).ownBlock=some g):=T_ ((A_ w3 _).alloc _) hg5 (λk e _=>e)))
     (first|(have:=cc1;have hl6:H_ (v5.ownBlock=(Value.slice la3 (m+1) lc3).ownBlock\/∃h,v5.ownBlock=some h/\w3.heap.size<=h):=zy (hl5.imp id (λe=>⟨_,e,by simp⟩)))|(have hl6:H_ (v5.ownBlock=(Value.slice la3 0 lc3).ownBlock\/∃h,v5.ownBlock=some h/\w3.heap.size<=h):=zy (hl5.imp id (λe=>⟨_,e,by simp⟩))))
     have R5:=hF5.bl r1.o (λe=>by have:=r2.o.lt _ e;omega)
     have e5:=R5.c0
     have f5:=R5.th 0
     have hn5':∀g,v5.ownBlock=some g->w.heap.size+3<=g:=(λg hg=>(ho5.lt g hg).1)
     obtain⟨g5,cap5,rfl⟩:=zu ho5 M_
     replace hF5:=zy hF5
     replace ho5:=zy ho5
     replace R5:=zy R5
     replace hn5':=zy hn5'
     clear hg5 hl5 hn5))
  try go_ret
  rw[Q_.o];refine⟨_,rfl,?_⟩;rw[hst.o];refine⟨rfl,M_,?_⟩;(first|(have:=cc1;have hG:Fr w5 (w5.setCell ⟨w.heap.size+2,0,none⟩ (S_ g5 ((m+1)+1) cap5)) (λg=>g=w.heap.size+2):=(A_ w5 (λg=>g=w.heap.size+2)).setCell ⟨w.heap.size+2,0,none⟩ _ (λ_=>rfl))|(have hG:Fr w5 (w5.setCell ⟨w.heap.size+2,0,none⟩ (.slice (some ⟨g5,0,none⟩) (0+1) cap5)) (λg=>g=w.heap.size+2):=(A_ w5 (λg=>g=w.heap.size+2)).setCell ⟨w.heap.size+2,0,none⟩ _ (λ_=>rfl)));(first|(have:=cc1;have hH:Fr w3 (w5.setCell ⟨w.heap.size+2,0,none⟩ (S_ g5 ((m+1)+1) cap5)) (λg=>w.heap.size+2<=g):=(hF5.o.mono (λg _ e=>by have:=r2.o.lt g e;omega)).trans hG (λg _ e=>M_))|(have hH:Fr w3 (w5.setCell ⟨w.heap.size+2,0,none⟩ (.slice (some ⟨g5,0,none⟩) (0+1) cap5)) (λg=>w.heap.size+2<=g):=(hF5.o.mono (λg _ e=>by have:=r2.o.lt g e;omega)).trans hG (λg _ e=>M_)));have hM1:=L3.o.M;have hbG:=hM1.brG;have hl1:=L3.o.lt;have hPl:∀g,P g->¬(w.heap.size+2<=g):=λg hg=>by have:=hM1.Pbr g hg;omega
  have hyl:=r2.o.1;(first|(have:=cc1;exact⟨⟨hH.bl hM1.R M_,hM1.D.fr hH hPl,hM1.G.fr hH z9_ (λg e=>M_),hM1.E,hM1.Pbr,hM1.brG,hM1.hs,hM1.il⟩,L3.o.fr.trans hH (λg hg e=>M_),L3.o.lt,ai_ L3.o.hB hH.size,hH.bl L3.o.b2 M_,hH.bl L3.o.b3 M_,L3.o.ty.fr hH hPl,by rw[ah_,hnn.o,ap_];omega,_,_,R5.o.set 0 _,by rw[ah_,hnn.o,ap_];exact zk ho5.o hG (λg hg e=>by have:=hn5'.o g hg;omega),by rw[jL,ah_,hnn.o,ap_];exact⟨(m+1),rfl,by rw[ax_ M_,show(m+1)*2-ys3.length=0 by omega];rfl⟩,rM.o.grow (c:=w.heap.size+2) (hDv.o.mono (λg _ hg=>⟨by have:=L2.o.hB;omega,λe=>by have:=r0.o g e;omega⟩)) hks ((hF5.o.mono (λ_ _ e=>.inl e)).trans hG (λ_ _ e=>.inr e)) M_ hl6.o⟩)|(exact⟨⟨hH.bl hM1.R M_,hM1.D.fr hH hPl,hM1.G.fr hH z9_ (λg e=>M_),hM1.E,hM1.Pbr,hM1.brG,hM1.hs,hM1.il⟩,L3.o.fr.trans hH (λg hg e=>M_),L3.o.lt,ai_ L3.o.hB hH.size,hH.bl L3.o.b2 M_,hH.bl L3.o.b3 M_,L3.o.ty.fr hH hPl,by rw[ah_,hnn.o,ap_];omega,_,_,R5.o.set 0 _,by rw[ah_,hnn.o,ap_];exact zk ho5.o hG (λg hg e=>by have:=hn5'.o g hg;omega),by rw[jL,ah_,hnn.o,ap_];exact⟨0,rfl,by rw[ax_ M_,show 0*2-ys3.length=0 by omega];rfl⟩,rM.o.grow (c:=w.heap.size+2) (hDv.o.mono (λg _ hg=>⟨by have:=L2.o.hB;omega,λe=>by have:=r0.o g e;omega⟩)) hks ((hF5.o.mono (λ_ _ e=>.inl e)).trans hG (λ_ _ e=>.inr e)) M_ hl6.o⟩))):p:=h
def Xs{w0 w:Aw}{P:Au}{ss:BA}{ds:Ar}{sv rv:Ax}{xs:Az}{s:BA}{nt:As}{nx:Ax}{pl:Ap}{br i:Nat}{t:PT}{p:Int}{es:Ae}{j f:Nat}{W:Aw}(L:MI w0 w P ss ds sv rv xs s nt nx pl br i t p (.iface vT vx) es j W)(hI:yJ w0)(hR:∀j',j<j'->j'<=s.size->qu w0 P ss ds sv rv xs s nt nx pl br f t j')(hgo:∀j d j',rdT s (zx ds) pl f t j=some (d,j')->j<j'):Calls prog 188 #[P_ w.heap.size,.pointer (some ⟨w.heap.size+2,0,none⟩),.pointer (some ⟨w.heap.size+1,0,none⟩)] W (QS w0 w P ss ds sv rv xs s nt nx pl br i t p (.iface vT vx) (rdT s (zx ds) pl f t) es j):=by
 refine hq_ λG Q_=>?_;have Q:=L.b2.c0;have F:=L.M.il;have Q:=L.M.hs;have hs4:s.size<=4000:=M_;obtain⟨n,hnn⟩:=x_ es.length;obtain⟨B,b⟩:=x_ (wT es);have Q:i+n<j:=by rw[<- hnn];exact L.c
 have Q:=L.lt;have hle:=uP F;obtain⟨e1,y⟩:=x_ (zX s j);rw[y]at hle;obtain⟨key,z⟩:=x_ (s.extract j e1);have hks:key.size<=4000:=by rw[<- z,a3_];omega
 have hrun:=zy (show Calls prog 189 #[P_ br,.func (.func 190) #[] #[]] W λe w'=>e=.returned (.string key)/\Fr W w' (· = br)/\yf w' br sv rv s e1 (!pl) by
  have h:=wK L.M.R hs4 F
  rw[show zU 97 122 s j=e1 from y,z]at h
  exact h)
 have hrk:H_ (kR s true (wT es) j=if bt s e1=58/\kH B key=true then some (key,e1+1) else none):=zy (by unfold kR;rw[i_ rfl,y,z,b]);have hL1:H_ (∀w1,Fr W w1 (· = br)->yf w1 br sv rv s e1 (!pl)->MI w0 w P ss ds sv rv xs s nt nx pl br i t p (.iface vT vx) es e1 w1):=zy (λw1 a h=>L.call h a hle.2 M_);have C:H_ (vN (rdT s (zx ds) pl f t) s es j=none->∀w1 A,Fr W w1 (· = br)->yf w1 br sv rv s A (!pl)->A<=s.size->G (.returned (.iface nt nx)) w1):=zy (λhst w1 A a h J=>by
  rw[Q_.o]
  refine⟨_,rfl,?_⟩
  rw[hst]
  exact⟨⟨_,_,rfl⟩,L.fr.trans a u_,.base,A,h,J⟩)
 replace L:=zy L;replace hnn:=zy hnn;replace b:=zy b;by_cases hri:kH B key=true;case neg=>
  have hst:=zy (show vN (rdT s (zx ds) pl f t) s es j=none by unfold vN;rw[hrk.o,n_ (λh=>hri h.2)]);cases B with
  |none=>exact absurd rfl hri
  |some lk=>
   have K:(Op.bytesLess key.toList lk.toList||key.toList==lk.toList)=true:=by
    rw[wG];cases hb:Op.bytesLess lk.toList key.toList with
    |false=>rfl
    |true=>exact absurd hb hri
   obtain⟨lv,ys,r1,r2,r,_⟩:=L.o.row;rw[b.o,hnn.o]at r;obtain⟨m,hm,u⟩:=r;rw[hnn.o]at r2;have l:n=m+1:=hm;subst l;obtain⟨E,x,rfl⟩:=zh r2;obtain⟨g,H,D⟩:=zu r2 x8_;cases D;have O:IntKind.i64.wrap (((m+1:Nat):Int)-1)=(m:Int):=y4_
   have hfac:H_ (∀w1,Fr W w1 (· = br)->w1.cell? ⟨w.heap.size+2,0,none⟩=some (S_ g (m+1) x)/\w1.cell? ⟨g,m*2,none⟩=some (.string lk)):=zy (λw1 a=>⟨by rw[(a.bl r1 M_).cell 0];rfl,ze (zk r2 a (λg' hg e=>by have:=r2.lt g' hg;omega)) rfl u⟩);go_in;go_wp2_with (go_at_call 189;apply hrun.o.mono;rintro e w1 ⟨rfl,hf1,h1⟩;obtain⟨k0,k1⟩:=hfac.o w1 hf1;have e0:=(hL1.o w1 hf1 h1).M.e;replace hf1:=zy hf1;replace h1:=zy h1);try go_ret
   exact C.o hst w1 e1 hf1 h1 hle.2
 case pos=>
  cases B with
  |none=>
   obtain⟨lv,ys,r1,r2,hm,_⟩:=L.o.row;rw[b.o,hnn.o]at hm;rw[hnn.o]at r2;have l:n=0:=hm;subst l;obtain⟨E,x,rfl⟩:=zh r2;have hfac:H_ (∀w1,Fr W w1 (· = br)->w1.cell? ⟨w.heap.size+2,0,none⟩=some (.slice E 0 x)):=zy (λw1 a=>by rw[(a.bl r1 M_).cell 0];rfl);by_cases h58:bt s e1=58;case neg=>
    have hst:=zy (show vN (rdT s (zx ds) pl f t) s es j=none by unfold vN;rw[hrk.o,n_ (λh=>h58 h.1)]);replace h58:=zy h58;go_in;go_wp2_with (first
     |(go_at_call 189;apply hrun.o.mono;rintro e w1 ⟨rfl,hf1,h1⟩;have k0:=hfac.o w1 hf1;have b20:=(hL1.o w1 hf1 h1).b2.c0;have L1:=zy (hL1.o w1 hf1 h1);replace hf1:=zy hf1;replace h1:=zy h1)
     |(go_at_call 166;apply(xF 58 h1 hs4 hle.2 rfl D_ h58).mono;rintro e w2 ⟨rfl,hf2,h2⟩;have I:=(L1.o.call h2 hf2 hle.2 L1.o.c).M.e;replace hf2:=zy hf2;replace h2:=zy h2))
    try go_ret
    exact C.o hst w2 e1 (hf1.o.trans hf2 u_) h2 hle.2
   case pos=>
    exact cwXs1_
  |some lk=>
   have K:(Op.bytesLess key.toList lk.toList||key.toList==lk.toList)=false:=by
    rw[wG];rw[show Op.bytesLess lk.toList key.toList=true from hri];rfl
   obtain⟨lv,ys,r1,r2,r,_⟩:=L.o.row;rw[b.o,hnn.o]at r;obtain⟨m,hm,u⟩:=r;rw[hnn.o]at r2;have l:n=m+1:=hm;subst l;obtain⟨E,x,rfl⟩:=zh r2;obtain⟨g,H,D⟩:=zu r2 x8_;cases D;have O:IntKind.i64.wrap (((m+1:Nat):Int)-1)=(m:Int):=y4_
   have hfac:H_ (∀w1,Fr W w1 (· = br)->w1.cell? ⟨w.heap.size+2,0,none⟩=some (S_ g (m+1) x)/\w1.cell? ⟨g,m*2,none⟩=some (.string lk)):=zy (λw1 a=>⟨by rw[(a.bl r1 M_).cell 0];rfl,ze (zk r2 a (λg' hg e=>by have:=r2.lt g' hg;omega)) rfl u⟩);by_cases h58:bt s e1=58;case neg=>
    have hst:=zy (show vN (rdT s (zx ds) pl f t) s es j=none by unfold vN;rw[hrk.o,n_ (λh=>h58 h.1)]);replace h58:=zy h58;go_in;go_wp2_with (first
     |(go_at_call 189;apply hrun.o.mono;rintro e w1 ⟨rfl,hf1,h1⟩;obtain⟨k0,k1⟩:=hfac.o w1 hf1;have b20:=(hL1.o w1 hf1 h1).b2.c0;have L1:=zy (hL1.o w1 hf1 h1);replace hf1:=zy hf1;replace h1:=zy h1)
     |(go_at_call 166;apply(xF 58 h1 hs4 hle.2 rfl D_ h58).mono;rintro e w2 ⟨rfl,hf2,h2⟩;have I:=(L1.o.call h2 hf2 hle.2 L1.o.c).M.e;replace hf2:=zy hf2;replace h2:=zy h2))
    try go_ret
    exact C.o hst w2 e1 (hf1.o.trans hf2 u_) h2 hle.2
   case pos=>
    have cc1:=Nat;exact cwXs1_
def JL{w0 w:Aw}{P:Au}{ss:BA}{ds:Ar}{sv rv:Ax}{xs:Az}{s:BA}{nt:As}{nx:Ax}{pl:Ap}{br i:Nat}{t:PT}{p:Int}(M:NC w0 P ss ds sv rv xs s nt nx pl br i w)(k:TyV w P t (.iface vT vx)){W':Aw}(h:yf W' br sv rv s (i+1) (!pl))(a:Fr (((w.alloc (.cells #[P_ br] 289)).alloc (.cells #[Z_ p,.iface vT vx] 201)).alloc (.cells #[L_] 131)) W' (· = br))(m:i+1<=s.size):MI w0 w P ss ds sv rv xs s nt nx pl br i t p (.iface vT vx) [] (i+1) W':=by
 have l:=M.lt;have A:Fr w (((w.alloc (.cells #[P_ br] 289)).alloc (.cells #[Z_ p,.iface vT vx] 201)).alloc (.cells #[L_] 131)) N_:=(((A_ w _).alloc _).alloc _).alloc _;have hz:(((w.alloc (.cells #[P_ br] 289)).alloc (.cells #[Z_ p,.iface vT vx] 201)).alloc (.cells #[L_] 131)).heap.size=w.heap.size+3:=x8_
 have n:(w.alloc (.cells #[P_ br] 289)).heap.size=w.heap.size+1:=x8_
 have q:((w.alloc (.cells #[P_ br] 289)).alloc (.cells #[Z_ p,.iface vT vx] 201)).heap.size=w.heap.size+2:=x8_
 have d:=((B_ w #[P_ br] 289).alloc (.cells #[Z_ p,.iface vT vx] 201)).alloc (.cells #[L_] 131);have b:=(B_ (w.alloc (.cells #[P_ br] 289)) #[Z_ p,.iface vT vx] 201).alloc (.cells #[L_] 131);have c:=B_ ((w.alloc (.cells #[P_ br] 289)).alloc (.cells #[Z_ p,.iface vT vx] 201)) #[L_] 131;rw[n]at b;rw[q]at c;have n:=a.size;exact⟨(M.new A).call h a m,(A.mono v_).trans a u_,l,M_,a.bl d M_,a.bl b M_,(k.fr A u_).fr a (λg hg e=>M.brP (e▸hg)),by simp,_,_,a.bl c M_,World.ownsRow_nil _ _ _ _,rfl,qJ.nil _ _ _ _⟩
def se{q0:Nat}{w0 w:Aw}{P:Au}{ss:BA}{ds:Ar}{sv rv:Ax}{xs:Az}{s:BA}{nt:As}{nx:Ax}{pl:Ap}{br i:Nat}{t:PT}{p:Int}{f:Nat}(M:NC w0 P ss ds sv rv xs s nt nx pl br i w)(y:TyV w P t (.iface vT vx))(u:yJ w0)(x:∀j,i<j->j<=s.size->qu w0 P ss ds sv rv xs s nt nx pl br f t j):Calls prog 171 #[P_ br,.agg #[Z_ p,.iface vT vx]] w (yp (zx ds) (.wrap 123 q0 t) w sv rv s nt nx pl br (xO (rdT s (zx ds) pl f t) s 123 i)):=by
 refine hq_ λl Q_=>?_;have E:s.size<=4000:=ya_
 have A:Fr w (((w.alloc (.cells #[P_ br] 289)).alloc (.cells #[Z_ p,.iface vT vx] 201)).alloc (.cells #[L_] 131)) N_:=(((A_ w _).alloc _).alloc _).alloc _;have z:=qv s (zx ds) pl f t;have r:ie (St:=List (BA×DT)) sv rv s nt nx pl br 188 #[P_ w.heap.size,.pointer (some ⟨w.heap.size+2,0,none⟩),.pointer (some ⟨w.heap.size+1,0,none⟩)] (vN (rdT s (zx ds) pl f t) s) (λn j W=>MI w0 w P ss ds sv rv xs s nt nx pl br i t p (.iface vT vx) n j W) (aC w sv rv s nt nx pl br):=
  { F:=λW=>by kernel_rfl
    R:=λh=>⟨h.M.R,h.M.il,h.M.e⟩
    K:=λh h1 k m l=>h.call h1 k m ys_
    B:=λh=>⟨h.fr,.base,_,h.M.R,h.M.il⟩
    C:=λ{n j W} h=>(Xs h u (λj' h1 k=>x j' ys_ k) (λj d j' e=>(z j d j' e).1)).mono (by
     rintro e W' ⟨v,he,hm⟩
     refine⟨v,he,?_⟩
     cases l:vN (rdT s (zx ds) pl f t) s n j with
     |none=>rw[l]at hm;exact hm
     |some q=>obtain⟨a,b⟩:=q;rw[l]at hm;exact hm) }
 have hC:=zy (pv r (w:=(((w.alloc (.cells #[P_ br] 289)).alloc (.cells #[Z_ p,.iface vT vx] 201)).alloc (.cells #[L_] 131))) (σ:=([]:List (BA×DT))) (i:=i) (co:=123) (cf:=125) 123 125 (A.bl M.R id) M.il (λW' h l D=>JL M y h l D) (λW' h l=>⟨⟨(A.mono v_).trans l u_,.base,i,h,M.il⟩,((M.new A).call h l M.il).e⟩) E rfl rfl D_ D_);have hres:=zy (JT (rdT s (zx ds) pl f t) s i);cases hp:jX (vN (rdT s (zx ds) pl f t) s) s 123 125 [] i with
 |none=>
  rw[hp]at hres;replace hp:=zy hp;go_in;go_wp2_with (go_at_call 186;apply hC.o.mono;rintro e w2 ⟨v2,rfl,hm⟩;rw[hp.o]at hm;obtain⟨⟨l,l,rfl⟩,hB⟩:=hm;replace hB:=zy hB);try go_ret
  rw[Q_.o,hres.o];obtain⟨h1,k,m⟩:=hB.o;exact⟨.nilIface,_,rfl,h1,rfl,k,m⟩
 |some q=>
  have cc1:=Nat;exact cwXe1_
def yp.pre{env:Ay}{t:PT}{w w1 w':Aw}{sv rv:Ax}{s:BA}{nt:As}{nx:Ax}{pl:Ap}{br:Nat}{res:Cf}{e:Ah}(A:Fr w w1 N_)(h:yp env t w1 sv rv s nt nx pl br res e w'):yp env t w sv rv s nt nx pl br res e w':=by
 obtain⟨v,a,he,b,hm⟩:=h;refine⟨v,a,he,(A.mono v_).trans b u_,?_⟩;cases res with
 |none=>exact⟨hm.1,hm.2.1.ls A.size,hm.2.2⟩
 |some q=>obtain⟨d,j⟩:=q;exact⟨hm.1,hm.2.1.mono (λg _ hg=>ai_ A.size hg),hm.2.2⟩
def Gv(w0:Aw)(P:Au)(ss:BA)(ds:Ar)(sv rv:Ax)(xs:Az)(s:BA)(nt:As)(nx:Ax)(pl:Ap)(br:Nat):Prop:=
 ∀(w:World) (i:Nat) (t:PT),NC w0 P ss ds sv rv xs s nt nx pl br i w->
  Calls prog 168 #[P_ br,Z_ (-2147483648),Z_ 2147483647] w (yp (zx ds) t w sv rv s nt nx pl br ((vg s 105 i).map (λq=>(.mk 105 q.1 noB [] [],q.2))))/\
  Calls prog 168 #[P_ br,Z_ (-9223372036854775808),Z_ 9223372036854775807] w (yp (zx ds) t w sv rv s nt nx pl br ((vg s 108 i).map (λq=>(.mk 108 q.1 noB [] [],q.2))))
section
variable {w0:Aw} {P:Au} {ss:BA} {ds:Ar} {sv rv:Ax} {xs:Az} {s:BA} {nt:As} {nx:Ax} {pl:Ap} {br i:Nat} {f p:Nat}
def WX:qu w0 P ss ds sv rv xs s nt nx pl br (f+1) (.leaf 110 p) i:=by
 intro w v M n;obtain rfl:v=.iface 191 (.agg #[I_ p]):=by
  cases n with
  |base _ _ h=>rfl
  |name _ _ h=>exact absurd h D_
 refine hq_ λx m=>?_;have A:Fr w (w.alloc (.cells #[I_ p] 191)) N_:=(A_ w _).alloc _;have d:=M.new A;have q:s.size<=4000:=ya_
 have k:=M.il;have l:=zy (A.mono (T:=λg=>g=br) v_);replace d:=zy d;by_cases b:bt s i=78
 .have r:i+1<=s.size:=zr (s:=s) (i:=i) M_;have hr:=zy (show rdT s (zx ds) pl (f+1) (.leaf 110 p) i=some (.mk 110 0 noB [] [],i+1) by rw[rdT];unfold xr;rw[i_ rfl,i_ b]);replace b:=zy b;go_in;go_wp2_with (go_at_call 166;apply(xy 78 d.o.R q k rfl D_ b).mono;rintro e u ⟨rfl,c,a⟩;replace c:=zy c;replace a:=zy a);try go_ret
  rw[m.o,hr.o];exact nok (J_ .nothing D_) (l.o.trans c u_) a r
 .have hr:=zy (show rdT s (zx ds) pl (f+1) (.leaf 110 p) i=none by rw[rdT];unfold xr;rw[i_ rfl,n_ b]);replace b:=zy b;go_in;go_wp2_with (go_at_call 166;apply(xF 78 d.o.R q k rfl D_ b).mono;rintro e u ⟨rfl,c,a⟩;have b:=(d.o.call a c k).e;replace c:=zy c;replace a:=zy a);go_quiet (fail);go_wp2;try go_ret
  rw[m.o,hr.o];exact eC ((l.o.trans c u_).si (zw.drewN _ _)) (a.o.si (zw.drewN _ _)) k
def WZ:qu w0 P ss ds sv rv xs s nt nx pl br (f+1) (.leaf 116 p) i:=by
 intro w v M b;obtain rfl:v=.iface 192 (.agg #[I_ p]):=by
  cases b with
  |base _ _ h=>rfl
  |name _ _ h=>exact absurd h D_
 have hr:rdT s (zx ds) pl (f+1) (.leaf 116 p) i=cH s i:=by
  rw[rdT];unfold xr cH;rw[n_ D_,i_ rfl]
 rw[hr];refine hq_ λk c=>?_;have A:Fr w (w.alloc (.cells #[I_ p] 192)) N_:=(A_ w _).alloc _;have b:=M.new A;have k:=zy (oR (t:=.leaf 116 p) b);replace A:=zy A;go_in;go_wp2_with (go_at_call 167;apply k.o.mono;intro e b l;obtain⟨m,d,rfl,a⟩:=l;replace a:=zy a);try go_ret
 rw[c.o];exact yp.pre A ⟨m,d,rfl,a⟩
def WJ(a:Gv w0 P ss ds sv rv xs s nt nx pl br):qu w0 P ss ds sv rv xs s nt nx pl br (f+1) (.leaf 105 p) i:=by
 intro w v M c;obtain rfl:v=.iface 194 (.agg #[I_ p]):=by
  cases c with
  |base _ _ h=>rfl
  |name _ _ h=>exact absurd h D_
 have hr:rdT s (zx ds) pl (f+1) (.leaf 105 p) i=(vg s 105 i).map (λq=>(.mk 105 q.1 noB [] [],q.2)):=by
  rw[rdT];unfold xr;rw[n_ D_,n_ D_,i_ D_];cases vg s 105 i<;>rfl
 rw[hr];refine hq_ λl d=>?_;have A:Fr w (w.alloc (.cells #[I_ p] 194)) N_:=(A_ w _).alloc _;have c:=M.new A;have l:=zy ((a _ _ (.leaf 105 p) c).1);replace A:=zy A;go_in;go_wp2_with (go_at_call 168;apply l.o.mono;intro e c a;obtain⟨m,k,rfl,b⟩:=a;replace b:=zy b);try go_ret
 rw[d.o];exact yp.pre A ⟨m,k,rfl,b⟩
def WV(a:Gv w0 P ss ds sv rv xs s nt nx pl br):qu w0 P ss ds sv rv xs s nt nx pl br (f+1) (.leaf 108 p) i:=by
 intro w v M c;obtain rfl:v=.iface 196 (.agg #[I_ p]):=by
  cases c with
  |base _ _ h=>rfl
  |name _ _ h=>exact absurd h D_
 have hr:rdT s (zx ds) pl (f+1) (.leaf 108 p) i=(vg s 108 i).map (λq=>(.mk 108 q.1 noB [] [],q.2)):=by
  rw[rdT];unfold xr;rw[n_ D_,n_ D_,i_ D_];cases vg s 108 i<;>rfl
 rw[hr];refine hq_ λl d=>?_;have A:Fr w (w.alloc (.cells #[I_ p] 196)) N_:=(A_ w _).alloc _;have c:=M.new A;have l:=zy ((a _ _ (.leaf 108 p) c).2);replace A:=zy A;go_in;go_wp2_with (go_at_call 168;apply l.o.mono;intro e c a;obtain⟨m,k,rfl,b⟩:=a;replace b:=zy b);try go_ret
 rw[d.o];exact yp.pre A ⟨m,k,rfl,b⟩
def WY:qu w0 P ss ds sv rv xs s nt nx pl br (f+1) (.leaf 115 p) i:=by
 intro w v M b;obtain rfl:v=.iface 197 (.agg #[I_ p]):=by
  cases b with
  |base _ _ h=>rfl
  |name _ _ h=>exact absurd h D_
 have hr:rdT s (zx ds) pl (f+1) (.leaf 115 p) i=nB s i:=by
  rw[rdT];unfold xr nB;rw[n_ D_,n_ D_,n_ D_,i_ rfl]
 rw[hr];refine hq_ λk c=>?_;have A:Fr w (w.alloc (.cells #[I_ p] 197)) N_:=(A_ w _).alloc _;have b:=M.new A;have k:=zy (eM (t:=.leaf 115 p) b);replace A:=zy A;go_in;go_wp2_with (go_at_call 169;apply k.o.mono;intro e b l;obtain⟨m,d,rfl,a⟩:=l;replace a:=zy a);try go_ret
 rw[c.o];exact yp.pre A ⟨m,d,rfl,a⟩
def cq20_{p:Prop}(h:p:=by
 (first|(have:=cc1;intro w v M hn k)|(intro w v M k));obtain⟨a,l,rfl⟩:∃a,TyV w P t a/\v=.iface 199 (.agg #[I_ p,a]):=by
  cases k with
  |wrap _ _ h=>exact⟨_,h,rfl⟩
 obtain⟨vT,vx,rfl⟩:=l.iface;(first|(have:=cc1;refine hq_ λq b=>?_)|(rw[rdT]));(first|(have:=cc1;unfold wk at b;simp only at b)|(refine hq_ λq b=>?_));clear k;have A:Fr w (w.alloc (.cells #[I_ p,.iface vT vx] 199)) N_:=(A_ w _).alloc _;have d:=M.new A;(first|(have:=cc1;have n:=zy (YQ (p:=p) (pt:=(p:Int)) hI d hn (l.fr A u_) hR))|(have n:=zy (Xe (q0:=p) (p:=(p:Int)) d (l.fr A u_) hI hR)));replace A:=zy A;clear d M;go_in;go_wp2_with ((first|go_at_call 170|go_at_call 85);apply n.o.mono;intro e u r;obtain⟨a,m,rfl,c⟩:=r;replace c:=zy c);try go_ret
 rw[b.o];(first|(have:=cc1;exact yk.pre A.o ⟨a,m,rfl,c.o⟩)|(exact yp.pre A.o ⟨a,m,rfl,c.o⟩))):p:=h
def FU{t:PT}(hI:yV w0)(hR:∀j,i<j->j<=s.size->qu w0 P ss ds sv rv xs s nt nx pl br f t j):qu w0 P ss ds sv rv xs s nt nx pl br (f+1) (.wrap 91 p t) i:=by
 exact cq20_
def cq19_{p:Prop}(h:p:=by
 (first|(have:=cc1;intro w v M hn k)|(intro w v M k));obtain⟨a,l,rfl⟩:∃a,TyV w P t a/\v=.iface 201 (.agg #[I_ p,a]):=by
  cases k with
  |wrap _ _ h=>exact⟨_,h,rfl⟩
 obtain⟨vT,vx,rfl⟩:=l.iface;(first|(have:=cc1;refine hq_ λq b=>?_)|(rw[rdT]));(first|(have:=cc1;unfold wk at b;simp only at b)|(refine hq_ λq b=>?_));clear k;have A:Fr w (w.alloc (.cells #[I_ p,.iface vT vx] 201)) N_:=(A_ w _).alloc _;have d:=M.new A;(first|(have:=cc1;have n:=zy (VX (p:=p) (pt:=(p:Int)) hI d hn (l.fr A u_) hR))|(have n:=zy (se (q0:=p) (p:=(p:Int)) d (l.fr A u_) hI hR)));replace A:=zy A;clear d M;go_in;go_wp2_with ((first|go_at_call 171|go_at_call 86);apply n.o.mono;intro e u r;obtain⟨a,m,rfl,c⟩:=r;replace c:=zy c);try go_ret
 rw[b.o];(first|(have:=cc1;exact yk.pre A.o ⟨a,m,rfl,c.o⟩)|(exact yp.pre A.o ⟨a,m,rfl,c.o⟩))):p:=h
def Wo{t:PT}(hI:yJ w0)(hR:∀j,i<j->j<=s.size->qu w0 P ss ds sv rv xs s nt nx pl br f t j):qu w0 P ss ds sv rv xs s nt nx pl br (f+1) (.wrap 123 p t) i:=by
 exact cq19_
def FM{l:Af}(x:l≠[])(C:yV w0)(c:∀t∈l,qu w0 P ss ds sv rv xs s nt nx true br f t i):qu w0 P ss ds sv rv xs s nt nx true br (f+1) (.alts p l) i:=by
 intro w v M m;cases l with
 |nil=>exact absurd rfl x
 |cons t r=>
 obtain⟨X,a,ho,_,hX,rfl⟩:∃X a,w.ownsRow 0 63 1 a (t::r).length ((List.range (t::r).length).map X)/\(∀g,a.ownBlock=some g->P g)/\(∀i u,(t::r)[i]?=some u->TyV w P u (X i))/\v=.iface 205 (.agg #[I_ p,a]):=by
  cases m with
  |alts _ X ho hP h=>exact⟨X,_,ho,hP,h,rfl⟩
 obtain⟨ba,z,rfl⟩:=zh ho;have hr:rdT s (zx ds) true (f+1) (.alts p (t::r)) i=oB 0 (rdT s (zx ds) true f t i):=by
  rw[rdT];unfold jZ;rw[i_ rfl];simp only;cases rdT s (zx ds) true f t i<;>rfl
 rw[hr];refine hq_ λk y=>?_;have k:=c t x8_;have q:=hX 0 t rfl;have A:Fr w (w.alloc (.cells #[I_ p,.slice ba (t::r).length z] 205)) N_:=(A_ w _).alloc _;have c:=M.new A;have d:=zy (oL (tt:=.alts p (t::r)) (p:=(p:Int)) rfl c (zk ho A u_) (q.fr A u_) C k);replace A:=zy A;generalize (t::r).length=n at d A⊢;go_in;go_wp2_with (go_at_call 172;apply d.o.mono;intro e c D;obtain⟨a,B,rfl,b⟩:=D;replace b:=zy b);try go_ret
 rw[y.o];exact yp.pre A ⟨a,B,rfl,b⟩
end
def Gg(tt:PT)(w0:Aw)(P:Au)(ss:BA)(ds:Ar)(sv rv:Ax)(xs:Az)(s:BA)(nt:As)(nx:Ax)(pl:Ap)(br f:Nat)(b:PB)(i:Nat):Prop:=
 ∀(w:World) (v:Value),NC w0 P ss ds sv rv xs s nt nx pl br i w->yM w P ss b v->
  Calls prog 154 #[P_ br,v] w (yp (zx ds) tt w sv rv s nt nx pl br (yg (rdT s (zx ds) pl f) s b i))
section
variable {tt:PT} {w0:Aw} {P:Au} {ss:BA} {ds:Ar} {sv rv:Ax} {xs:Az} {s:BA} {nt:As} {nx:Ax} {pl:Ap} {br i:Nat} {f p:Nat}
def Vp(B:∀k g,fs[k]?=some g->zN (zx ds) tt 0 k=g.ty)(m:∀g∈fs,zt g.letter=true)(y:fs.length<=300)(z:iM (zx ds))(l:∀g∈fs,okT (zx ds) g.ty)(c:∀g∈fs,∀j,i<j->j<=s.size->qu w0 P ss ds sv rv xs s nt nx pl br f g.ty j):Gg tt w0 P ss ds sv rv xs s nt nx pl br f (.recd fs) i:=by
 intro w v M d;obtain⟨p,a,zs,ho,hP,h,rfl⟩:∃(p:Nat) (a:Value) (zs:List Value),w.ownsRow 0 185 4 a fs.length zs/\(∀g,a.ownBlock=some g->P g)/\xJ w P ss fs zs/\v=.iface 210 (.agg #[I_ p,a]):=by
  cases d with
  |recd p ho hP h=>exact⟨p,_,_,ho,hP,h,rfl⟩
 obtain⟨r,u,rfl⟩:=zh ho;refine hq_ λa n=>?_;have A:Fr w (w.alloc (.cells #[I_ p,.slice r fs.length u] 210)) N_:=(A_ w _).alloc _;have a:=M.new A;have d:=zy (eU (p:=(p:Int)) B a ((⟨ho,hP,h⟩:xQ w P ss fs _ _).fr A u_) m y z l c);replace A:=zy A;go_in;go_wp2_with (go_at_call 173;apply d.o.mono;intro e a x;obtain⟨C,q,rfl,b⟩:=x;replace b:=zy b);try go_ret
 rw[n.o];exact yp.pre A ⟨C,q,rfl,b⟩
def Vb{l:Av}(E:∀n,fI (zx ds) tt n=(l.map Prod.fst).getD n 0)(m:∀q∈l,zt q.1=true)(D:l.length<=300):Gg tt w0 P ss ds sv rv xs s nt nx pl br f (.enum l o) i:=by
 intro w v M r;obtain⟨p,a,u,ho,hP,hu,rfl⟩:∃(p:Nat) (a u:Value),w.ownsRow 0 182 2 a l.length (yu l)/\(∀g,a.ownBlock=some g->P g)/\qV w P o u/\v=.iface 215 (.agg #[I_ p,a,u]):=by
  cases r with
  |enum p ho hP h=>exact⟨p,_,_,ho,hP,h,rfl⟩
 obtain⟨z,B,rfl⟩:=zh ho;obtain⟨dd,rfl⟩:∃d,u=.pointer d:=by
  unfold qV at hu;split at hu
  .exact⟨_,hu⟩
  .obtain⟨g',_,e,_⟩:=hu;exact⟨_,e⟩
 have hr:yg (rdT s (zx ds) pl f) s (.enum l o) i=iy s l i:=by
  unfold yg iy;simp only;by_cases a:i<s.size
  .rw[i_ a];cases (l.map Prod.fst).findIdx? (λc=>c==bt s i)<;>rfl
  .rw[n_ a,pZ M_,fK (λh=>by
    obtain⟨q,a,e⟩:=bl_.1 h
    obtain⟨k,hk,_⟩:=wa (m q a)
    omega)]
 rw[hr];refine hq_ λa x=>?_;have A:Fr w (w.alloc (.cells #[I_ p,.slice z l.length B,.pointer dd] 215)) N_:=(A_ w _).alloc _;have a:=M.new A;have r:=zy (eP (t:=tt) (p:=(p:Int)) (u:=.pointer dd) a E (zk ho A u_) hP D m);replace A:=zy A;go_in;go_wp2_with (go_at_call 174;apply r.o.mono;intro e a C;obtain⟨F,y,rfl,b⟩:=C;replace b:=zy b);try go_ret
 rw[x.o];exact yp.pre A ⟨F,y,rfl,b⟩
def ZX{n:Nat}:Gg tt w0 P ss ds sv rv xs s nt nx pl br f (.bytes n) i:=by
 intro w v M b;obtain⟨p,rfl⟩:∃p:Nat,v=.iface 218 (.agg #[I_ p,I_ n]):=by
  cases b with
  |bytes p n=>exact⟨p,rfl⟩
 have hr:yg (rdT s (zx ds) pl f) s (.bytes n) i=lO s n i:=by
  unfold yg lO;rfl
 rw[hr];refine hq_ λh c=>?_;have A:Fr w (w.alloc (.cells #[I_ p,I_ n] 218)) N_:=(A_ w _).alloc _;have b:=M.new A;have h:=zy (oA (t:=tt) (p:=(p:Int)) (n:=n) b);replace A:=zy A;go_in;go_wp2_with (go_at_call 175;apply h.o.mono;intro e b k;obtain⟨l,d,rfl,a⟩:=k;replace a:=zy a);try go_ret
 rw[c.o];exact yp.pre A ⟨l,d,rfl,a⟩
def Vg{c:Nat}(hc:zZ c=true){b:PB}(hb:zx ds c=some b)(S:Gg (.leaf c p) w0 P ss ds sv rv xs s nt nx pl br f b i):qu w0 P ss ds sv rv xs s nt nx pl br (f+1) (.leaf c p) i:=by
 intro w v M F;have T:65<=c/\c<=70:=yd_
 obtain rfl:v=.iface 208 (.agg #[I_ p,U_ c]):=by
  cases F with
  |base _ _ h=>
   simp only[zY,av_,beq_iff_eq]at h;omega
  |name _ _ h=>rfl
 have hr:rdT s (zx ds) pl (f+1) (.leaf c p) i=yg (rdT s (zx ds) pl f) s b i:=by
  rw[rdT];unfold xr;rw[n_ M_,n_ M_,n_ M_,n_ M_,hb]
 rw[hr];obtain⟨Q,E⟩:=e_ (yg (rdT s (zx ds) pl f) s b i);rw[<- E];refine hq_ λT O=>?_;have A:Fr w (w.alloc (.cells #[I_ p,U_ c] 208)) N_:=(A_ w _).alloc _;have a:=M.new A;have d:=B_ w #[I_ p,U_ c] 208;have T:=M.lt;have G:=zy (And.intro a (And.intro d A));clear hr F M a d A;go_in;go_wp2;obtain⟨a,d,A⟩:=G.o;have u:=a.si (zw.drew _);have u0:=a.R.c0;have H:=a.R.c1;have u2:=d.c1;have C:=qw (rv:=rv) c u.D;refine tR_ (λW=>z_ W br 0 sv/\z_ W br 1 rv/\z_ W w.heap.size 1 (U_ c)) ?_;refine tY_ 0 ?_;refine tY_ 1 ?_;refine tY_ 2 ?_;refine tY_ 3 ?_;refine tY_ 4 ?_;refine tY_ 5 ?_;refine tY_ 6 ?_;refine zd 7 rfl K_ ⟨u0,H,u2⟩ (λK k=>?_);go_simp;apply C.mono;rintro e V ⟨U,rfl,l,z⟩;refine k _ _ ?_;clear k K;rw[hb]at z;have n:=u.new l;have x:=S V U n z;have y:=l.bl (((A_ _ N_).si (zw.drew (w.alloc (.cells #[I_ p,U_ c] 208)))).bl d id) id;have J:=n.R.c0;have L:=n.R.c1;have N:=y.c1;rw[<- E]at x;refine zd 8 rfl K_ ⟨J,L,N⟩ (λK k=>?_);go_simp;apply x.mono;rintro e X ⟨I,B,rfl,r,m⟩;refine k _ _ ?_;clear k K;obtain⟨k,k⟩:∃j,yf X br sv rv s j (!pl):=by
  cases Q with
  |none=>exact⟨_,m.2.2.choose_spec.1⟩
  |some q=>exact⟨_,m.2.2.1⟩
 have E:=k.c0;have F:=k.c1;have Q:=(r.bl y M_).c1;replace m:=zy m;replace r:=zy r;replace l:=zy l;replace A:=zy A;clear C x a u n d y z G u0 H u2 J L N k;refine tY_ 9 ?_;refine tY_ 10 ?_;refine tY_ 11 ?_;refine tY_ 12 ?_;refine zV K_ ⟨E,F,Q⟩ ?_ _;go_wp2;refine bodyPost_ret (v:=.tuple #[I,B]) (by simp[results,results154,go_sem]) rfl ?_;rw[O.o];exact yp.pre (A.o.trans (((A_ _ N_).si (zw.drew _)).trans l u_) u_) ⟨I,B,rfl,r,m⟩
end
def jj(ds:Ar):Prop:=∀c b,zx ds c=some b->plB b/\okB (zx ds) b
def jj.sm{ds:Ar}(h:jj ds):iM (zx ds):=λc _ _ e=>(h c _ e).1.2.1
def brL(pl:Ap)(l:Af):Prop:=pl=true\/l.length<=300
mutual
def brT(pl:Ap):PT->Prop
 | .leaf _ _=>True
 | .wrap _ _ t=>brT pl t
 | .alts _ l=>brL pl l/\dW pl l
def dW(pl:Ap):List PT->Prop
 | []=>True
 |t::r=>brT pl t/\dW pl r
end
def brE(pl:Ap)(ds:Ar):Prop:=∀c fs,zx ds c=some (.recd fs)->∀g∈fs,brT pl g.ty
mutual
def bH:∀t:PT,brT true t
 | .leaf _ _=>by unfold brT;trivial
 | .wrap _ _ t=>by unfold brT;exact bH t
 | .alts _ l=>by unfold brT;exact⟨.inl rfl,tD l⟩
def tD:∀l:List PT,dW true l
 | []=>by unfold dW;trivial
 |t::r=>by unfold dW;exact⟨bH t,tD r⟩
end
def Ye{pl:Ap}:∀{l:List PT},dW pl l->∀t∈l,brT pl t
 | [],_,t,h=>by cases h
 |a::r,h,t,b=>by
  unfold dW at h;rcases aq_.1 b with rfl|b
  .exact h.1
  .exact Ye h.2 t b
def Br(w0:Aw)(P:Au)(ss:BA)(ds:Ar)(sv rv:Ax)(xs:Az)(s:BA)(nt:As)(nx:Ax)(pl:Ap)(br:Nat):Prop:=
 ∀(f p:Nat) (l:List PT) (i:Nat),l≠[]->brL pl l->i<=s.size->(∀t∈l,∀j,(pl=true->j=i)->(pl=false->i<j)->j<=s.size->qu w0 P ss ds sv rv xs s nt nx pl br f t j)->qu w0 P ss ds sv rv xs s nt nx pl br (f+1) (.alts p l) i
def YU{w0:Aw}{P:Au}{ss:BA}{ds:Ar}{sv rv:Ax}{xs:Az}{s:BA}{nt:As}{nx:Ax}{br:Nat}(a:yV w0):Br w0 P ss ds sv rv xs s nt nx true br:=
 λ_ _ _ i d _ c b=>FM d a (λt a=>b t a i (λ_=>rfl) (λh=>by cases h) c)
def We{w0:Aw}{P:Au}{ss:BA}{ds:Ar}{sv rv:Ax}{xs:Az}{s:BA}{nt:As}{nx:Ax}{pl:Ap}{br:Nat}(q:jj ds)(hB:brE pl ds)(y:yV w0)(z:yJ w0)(d:Gv w0 P ss ds sv rv xs s nt nx pl br)(A:Br w0 P ss ds sv rv xs s nt nx pl br):∀(f:Nat) (t:PT) (i:Nat),okT (zx ds) t->brT pl t->i<=s.size->2*(s.size-i)+(if t.isAlts=true then 1 else 0)<f->qu w0 P ss ds sv rv xs s nt nx pl br f t i:=by
 intro f;induction f with
 |zero=>intro t i _ _ _ h;omega
 |succ f ih=>
  intro t i a b B hm;have next:∀u,okT (zx ds) u->brT pl u->∀j,i<j->j<=s.size->qu w0 P ss ds sv rv xs s nt nx pl br f u j:=λu hu hb j h1 e=>ih u j hu hb e (by split<;>omega);cases t with
  |leaf c p=>
   unfold okT at a;rcases a with hb|⟨hn,pb,he⟩
   .simp only[zY,av_,beq_iff_eq]at hb;rcases hb with(((rfl|rfl)|rfl)|rfl)|rfl
    .exact WX
    .exact WZ
    .exact WJ d
    .exact WV d
    .exact WY
   .obtain⟨d,m⟩:=q c pb he;refine Vg hn he ?_;cases pb with
    |recd fs=>exact Vp (λk g hg=>by simp only[zN,he,az_,a1_,hg];rfl) d.2.1 d.1 q.sm m (λg hg=>next g.ty (m g hg) (hB c fs he g hg))
    |enum l o=>exact Vb (λn=>by simp only[fI,he]) d.2.1 d.1
    |bytes n=>exact ZX
  |wrap c p t=>
   unfold okT at a;unfold brT at b;rcases a.1 with rfl|rfl
   .exact FU y (next t a.2 b)
   .exact Wo z (next t a.2 b)
  |alts p l=>
   unfold okT at a;unfold brT at b;have m:∀u∈l,okT (zx ds) u/\u.isAlts=false:=by
    have:=a.2;clear a hm b;induction l with
    |nil=>intro u hu;simp at hu
    |cons x r ihr=>
     unfold eG at this;intro u hu;rcases aq_.1 hu with rfl|hu
     .exact⟨this.2.1,this.1⟩
     .exact ihr this.2.2 u hu
   refine A f p l i a.1 b.1 B (λu hu j h1 e a=>?_);refine ih u j (m u hu).1 (Ye b.2 u hu) a ?_;have a:i<=j:=by
    cases pl with
    |true=>have:=h1 rfl;omega
    |false=>have:=e rfl;omega
   rw[(m u hu).2];simp only[PT.isAlts,if_true]at hm;simp only[a2_,if_false];omega
def iu(env:Ay)(t:PT)(w:Aw)(S:Au)(nt:As)(nx:Ax)(r:Cg)(e:Ah)(w':Aw):Prop:=
 ∃v ev,e=.returned (.tuple #[v,ev])/\Fr w w' S/\match r with|some d=>ev=.nilIface/\DaV env w' (λg=>w.heap.size<=g) d t v|none=>v=.nilIface/\jp w' w.heap.size nt nx ev
def oM{w0 w:Aw}{P:Au}{ss:BA}{ds:Ar}{sv rv:Ax}{xs:Az}{s:BA}{nt:As}{nx:Ax}{pl:Ap}{br:Nat}{t:PT}{v:Ax}(M:NC w0 P ss ds sv rv xs s nt nx pl br 0 w)(n:TyV w P t v)(m:qu w0 P ss ds sv rv xs s nt nx pl br (2*s.size+2) t 0):Calls prog 123 #[P_ br,v] w (iu (zx ds) t w (· = br) nt nx (yD (zx ds) pl t s)):=by
 refine hq_ λz h=>?_;have k:=zy (m w v M n);replace M:=zy M;cases hp:rdT s (zx ds) pl (2*s.size+2) t 0 with
 |none=>
  have hr:=zy (show yD (zx ds) pl t s=none by unfold yD;rw[hp]);replace hp:=zy hp;go_in;go_wp2_with (go_at_call 154;apply k.o.mono;rintro e w1 ⟨r,l,rfl,a,hm⟩;rw[hp.o]at hm;obtain⟨rfl,b,_⟩:=hm;obtain⟨c,c,rfl⟩:=b.iface;replace a:=zy a;replace b:=zy b);try go_ret
  rw[h.o,hr.o];exact⟨_,_,rfl,a,rfl,b⟩
 |some q=>
  obtain⟨d,j⟩:=q;have m:=(qv s (zx ds) pl _ t 0 d j hp).2;by_cases c:j=s.size
  .have hr:=zy (show yD (zx ds) pl t s=some d by unfold yD;rw[hp];simp only;rw[i_ c]);have y:¬((j:Int)<(s.size:Int)):=M_;replace hp:=zy hp;go_in;go_wp2_with (go_at_call 154;apply k.o.mono;rintro e w1 ⟨r,l,rfl,a,hm⟩;rw[hp.o]at hm;obtain⟨rfl,b,h1,_⟩:=hm;obtain⟨u,dx,rfl⟩:=b.iface;replace b:=zy b;have c2:=h1.c2;have c3:=h1.c3;replace a:=zy a);go_quiet (fail);go_wp2;try go_ret
   rw[h.o,hr.o];exact⟨_,_,rfl,a.o.si (zw.drewN _ _),rfl,b.o.fr ((A_ w1 N_).si (zw.drewN _ _)) u_⟩
  .have hr:=zy (show yD (zx ds) pl t s=none by unfold yD;rw[hp];simp only;rw[n_ c]);have y:(j:Int)<(s.size:Int):=M_;replace hp:=zy hp;go_in;go_wp2_with (go_at_call 154;apply k.o.mono;rintro e w1 ⟨r,l,rfl,a,hm⟩;rw[hp.o]at hm;obtain⟨rfl,b,h1,x⟩:=hm;obtain⟨u,dx,rfl⟩:=b.iface;have c2:=h1.c2;have c3:=h1.c3;have b:=(M.o.call h1 a x).e;replace a:=zy a);go_quiet (fail);go_wp2;go_quiet (fail);go_wp2;try go_ret
   rw[h.o,hr.o];exact⟨_,_,rfl,a.o.si ((zw.drewN _ _).trans (zw.drewN _ _)),rfl,.base⟩
def ii(w0:Aw):Prop:=∀P ss ds sv rv xs s nt nx pl br,Gv w0 P ss ds sv rv xs s nt nx pl br
def eH{w0 w:Aw}{P:Au}{ss:BA}{ds:Ar}{sv:Ax}{rT:As}{rx:Ax}{xs:Az}{s:BA}{nt:As}{nx:Ax}{t:PT}{v:Ax}(D:xf w P ss ds sv xs)(n:TyV w P t v)(l:yt w0 w)(hk:w0.heap.size<=w.heap.size)(z:∀g,P g->g<w.heap.size)(x:vt 3 w0 nt nx)(hs:s.size<=300)(E:okT (zx ds) t)(C:jj ds)(m:yV w0)(B:yJ w0)(y:ii w0):Calls prog 81 #[.agg #[sv,.iface rT rx],v,.string s] w (iu (zx ds) t w N_ nt nx (yD (zx ds) true t s)):=by
 refine hq_ λc r=>?_;obtain⟨a,b,rfl⟩:=zh D.row;have A:Fr w ((w.alloc (.cells #[.slice a ds.length b,.iface rT rx] 65)).alloc (.cells #[.slice a ds.length b,.iface rT rx,.string s,O_,.bool false] 255)) N_:=((A_ w _).alloc _).alloc _;have q:(w.alloc (.cells #[.slice a ds.length b,.iface rT rx] 65)).heap.size=w.heap.size+1:=x8_
 have c:=B_ (w.alloc (.cells #[.slice a ds.length b,.iface rT rx] 65)) #[.slice a ds.length b,.iface rT rx,.string s,O_,.bool false] 255;rw[q]at c;have k:NC w0 P ss ds (.slice a ds.length b) (.iface rT rx) xs s nt nx true (w.heap.size+1) 0 ((w.alloc (.cells #[.slice a ds.length b,.iface rT rx] 65)).alloc (.cells #[.slice a ds.length b,.iface rT rx,.string s,O_,.bool false] 255)):=
  ⟨c,D.fr A u_,l.fr A hk (λg f=>f.elim),x,λg hg=>by have:=z g hg;omega,M_,M_,aj_ _⟩
 have a:=zy (oM k (n.fr A u_) (We C (λ_ _ _ g _=>bH g.ty) m B (y _ _ _ _ _ _ _ _ _ _ _) (YU m) _ t 0 E (bH t) o_ (by split<;>omega)));replace A:=zy A;go_in;go_wp2_with (go_at_call 123;apply a.o.mono;rintro e w1 ⟨G,u,rfl,h,hm⟩;replace h:=zy h;replace hm:=zy hm);try go_ret
 rw[r.o];have F:=A.o.size;refine⟨G,u,rfl,A.o.trans h (λg hg e=>M_),?_⟩;have a:=hm.o;cases b:yD (zx ds) true t s with
 |none=>rw[b]at a;exact⟨a.1,a.2.ls F⟩
 |some d=>rw[b]at a;exact⟨a.1,a.2.mono (λg _ hg=>M_)⟩
section
variable {w:Aw} {P:Au} {s:BA} {g:Nat} {cs:Az}
def fh(hb:Blk w g cs 189)(x:Ax){b e k n:Nat}{v:Ax}{xs:Az}(ho:w.ownsRow b e k v n xs)(l:e≠189):(w.setCell ⟨g,2,none⟩ x).ownsRow b e k v n xs:=by
 refine zk ho (V_ w ⟨g,2,none⟩ x) (λg' a e'=>?_);have d:g'=g:=e';subst d;rcases ho.2 with⟨h,_⟩|⟨d,d,d,rfl,_,c,_⟩
 .rw[h]at a;simp[Value.ownBlock]at a
 .simp only[Value.ownBlock,ae_]at a;subst a;unfold Blk at hb;rw[hb]at c;simp only[ae_,Obj.cells.injEq]at c;exact l c.2.1.symm
def TyV.put(hb:Blk w g cs 189)(x:Ax){t:PT}{v:Ax}(h:TyV w P t v):TyV (w.setCell ⟨g,2,none⟩ x) P t v:=by
 induction h with
 |base c p h=>exact .base c p h
 |name c p h=>exact .name c p h
 |wrap c p h ih=>exact .wrap c p ih
 |alts p X ho hP h ih=>exact .alts p X (fh hb x ho D_) hP ih
def DfV.put(hb:Blk w g cs 189)(x:Ax)(hx:IfV x){d:Ax}(h:DfV w P s o d):DfV (w.setCell ⟨g,2,none⟩ x) P s o d:=by
 match o with
 |none=>exact h
 |some (a,e)=>
  obtain⟨g',l,h1,b,k,c⟩:=h;by_cases hg:g'=g
  .subst hg;exact⟨g',x,h1,b,hx,c.set 2 x⟩
  .exact⟨g',l,h1,b,k,c.ot (a:=⟨g,2,none⟩) x hg⟩
def xJ.put(hb:Blk w g cs 189)(x:Ax)(hx:IfV x){ys:Az}(h:xJ w P s fs ys):xJ (w.setCell ⟨g,2,none⟩ x) P s fs ys:=λi f e=>by
 obtain⟨a,b,c,d,h1,l,m,n,k⟩:=h i f e;exact⟨a,b,c,d,h1,l,m,n,k.1,k.2.1,k.2.2.1.put hb x,k.2.2.2.put hb x hx⟩
def xQ.put(hb:Blk w g cs 189)(x:Ax)(hx:IfV x){fv:Ax}{ys:Az}(h:xQ w P s fs fv ys):xQ (w.setCell ⟨g,2,none⟩ x) P s fs fv ys:=
 ⟨fh hb x h.row D_,h.off,h.V.put hb x hx⟩
def qV.put(hb:Blk w g cs 189)(x:Ax){d:Ax}(h:qV w P o d):qV (w.setCell ⟨g,2,none⟩ x) P o d:=by
 match o with
 |none=>exact h
 |some (a,e)=>
  obtain⟨g',h1,k,b⟩:=h;refine⟨g',h1,k,b.ot (a:=⟨g,2,none⟩) x (λe'=>?_)⟩;have c:g'=g:=e';subst c;unfold Blk at hb b;rw[hb]at b;simp only[ae_,Obj.cells.injEq]at b;exact absurd b.2.1 D_
def yM.put(hb:Blk w g cs 189)(x:Ax)(hx:IfV x){b:PB}{v:Ax}(h:yM w P s b v):yM (w.setCell ⟨g,2,none⟩ x) P s b v:=by
 cases h with
 |recd p ho hP h hp=>exact .recd p (fh hb x ho D_) hP (h.put hb x hx) hp
 |enum p ho hP h hp=>exact .enum p (fh hb x ho D_) hP (h.put hb x) hp
 |bytes p n hp=>exact .bytes p n hp
def xf.put(hb:Blk w g cs 189)(x:Ax)(hx:IfV x){ds:Ar}{sv:Ax}{xs:Az}(h:xf w P s ds sv xs):xf (w.setCell ⟨g,2,none⟩ x) P s ds sv xs:=
 ⟨fh hb x h.row D_,h.off,λi d e=>by
  obtain⟨c,h1,a,b,k⟩:=h.V i d e
  exact⟨c,h1,a,b,k.put hb x hx⟩,h.len⟩
end
def xf.mono{w:Aw}{P Q:Au}{s:BA}{ds:Ar}{sv:Ax}{xs:Az}(h:xf w P s ds sv xs)(a:∀g,g<w.heap.size->P g->Q g):xf w Q s ds sv xs:=
 ⟨h.row,λg e=>a g (h.row.lt g e).2 (h.off g e),h.V.mono a,h.len⟩
def Qu{s:BA}{env:Ay}{q:Nat}{f:PF}(h:fs[q]?=some f):(fs.drop q).flatMap (dfB s env)=dfB s env f++(fs.drop (q+1)).flatMap (dfB s env):=by
 have hl:=(am_.1 h).1;rw[bc_ hl,bo_,(am_.1 h).2]
structure RDM(w0 w:Aw)(P:Au)(s:BA)(ds:Ar)(sv rv:Ax)(xs:Az)(fv:Ax)(ys:Az)(W:Aw):Prop where
 fr:Fr w W P
 D:xf W P s ds sv xs
 F:xQ W (λg=>P g\/w.heap.size+1<=g) s (zp ds) fv ys
 B:Blk W w.heap.size [sv,rv] 65
 G:yt w0 W
 T:∀t x,TyV w P t x->TyV W P t x
section
variable {w0 w W W':Aw} {P:Au} {s:BA} {ds:Ar} {sv rv:Ax} {xs:Az} {fv:Ax} {ys:Az}
def RDM.new(M:RDM w0 w P s ds sv rv xs fv ys W)(hk:w0.heap.size<=w.heap.size)(a:Fr W W' N_):RDM w0 w P s ds sv rv xs fv ys W':=
 ⟨M.fr.trans a v_,M.D.fr a u_,M.F.fr a u_,a.bl M.B id,M.G.fr a (ai_ hk M.fr.size) (λ_ f=>f.elim),λt x h=>(M.T t x h).fr a u_⟩
def RDM.put(M:RDM w0 w P s ds sv rv xs fv ys W)(hk:w0.heap.size<=w.heap.size)(b:∀g,P g->w0.heap.size<=g){g:Nat}{cs:Az}(hb:Blk W g cs 189)(hg:P g\/w.heap.size+1<=g)(x:Ax)(hx:IfV x):RDM w0 w P s ds sv rv xs fv ys (W.setCell ⟨g,2,none⟩ x):=by
 have c:w0.heap.size<=g:=by
  rcases hg with h|h
  .exact b g h
  .omega
 refine⟨M.fr.setCell ⟨g,2,none⟩ x (λh=>?_),M.D.put hb x hx,M.F.put hb x hx,M.B.ot (a:=⟨g,2,none⟩) x (λe=>?_),M.G.fr (V_ W ⟨g,2,none⟩ x) (ai_ hk M.fr.size) (λg' e=>?_),λt y h=>(M.T t y h).put hb x⟩
 .rcases hg with b|b
  .exact b
  .have:g<w.heap.size:=h;omega
 .have e':w.heap.size=g:=e;have hB:=M.B;rw[e']at hB;unfold Blk at hb hB;rw[hb]at hB;simp only[ae_,Obj.cells.injEq]at hB;exact absurd hB.2.1 D_
 .have e':g'=g:=e;omega
end
end Go.Proofs.YtahhhgbojlkjnaaGreatDoor
