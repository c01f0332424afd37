import Derived.Test.YtlmebjdmdogmfaaGreatDoorW21
set_option linter.unusedVariables false
set_option maxHeartbeats 16000000
set_option maxRecDepth 100000
set_option linter.defProp false
set_option linter.unusedSimpArgs false
open Go.Proofs.Tryz
namespace Go.Proofs.YtlmebjdmdogmfaaGreatDoor
open Go.RowKit
variable {x t r:PT}{v a b rv:Ax}{ew env:Au}{R:Bt}{Z:Ds}{ua:Am}{un uc lo c:Nat}{w':Aw}{rs:Af}{S:Az}{df:Dm}
inductive MtV (w:Aw) (P Q:Az) (s s':BA) (ew er:Au) (Z:Ds):PT->PT->Value->Prop
 |never {x y:PT} (h:xi ew er x y=false):MtV w P Q s s' ew er Z x y (.iface 308 (.agg #[]))
 |same {c p:Nat} {y:PT} (hc:zi c=true) (h:xi ew er (.leaf c p) y=true):MtV w P Q s s' ew er Z (.leaf c p) y (.iface 275 (.agg #[]))
 |items {c p p':Nat} {t t':PT} {a b:Value} (hc:c=91\/c=123) (ha:TyV w P t a) (hb:TyV w Q t' b):MtV w P Q s s' ew er Z (.wrap c p t) (.wrap c p' t') (.iface 282 (.agg #[a,b]))
 |body {c p p':Nat} {X Y:PB} {a b v:Value} (hc:zY c=true) (hx:ew c=some X) (hy:er c=some Y) (ha:yV w P s X a) (hb:yV w Q s' Y b) (hz:Z Y b) (hm:MbV X Y a b v) (hs:vf X=vf Y):MtV w P Q s s' ew er Z (.leaf c p) (.leaf c p') v
def xM(h:zY c=true):zi c=false:=by
 have hc:65<=c/\c<=70:=y4_
 cases e:zi c with
 |false=>rfl
 |true=>
  simp only[zi,ax_,beq_iff_eq]at e;omega
def ek{f:Nat}(h:zY c=true)(g:zi f=true):(c==f)=false:=by
 have hc:65<=c/\c<=70:=y4_
 simp only[zi,ax_,beq_iff_eq]at g;rw[beq_eq_false_iff_ne];omega
def MbV.sort{X Y:PB}(h:MbV X Y a b v):vf X=vf Y\/(vf X≠vf Y/\v=.iface 308 (.agg #[])):=by
 cases h with
 |flds=>exact .inl rfl
 |syms=>exact .inl rfl
 |same=>exact .inl rfl
 |never h=>exact .inr ⟨h,rfl⟩
def tA{w:Aw}{P Q:Az}{s s':BA}{ds ds':Ar}{sv sv':Ax}{xs xs':Ay}{sT rT:Av}{sx rx:Ax}{y:PT}(D:yR w P s ds sv xs)(E:yR w Q s' ds' sv' xs')(ha:TyV w P x a)(hb:TyV w Q y b)(fx:vJ x)(fy:vJ y)(n:∀c p,x=.leaf c p->zY c=true->∃X,zx ds c=some X)(o:∀c p,y=.leaf c p->zY c=true->∃Y,zx ds' c=some Y):Calls prog 145 #[.agg #[sv,.iface sT sx,sv',.iface rT rx],a,b] w λe w'=>∃v,e=.returned v/\Fr w w' N_/\MtV w' P Q s s' (zx ds) (zx ds') (ZV ds' xs') x y v:=by
 obtain⟨sa,sc,i⟩:=zw D.row;obtain⟨ra,rc,g⟩:=zw E.row;have nev:∀(e:Ending) (w':World),xi (zx ds) (zx ds') x y=false->e=.returned (.iface 308 (.agg #[]))/\Fr w w' N_->∃v,e=.returned v/\Fr w w' N_/\MtV w' P Q s s' (zx ds) (zx ds') (ZV ds' xs') x y v:=
  λe w' hm h=>⟨_,h.1,h.2,.never hm⟩
 cases ha with
 |base c p h=>
  have fin:∀(e:Ending) (w':World),e=.returned (gG (y.kind==c||(c==105&&y.kind==108)))/\Fr w w' N_->∃v,e=.returned v/\Fr w w' N_/\MtV w' P Q s s' (zx ds) (zx ds') (ZV ds' xs') (.leaf c p) y v:=by
   rintro e w' ⟨h1,f⟩;rw[<- Jd (ew:=zx ds) (er:=zx ds') (p:=p) h fy]at h1;cases hm:xi (zx ds) (zx ds') (.leaf c p) y with
   |true=>rw[hm]at h1;exact⟨_,h1,f,.same h hm⟩
   |false=>rw[hm]at h1;exact⟨_,h1,f,.never hm⟩
  rw[i,g];simp only[zi,ax_,beq_iff_eq]at h;rcases h with(((rfl|rfl)|rfl)|rfl)|rfl
  .exact(Jl hb fy).mono (λe w' q=>fin e w' zb_)
  .exact(Jm hb fy).mono (λe w' q=>fin e w' zb_)
  .exact(Jr hb fy).mono (λe w' q=>fin e w' zb_)
  .exact(Jh hb fy).mono (λe w' q=>fin e w' zb_)
  .exact(Jc hb fy).mono (λe w' q=>fin e w' zb_)
 |name c p h=>
  have k:=xM h;cases hb with
  |base c' p' h'=>
   rw[i,g];exact(kw (je c').2.2.2.1).mono (λe w'=>nev e w' (by simp[xi,k,ek h h']))
  |name c' p' h'=>
   by_cases m:c=c'
   .subst m;obtain⟨X,hX⟩:=n c p rfl h;obtain⟨Y,j⟩:=o c p' rfl h;apply(cY D E hX j).mono;rintro e w' ⟨a,b,v,h1,f,u,z,hz,l⟩;rcases l.sort with hs|⟨hs,rfl⟩
    .exact⟨v,h1,f,.body h hX j u z hz l hs⟩
    .exact⟨_,h1,f,.never (by simp[xi,k,hX,j,hs])⟩
   .rw[i,g];exact(uG M_).mono (λe w'=>nev e w' (by simp[xi,k,m]))
  |wrap c' p' h'=>
   rw[i,g];rcases fy with rfl|rfl
   .exact(kw D_).mono (λe w'=>nev e w' rfl)
   .exact(kw D_).mono (λe w'=>nev e w' rfl)
  |alts p' X ho hP h'=>exact fy.elim
 |wrap c p h=>
  have j:c=91\/c=123:=fx;obtain⟨uT,ux,rfl⟩:=h.iface;rw[i,g];cases hb with
  |base c' p' h'=>
   rcases j with rfl|rfl
   .exact(gq (je c').1).mono (λe w'=>nev e w' rfl)
   .exact(ww (je c').2.1).mono (λe w'=>nev e w' rfl)
  |name c' p' h'=>
   rcases j with rfl|rfl
   .exact(gq D_).mono (λe w'=>nev e w' rfl)
   .exact(ww D_).mono (λe w'=>nev e w' rfl)
  |wrap c' p' h'=>
   obtain⟨f,f,rfl⟩:=h'.iface;have k:c'=91\/c'=123:=fy;rcases j with rfl|rfl<;>rcases k with rfl|rfl
   .exact ie.mono (λe w' q=>⟨_,q.1,q.2,.items (.inl rfl) (h.fr q.2 u_) (h'.fr q.2 u_)⟩)
   .exact(gq D_).mono (λe w'=>nev e w' rfl)
   .exact(ww D_).mono (λe w'=>nev e w' rfl)
   .exact dR.mono (λe w' q=>⟨_,q.1,q.2,.items (.inr rfl) (h.fr q.2 u_) (h'.fr q.2 u_)⟩)
  |alts p' X ho hP h'=>exact fy.elim
 |alts p X ho hP h=>exact fx.elim
section
variable {w:Aw} {p:Nat} {sa ra:Am} {sn sc rn rc:Nat} {sT rT aT bT:Av} {sx rx ax bx:Ax}
def Wk:Calls prog 86 #[.agg #[.slice sa sn sc,.iface sT sx,.slice ra rn rc,.iface rT rx],.iface 226 (.agg #[I_ p,.slice ua un uc]),.iface bT bx] w λe w'=>e=.returned (.iface 277 (.agg #[.slice ua un uc,.iface bT bx]))/\Fr w w' N_:=by
 obtain⟨g,f⟩:=y_ (λ(e:Ending) (w':World)=>e=.returned (.iface 277 (.agg #[.slice ua un uc,.iface bT bx]))/\Fr w w' N_);rw[<- f.o];have A:=zy (λo g=>((A_ w N_).alloc o).alloc g);go_in;go_wp2;try go_ret
 rw[f.o];exact⟨rfl,A.o _ _⟩
def cq23_{p:Prop}(h:p:=by
 refine hq_ λk g=>?_;have A:=zy (λo i j=>(((A_ w N_).alloc o).alloc i).alloc j);replace h:=zy h;have l:=vQ aT ha;(first|(have:=cc1)|(have m:=vQ bT hb));go_in;go_wp2_with ((first|go_at_call 145|go_at_call 144);apply(h.o _ (A.o _ _ _)).mono;rintro e w1 ⟨v,rfl,f⟩;replace f:=zy f);try go_ret
 rw[g.o];exact f.o):p:=h
def Ju(ha:aT≠226)(hb:bT≠226)(h:∀W,Fr w W N_->Calls prog 145 #[.agg #[.slice sa sn sc,.iface sT sx,.slice ra rn rc,.iface rT rx],.iface aT ax,.iface bT bx] W (λe w'=>∃v,e=.returned v/\R (.returned v) w')):Calls prog 86 #[.agg #[.slice sa sn sc,.iface sT sx,.slice ra rn rc,.iface rT rx],.iface aT ax,.iface bT bx] w R:=by
 exact cq23_
end
def pI{er:Au}:∀(l:List PT) (i:Nat) (k:Option Nat),xZ ew er x (l++[r]) i k=(if (xi ew er x r&&((xZ ew er x l i k).isNone||r.kind==105))=true then some (i+l.length) else xZ ew er x l i k)
 | [],i,k=>by simp[xZ]
 |a::l,i,k=>by
  show xZ ew er x (l++[r]) (i+1) _=_;rw[pI l];have:i+1+l.length=i+(a::l).length:=by simp only[a3_];omega
  rw[this];rfl
def ZG{er:Au}{q:Nat}(h:rs[q]?=some r):xZ ew er x (rs.take (q+1)) 0 none=(if (xi ew er x r&&((xZ ew er x (rs.take q) 0 none).isNone||r.kind==105))=true then some q else xZ ew er x (rs.take q) 0 none):=by
 have f:q<rs.length:=by
  rcases Nat.lt_or_ge q rs.length with f|f
  .exact f
  .rw[bj_ f]at h;exact absurd h x7_
 have e:rs.take (q+1)=rs.take q++[r]:=by rw[a7_,h];rfl
 have l:(rs.take q).length=q:=by rw[cc_];omega
 rw[e,pI,l,bu_]
def MtV.fr{w:Aw}{P Q:Az}{s s':BA}{er:Au}{y:PT}(h:MtV w P Q s s' ew er Z x y v)(hf:Fr w w' S)(hP:∀g,P g->¬S g)(f:∀g,Q g->¬S g):MtV w' P Q s s' ew er Z x y v:=by
 cases h with
 |never h=>exact .never h
 |same hc h=>exact .same hc h
 |items hc ha hb=>exact .items hc (ha.fr hf hP) (hb.fr hf f)
 |body hc hx hy ha hb hz hm hs=>exact .body hc hx hy (ha.fr hf hP) (hb.fr hf f) hz hm hs
def MtV.kind{w:Aw}{P Q:Az}{s s':BA}{er:Au}{y:PT}(h:MtV w P Q s s' ew er Z x y v):(xi ew er x y=false/\v=.iface 308 (.agg #[]))\/(xi ew er x y=true/\∃T u,v=.iface T u/\T≠308/\T≠280):=by
 cases h with
 |never h=>exact .inl ⟨h,rfl⟩
 |same hc h=>exact .inr ⟨h,_,_,rfl,D_,D_⟩
 |items hc ha hb=>exact .inr ⟨by simp[xi],_,_,rfl,D_,D_⟩
 |body hc hx hy ha hb hz hm hs=>
  refine .inr ⟨by simp[xi,xM hc,hx,hy,hs],?_⟩;cases hm with
  |flds=>exact⟨_,_,rfl,D_,D_⟩
  |syms=>exact⟨_,_,rfl,D_,D_⟩
  |same=>exact⟨_,_,rfl,D_,D_⟩
  |never h=>exact absurd hs h
def BrV(w:Aw)(P Q:Az)(s s':BA)(ew er:Au)(Z:Ds)(x:PT)(rs:Af)(k:Option Nat)(v:Ax):Prop:=
 match k with
 |none=>v=.iface 308 (.agg #[])
 |some i=>∃r T u,rs[i]?=some r/\v=.iface 280 (.agg #[I_ i,.iface T u])/\xi ew er x r=true/\MtV w P Q s s' ew er Z x r (.iface T u)
def BrV.fr{w:Aw}{P Q:Az}{s s':BA}{er:Au}{k:Option Nat}(h:BrV w P Q s s' ew er Z x rs k v)(hf:Fr w w' S)(hP:∀g,P g->¬S g)(m:∀g,Q g->¬S g):BrV w' P Q s s' ew er Z x rs k v:=by
 cases k with
 |none=>exact h
 |some i=>
  obtain⟨r,T,u,h1,f,j,l⟩:=h;exact⟨r,T,u,h1,f,j,l.fr hf hP m⟩
def MtV.iface{w:Aw}{P Q:Az}{s s':BA}{er:Au}{y:PT}(h:MtV w P Q s s' ew er Z x y v):∃T u,v=.iface T u:=by
 rcases h.kind with⟨_,rfl⟩|⟨_,T,u,rfl,_,_⟩
 .exact⟨_,_,rfl⟩
 .exact⟨_,_,rfl⟩
def YK{w:Aw}{P Q:Az}{s s':BA}{er:Au}{y:PT}(h:MtV w P Q s s' ew er Z x y v):Calls prog 193 #[v] w λe w'=>e=.returned (.bool (!xi ew er x y))/\Fr w w' N_:=by
 rcases h.kind with⟨hk,rfl⟩|⟨hk,T,u,rfl,h1,f⟩
 .rw[hk];exact oY
 .rw[hk];exact YW T h1 u
def cwlN1_{p:Prop}(h:p:=by
 rw[hkd]at hIn;(first|(have:=cc1;have hst:H_ (xZ ew er x (rs.take (q+1)) 0 none=some q):=zy (by rw[hstep.o,hk,hkd];simp))|(have hst:H_ (xZ ew er x (rs.take (q+1)) 0 none=xZ ew er x (rs.take q) 0 none):=zy (by rw[hstep.o,hk,hpk,hkd];rfl)));(first|(have:=cc1;rw[hpk]at hB)|(rw[hpk]at hst hB));(first|(have:=cc1;obtain⟨r',T',u',h1',h2',h3',h4'⟩:=hB)|(have hB':=hB;obtain⟨r',T',u',h1',h2',h3',h4'⟩:=hB'));subst h2';clear h1' h3' h4';(first|(have:=cc1)|(replace hB:=zy hB));replace hf:=zy hf;go_wp2_with (first
  |(go_at_call 145;apply(hM.o _ hfw.o r _ hmem.o hT.o).mono;rintro e w1 ⟨m1,rfl,hf1,hm1⟩;obtain⟨mT,mu,rfl⟩:=hm1.iface;have hm1:=zy hm1;have F1:=zy hf1;clear hf1)
  |(go_at_call 193;apply(hNv.o _ _ hm1.o).mono;rintro e w2 ⟨rfl,hf2⟩;have F2:=zy (F1.o.trans hf2 u_);have hm2:=zy (hm1.o.fr hf2 u_ u_);clear hf2)
  |(go_at_call 194;apply rq.mono;rintro e w3 ⟨rfl,hf3⟩;have F3:=zy (F2.o.trans hf3 u_);have hm3:=zy (hm2.o.fr hf3 u_ u_);clear hf3)
  |(go_at_call 195;apply(hIn.o _ F3.o).mono;rintro e w4 ⟨rfl,hf4⟩;have F4:=zy (F3.o.trans hf4 u_);have hm4:=zy (hm3.o.fr hf4 u_ u_);clear hf4))
 go_roundg (rs.length+1-(q+1));case measure=>omega
 case rel=>
  refine⟨q+1,rfl,hlt,l_,hf.o.trans F4.o u_,?_⟩;rw[hst.o];(first|(have:=cc1;exact⟨r,mT,mu,hd,rfl,hk,hm4.o⟩)|(exact hB.o.fr F4.o u_ u_))):p:=h
def lN{w:Aw}{P Q:Az}{s s':BA}{ds ds':Ar}{sv sv' uv:Ax}{xs xs':Ay}{sT rT:Av}{sx rx:Ax}{X:Ai}{p:Nat}(D:yR w P s ds sv xs)(E:yR w Q s' ds' sv' xs')(ha:TyV w P x a)(fx:vJ x)(B:∀c p,x=.leaf c p->zY c=true->∃X,zx ds c=some X)(ho:w.ownsRow 0 46 1 uv rs.length ((List.range rs.length).map X))(G:∀g,uv.ownBlock=some g->Q g)(hX:∀i t,rs[i]?=some t->TyV w Q t (X i))(hl:rs.length<=1000)(n:∀t∈rs,vJ t)(C:∀t∈rs,∀c p,t=.leaf c p->zY c=true->∃Y,zx ds' c=some Y):Calls prog 144 #[.agg #[sv,.iface sT sx,sv',.iface rT rx],a,.agg #[I_ p,uv]] w λe w'=>∃v,e=.returned v/\Fr w w' N_/\BrV w' P Q s s' (zx ds) (zx ds') (ZV ds' xs') x rs (xZ (zx ds) (zx ds') x rs 0 none) v:=by
 obtain⟨N,f⟩:=y_ (λ(e:Ending) (w':World)=>∃v,e=.returned v/\Fr w w' N_/\BrV w' P Q s s' (zx ds) (zx ds') (ZV ds' xs') x rs (xZ (zx ds) (zx ds') x rs 0 none) v);rw[<- f.o];have hM:=zy (λW (j:Fr w W N_) r b (hr:r∈rs) (hb:TyV W Q r b)=>tA (sT:=sT) (rT:=rT) (sx:=sx) (rx:=rx) (D.fr j u_) (E.fr j u_) (ha.fr j u_) hb fx (n r hr) B (C r hr));obtain⟨sa,sc,rfl⟩:=zw D.row;obtain⟨ra,rc,rfl⟩:=zw E.row;obtain⟨ua,uc,rfl⟩:=zw ho;obtain⟨aT,ax,rfl⟩:=ha.iface;obtain⟨z,hwz⟩:=e_ ((w.alloc (.cells #[.slice sa ds.length sc,.iface sT sx,.slice ra ds'.length rc,.iface rT rx] 83)).alloc (.cells #[I_ p,.slice ua rs.length uc] 226));have l:Fr w z N_:=ya_
 have u:Blk z w.heap.size [.slice sa ds.length sc,.iface sT sx,.slice ra ds'.length rc,.iface rT rx] 83:=by
  rw[hwz];exact(B_ w #[.slice sa ds.length sc,.iface sT sx,.slice ra ds'.length rc,.iface rT rx] 83).alloc _
 replace l:=zy l;replace u:=zy u;replace hwz:=zy hwz;replace ho:=zy ho;replace G:=zy G;replace hX:=zy hX;replace n:=zy n;generalize I:zx ds=ew at hM f;generalize H:zx ds'=er at hM f;generalize L:ZV ds' xs'=Z at hM f;go_in;go_wp2;rw[<- hwz.o];go_loopg [7,16] (rs.length+1) (λm M v W=>∃q:Nat,v=I_ q/\q<=rs.length/\rs.length+1-q<=m/\Fr z W N_/\BrV W P Q s s' ew er Z x rs (xZ ew er x (rs.take q) 0 none) M);case atStart=>exact⟨0,rfl,al_ _,M_,A_ _ _,rfl⟩
 case round=>
  obtain⟨q,rfl,T,hm,hf,hB⟩:=hrel;by_cases hlt:q<rs.length
  .have K:(q:Int)<(rs.length:Int):=M_;have hd:rs[q]?=some rs[q]:=ai_ hlt;have hmem:rs[q]∈rs:=bk_ hlt;generalize rs[q]=r at hd hmem;obtain⟨g,O,J⟩:=zg ho M_;cases J;have hfw:=l.o.trans hf u_;have ty:=(hX.o q r hd).fr hfw u_;have c0:=zr (zj ho hfw u_) rfl (k:=q) (x:=X q) (by rw[av_,cb_ hlt];rfl);obtain⟨bT,bx,F⟩:=ty.iface;rw[F]at ty c0;have b0:=hf.bl u id;obtain⟨k0,V,k2,k3⟩:=b0.d4;have hstep:=zy (ZG (ew:=ew) (er:=er) (x:=x) hd);have hT:=zy ty;replace hfw:=zy hfw;have hmem:=zy hmem;have hIn:=zy (λW (j:Fr wr W N_)=>oX (hT.o.fr j u_) (n.o r hmem));have hNv:=zy (λW m (h:MtV W P Q s s' ew er Z x r m)=>YK h);cases hk:xi ew er x r
   .rw[hk]at hNv;have hst:H_ (xZ ew er x (rs.take (q+1)) 0 none=xZ ew er x (rs.take q) 0 none):=zy (by rw[hstep.o,hk];rfl);replace hB:=zy hB;replace hf:=zy hf;go_wp2_with (first
     |(go_at_call 145;apply(hM.o _ hfw r _ hmem hT).mono;rintro e w1 ⟨m1,rfl,hf1,hm1⟩;obtain⟨mT,mu,rfl⟩:=hm1.iface;have hm1:=zy hm1;have F1:=zy hf1)
     |(go_at_call 193;apply(hNv.o _ _ hm1).mono;rintro e w2 ⟨rfl,hf2⟩;have F2:=zy (F1.o.trans hf2 u_);have hm2:=zy (hm1.o.fr hf2 u_ u_)))
    go_roundg (rs.length+1-(q+1));case measure=>omega
    case rel=>
     refine⟨q+1,rfl,hlt,l_,hf.o.trans F2 u_,?_⟩;rw[hst.o];exact hB.o.fr F2 u_ u_
   .rw[hk]at hNv;cases hpk:xZ ew er x (rs.take q) 0 none
    .rw[hpk]at hB;have hst:H_ (xZ ew er x (rs.take (q+1)) 0 none=some q):=zy (by rw[hstep.o,hk,hpk];rfl);replace hB:u7=_:=hB;subst hB;replace hf:=zy hf;go_wp2_with (first
      |(go_at_call 145;apply(hM.o _ hfw r _ hmem hT).mono;rintro e w1 ⟨m1,rfl,hf1,hm1⟩;obtain⟨mT,mu,rfl⟩:=hm1.iface;have hm1:=zy hm1;have F1:=zy hf1)
      |(go_at_call 193;apply(hNv.o _ _ hm1).mono;rintro e w2 ⟨rfl,hf2⟩;have F2:=zy (F1.o.trans hf2 u_);have hm2:=zy (hm1.o.fr hf2 u_ u_))
      |(go_at_call 194;apply(JQ _ D_ _).mono;rintro e w3 ⟨rfl,hf3⟩;have F3:=zy (F2.o.trans hf3 u_);have hm3:=zy (hm2.o.fr hf3 u_ u_)))
     go_roundg (rs.length+1-(q+1));case measure=>omega
     case rel=>
      refine⟨q+1,rfl,hlt,l_,hf.o.trans F3 u_,?_⟩;rw[hst.o];exact⟨r,mT,mu,hd,rfl,hk,hm3⟩
    .rename_i U;cases hkd:(r.kind==105)
     .exact cwlN1_
     .have cc1:=Nat;exact cwlN1_
  .have K:¬((q:Int)<(rs.length:Int)):=M_;rw[bb_ M_]at hB;replace hB:=zy hB;replace hf:=zy hf;go_wp2;try go_ret
   rw[f.o];exact⟨_,rfl,l.o.trans hf u_,hB⟩
section
variable {w:Aw} {p:Nat} {sa ra:Am} {sn sc rn rc:Nat} {sT rT aT bT:Av} {sx rx ax bx:Ax}
def Jb(ha:aT≠226)(h:∀W,Fr w W N_->Calls prog 144 #[.agg #[.slice sa sn sc,.iface sT sx,.slice ra rn rc,.iface rT rx],.iface aT ax,.agg #[I_ p,.slice ua un uc]] W (λe w'=>∃v,e=.returned v/\R (.returned v) w')):Calls prog 86 #[.agg #[.slice sa sn sc,.iface sT sx,.slice ra rn rc,.iface rT rx],.iface aT ax,.iface 226 (.agg #[I_ p,.slice ua un uc])] w R:=by
 have cc1:=Nat
 exact cq23_
end
inductive MeV (w:Aw) (P Q:Az) (s s':BA) (ew er:Au) (Z:Ds):PT->PT->Value->Prop
 |outb {p:Nat} {ws:List PT} {y:PT} {uv b:Value} (X:Nat->Value) (ho:w.ownsRow 0 46 1 uv ws.length ((List.range ws.length).map X)) (hX:∀i t,ws[i]?=some t->TyV w P t (X i)) (hb:TyV w Q y b) (hP:∀g,uv.ownBlock=some g->P g):MeV w P Q s s' ew er Z (.alts p ws) y (.iface 277 (.agg #[uv,b]))
 |into {x:PT} {p:Nat} {rs:List PT} {v:Value} (fx:vJ x) (h:BrV w P Q s s' ew er Z x rs (xZ ew er x rs 0 none) v):MeV w P Q s s' ew er Z x (.alts p rs) v
 |flat {x y:PT} {v:Value} (fx:vJ x) (fy:vJ y) (h:MtV w P Q s s' ew er Z x y v):MeV w P Q s s' ew er Z x y v
def BrV.iface{w:Aw}{P Q:Az}{s s':BA}{er:Au}{k:Option Nat}(h:BrV w P Q s s' ew er Z x rs k v):∃T u,v=.iface T u:=by
 cases k with
 |none=>exact⟨_,_,h⟩
 |some i=>obtain⟨_,_,_,_,rfl,_⟩:=h;exact⟨_,_,rfl⟩
def MeV.iface{w:Aw}{P Q:Az}{s s':BA}{er:Au}{y:PT}(h:MeV w P Q s s' ew er Z x y v):∃T u,v=.iface T u:=by
 cases h with
 |outb=>exact⟨_,_,rfl⟩
 |into fx h=>exact h.iface
 |flat fx fy h=>exact h.iface
def lP(h:okT env t)(ha:t.isAlts=false):vJ t:=by
 cases t with
 |leaf c p=>exact trivial
 |wrap c p u=>unfold okT at h;exact h.1
 |alts p l=>simp[PT.isAlts]at ha
def cM(h:okT env t):∀c p,t=.leaf c p->zY c=true->∃X,env c=some X:=λc p e hn=>by
 subst e;unfold okT at h;rcases h with h|h
 .rw[xM hn]at h;cases h
 .exact h.2
def TyV.alts_inv{w:Aw}{P:Az}{p:Nat}{l:Af}(h:TyV w P (.alts p l) v):∃(uv:Value) (X:Nat->Value),v=.iface 226 (.agg #[I_ p,uv])/\w.ownsRow 0 46 1 uv l.length ((List.range l.length).map X)/\(∀g,uv.ownBlock=some g->P g)/\∀i t,l[i]?=some t->TyV w P t (X i):=by
 cases h with
 |alts p X ho hP h=>exact⟨_,X,rfl,ho,hP,h⟩
def TyV.flat_ne{w:Aw}{P:Az}{T:Av}{u:Ax}(h:TyV w P x (.iface T u))(fx:vJ x):T≠226:=by
 cases h with
 |base c p h=>exact(je c).2.2.1
 |name c p h=>decide
 |wrap c p h=>
  rcases fx with rfl|rfl
  .decide
  .decide
 |alts p X ho hP h=>exact fx.elim
def aO{w:Aw}{P Q:Az}{s s':BA}{ds ds':Ar}{sv sv':Ax}{xs xs':Ay}{sT rT:Av}{sx rx:Ax}{y:PT}(D:yR w P s ds sv xs)(E:yR w Q s' ds' sv' xs')(ha:TyV w P x a)(hb:TyV w Q y b)(hx:okT (zx ds) x)(hy:okT (zx ds') y)(fy:vq y):Calls prog 86 #[.agg #[sv,.iface sT sx,sv',.iface rT rx],a,b] w λe w'=>∃v,e=.returned v/\Fr w w' N_/\MeV w' P Q s s' (zx ds) (zx ds') (ZV ds' xs') x y v:=by
 obtain⟨sa,sc,z⟩:=zw D.row;obtain⟨ra,rc,o⟩:=zw E.row;cases n:x.isAlts with
 |true=>
  cases x with
  |leaf c p=>simp[PT.isAlts]at n
  |wrap c p u=>simp[PT.isAlts]at n
  |alts p ws=>
   obtain⟨uv,X,rfl,ho,hP,hX⟩:=ha.alts_inv;obtain⟨bT,bx,rfl⟩:=hb.iface;obtain⟨ua,uc,B⟩:=zw ho;subst z o B;apply Wk.mono;rintro e w' ⟨rfl,hf⟩;exact⟨_,rfl,hf,.outb X (zj ho hf u_) (λi t h=>(hX i t h).fr hf u_) (hb.fr hf u_) hP⟩
 |false=>
  have fx:=lP hx n;cases C:y.isAlts with
  |true=>
   cases y with
   |leaf c p=>simp[PT.isAlts]at C
   |wrap c p u=>simp[PT.isAlts]at C
   |alts p rs=>
    obtain⟨uv,X,rfl,ho,hP,hX⟩:=hb.alts_inv;obtain⟨aT,ax,rfl⟩:=ha.iface;obtain⟨ua,uc,B⟩:=zw ho;unfold okT at hy;unfold vq at fy;have n:=vI hy.2;have m:=λW (f:Fr w W N_)=>(lN (sT:=sT) (rT:=rT) (sx:=sx) (rx:=rx) (p:=p) (D.fr f u_) (E.fr f u_) (ha.fr f u_) fx (cM hx) (zj ho f u_) hP (λi t h=>(hX i t h).fr f u_) M_ (λt j=>lP (n t j).2 (n t j).1) (λt j=>cM (n t j).2)).mono (λe w' (q:∃v,e=.returned v/\Fr W w' N_/\BrV w' P Q s s' (zx ds) (zx ds') (ZV ds' xs') x rs (xZ (zx ds) (zx ds') x rs 0 none) v)=>show ∃v,e=.returned v/\∃g,Ending.returned v=.returned g/\Fr w w' N_/\MeV w' P Q s s' (zx ds) (zx ds') (ZV ds' xs') x (.alts p rs) g by
     obtain⟨v,h1,k,l⟩:=q
     exact⟨v,h1,v,rfl,f.trans k u_,.into fx l⟩)
    have F:=ha.flat_ne fx;subst z o B;exact Jb F m
  |false=>
   have j:=lP hy C;obtain⟨aT,ax,rfl⟩:=ha.iface;obtain⟨bT,bx,rfl⟩:=hb.iface;have m:=λW (f:Fr w W N_)=>(tA (sT:=sT) (rT:=rT) (sx:=sx) (rx:=rx) (D.fr f u_) (E.fr f u_) (ha.fr f u_) (hb.fr f u_) fx j (cM hx) (cM hy)).mono (λe w' (q:∃v,e=.returned v/\Fr W w' N_/\MtV w' P Q s s' (zx ds) (zx ds') (ZV ds' xs') x y v)=>show ∃v,e=.returned v/\∃g,Ending.returned v=.returned g/\Fr w w' N_/\MeV w' P Q s s' (zx ds) (zx ds') (ZV ds' xs') x y g by
    obtain⟨v,h1,k,l⟩:=q
    exact⟨v,h1,v,rfl,f.trans k u_,.flat fx j l⟩)
   have F:=ha.flat_ne fx;have G:=hb.flat_ne j;subst z o;exact Ju F G m
set_option maxRecDepth 100000
set_option linter.defProp false
@[go_sem]def Mr:=yI 275 208
@[go_sem]def ME:=vt 275 208 (.agg #[])
@[go_sem]def Uh:=yI 277 208
@[go_sem]def Ml:=vt 277 208 (.agg #[L_,.nilIface])
@[go_sem]def Mh:=yI 280 208
@[go_sem]def MN:=vt 280 208 (.agg #[O_,.nilIface])
@[go_sem]def FF:=yI 282 208
@[go_sem]def PS:=vt 282 208 (.agg #[.nilIface,.nilIface])
@[go_sem]def Wp:=yI 285 208
@[go_sem]def GP:=vt 285 208 (.agg #[O_,L_,.pointer none,O_,L_,.pointer none])
@[go_sem]def GB:=yI 288 208
@[go_sem]def FP:=vt 288 208 (.agg #[O_,L_,O_,L_])
section
variable {w:Aw} {sa ra:Am} {sn sc rn rc:Nat} {sT rT aT bT dT:Av} {sx rx ax bx dx:Ax}
def cq12_{p:Prop}(h:p:=by
 refine hq_ λu n=>?_;have j:=zy (λo=>(A_ w N_).alloc o);have k:=zy (λo f=>((A_ w N_).alloc o).alloc f);have l:=zy (λo f i=>(((A_ w N_).alloc o).alloc f).alloc i);have m:=zy (λo f i q=>((((A_ w N_).alloc o).alloc f).alloc i).alloc q);replace h:=zy h;go_in;go_wp2_with ((first|go_at_call 142|go_at_call 143|go_at_call 141|go_at_call 140|go_at_call 139);apply(h.o _ ?fr).mono;(case fr=>(first|exact j.o _|exact k.o _ _|exact l.o _ _ _|exact m.o _ _ _ _|exact A_ _ _));rintro e w1 ⟨v,z,rfl,g⟩;replace g:=zy g);try go_ret
 rw[n.o];exact g.o):p:=h
def io(h:∀W,Fr w W N_->Calls prog 139 #[.agg #[.slice sa sn sc,.iface sT sx,.slice ra rn rc,.iface rT rx],.agg #[.slice ua un uc,.iface bT bx],.iface dT dx] W (λe w'=>∃v ev,e=.returned (.tuple #[v,ev])/\R (.returned (.tuple #[v,ev])) w')):Calls prog 85 #[.agg #[.slice sa sn sc,.iface sT sx,.slice ra rn rc,.iface rT rx],.iface 277 (.agg #[.slice ua un uc,.iface bT bx]),.iface dT dx] w R:=by
 have cc4:=Nat
 exact cq12_
def oy{n:Int}(h:∀W,Fr w W N_->Calls prog 140 #[.agg #[.slice sa sn sc,.iface sT sx,.slice ra rn rc,.iface rT rx],.agg #[Z_ n,.iface bT bx],.iface dT dx] W (λe w'=>∃v ev,e=.returned (.tuple #[v,ev])/\R (.returned (.tuple #[v,ev])) w')):Calls prog 85 #[.agg #[.slice sa sn sc,.iface sT sx,.slice ra rn rc,.iface rT rx],.iface 280 (.agg #[Z_ n,.iface bT bx]),.iface dT dx] w R:=by
 have cc3:=Nat
 exact cq12_
def gm(h:∀W,Fr w W N_->Calls prog 141 #[.agg #[.slice sa sn sc,.iface sT sx,.slice ra rn rc,.iface rT rx],.agg #[.iface aT ax,.iface bT bx],.iface dT dx] W (λe w'=>∃v ev,e=.returned (.tuple #[v,ev])/\R (.returned (.tuple #[v,ev])) w')):Calls prog 85 #[.agg #[.slice sa sn sc,.iface sT sx,.slice ra rn rc,.iface rT rx],.iface 282 (.agg #[.iface aT ax,.iface bT bx]),.iface dT dx] w R:=by
 have cc2:=Nat
 exact cq12_
def uC{p q:Int}{va:Am}{vn vc:Nat}{a b:Am}(h:∀W,Fr w W N_->Calls prog 142 #[.agg #[Z_ p,.slice ua un uc,.pointer a,Z_ q,.slice va vn vc,.pointer b],.iface dT dx] W (λe w'=>∃v ev,e=.returned (.tuple #[v,ev])/\R (.returned (.tuple #[v,ev])) w')):Calls prog 85 #[.agg #[.slice sa sn sc,.iface sT sx,.slice ra rn rc,.iface rT rx],.iface 285 (.agg #[Z_ p,.slice ua un uc,.pointer a,Z_ q,.slice va vn vc,.pointer b]),.iface dT dx] w R:=by
 exact cq12_
def cV{p q:Int}{va:Am}{vn vc:Nat}(h:∀W,Fr w W N_->Calls prog 143 #[.agg #[.slice sa sn sc,.iface sT sx,.slice ra rn rc,.iface rT rx],.agg #[Z_ p,.slice ua un uc,Z_ q,.slice va vn vc],.iface dT dx] W (λe w'=>∃v ev,e=.returned (.tuple #[v,ev])/\R (.returned (.tuple #[v,ev])) w')):Calls prog 85 #[.agg #[.slice sa sn sc,.iface sT sx,.slice ra rn rc,.iface rT rx],.iface 288 (.agg #[Z_ p,.slice ua un uc,Z_ q,.slice va vn vc]),.iface dT dx] w R:=by
 have cc1:=Nat
 exact cq12_
def mG:Calls prog 85 #[.agg #[.slice sa sn sc,.iface sT sx,.slice ra rn rc,.iface rT rx],.iface 275 (.agg #[]),.iface dT dx] w λe w'=>e=.returned (.tuple #[.iface dT dx,.nilIface])/\Fr w w' N_:=by
 refine hq_ λf l=>?_;have h:=zy (λo=>(A_ w N_).alloc o);have i:=zy (λo f=>((A_ w N_).alloc o).alloc f);have j:=zy (λo f g=>(((A_ w N_).alloc o).alloc f).alloc g);have k:=zy (λo f g m=>((((A_ w N_).alloc o).alloc f).alloc g).alloc m);go_in;go_wp2;try go_ret
 rw[l.o];refine⟨rfl,?_⟩
 (first|exact h.o _|exact i.o _ _|exact j.o _ _ _|exact k.o _ _ _ _|exact A_ _ _)
end
def ri:∀(fs:List PF) (g:List Nat),rZ g fs=[]->(fs.map PF.letter).Nodup/\∀c∈fs.map PF.letter,c∉g
 | [],g,_=>⟨List.nodup_nil,λc hc=>by cases hc⟩
 |f::r,g,h=>by
  unfold rZ at h;rw[List.append_eq_nil_iff]at h;obtain⟨h1,i⟩:=h;obtain⟨a,b⟩:=ri r _ i;have hf:f.letter∉g:=λe=>by rw[i_ e]at h1;cases h1
  refine⟨?_,λc hc=>?_⟩
  .rw[aw_,List.nodup_cons];exact⟨λe=>b _ e (b6_ _ (a0_.2 rfl)),a⟩
  .rw[aw_]at hc;rcases ao_.1 hc with rfl|hc
   .exact hf
   .exact λe=>b c hc (b1_ _ e)
def nB(env:Au):∀(ds:List PD) (f:List Nat),ke env f ds=[]->∀d∈ds,qc env d.body=[]
 | [],_,_,d,hd=>by cases hd
 |x::r,f,h,d,hd=>by
  unfold ke at h;simp only[List.append_eq_nil_iff]at h;rcases ao_.1 hd with rfl|hd
  .exact h.2.1
  .exact nB env r _ h.2.2 d hd
def XE{ds:Ar}{b:PB}(he:zx ds c=some b):∃d∈ds,d.body=b:=by
 unfold zx at he;cases hl:vh 0 c ds with
 |none=>rw[hl]at he;cases he
 |some q=>
  obtain⟨f,f⟩:=q;rw[hl]at he;simp only[bc_,af_]at he;subst he;obtain⟨d,hd,e⟩:=gh hl;exact⟨d,hd,e⟩
def VW{ds:Ar}(h:xL ds t=[]){fs:An}(he:zx ds c=some (.recd fs)):(fs.map PF.letter).Nodup:=by
 unfold xL at h;rw[List.append_eq_nil_iff]at h;obtain⟨d,hd,e⟩:=XE he;have hb:=nB _ _ _ h.1 d hd;rw[e]at hb;have hn:rZ [] fs=[]:=by
  cases hx:rZ [] fs with
  |nil=>rfl
  |cons a l=>
   have:=(oF (zx ds) fs a []).2 (.inl (by rw[hx];exact bo_));rw[show kh (zx ds) [] fs=[] from hb]at this;cases this
 exact(ri fs [] hn).1
def cst:List PF->List DT->Nat->Nat
 |f::fw,d::ds,c=>if f.letter=c then ndT d else cst fw ds c
 | _,_,_=>0
def sm(g:Er):List Nat->Nat
 | []=>0
 |c::r=>g c+sm g r
def PC(a x:Nat)(g:Er):∀L:List Nat,(a∉L->sm (λc=>if a=c then x else g c) L<=sm g L)/\(L.Nodup->sm (λc=>if a=c then x else g c) L<=x+sm g L)
 | []=>⟨λ_=>l_,λ_=>al_ _⟩
 |c::r=>by
  obtain⟨h1,f⟩:=PC a x g r;refine⟨λhn=>?_,λhn=>?_⟩
  .simp only[ao_,not_or]at hn;simp only[sm,n_ hn.1];have:=h1 hn.2;omega
  .rw[List.nodup_cons]at hn;simp only[sm];by_cases e:a=c
   .rw[i_ e];have:=h1 (e▸hn.1);omega
   .rw[n_ e];have:=f hn.2;omega
def sB:∀L:List Nat,sm (λ_=>0) L=0
 | []=>rfl
 | _::r=>by simp only[sm,sB r]
def Kv:∀(fw:List PF) (ds:List DT) (L:List Nat),L.Nodup->sm (cst fw ds) L<=za ds
 | [],ds,L,_=>by
  have:cst [] ds=λ_=>0:=by funext c;cases ds<;>rfl
  rw[this,sB];exact al_ _
 |f::fw,[],L,_=>by
  have:cst (f::fw) []=λ_=>0:=by funext c;rfl
  rw[this,sB];exact al_ _
 |f::fw,d::ds,L,h=>by
  have e:cst (f::fw) (d::ds)=λc=>if f.letter=c then ndT d else cst fw ds c:=by funext c;rfl
  rw[e];have h1:=(PC f.letter (ndT d) (cst fw ds) L).2 h;have g:=Kv fw ds L h;simp only[za];omega
def WN:∀(fw:List PF) (ds:List DT) (c i:Nat) (h:PF) (d:DT),vV fw c=some i->fw[i]?=some h->ds[i]?=some d->cst fw ds c=ndT d
 | [],ds,c,i,h,d,hi,hf,hd=>by simp at hf
 |f::fw,[],c,i,h,d,hi,hf,hd=>by simp at hd
 |f::fw,e::ds,c,i,h,d,hi,hf,hd=>by
  unfold vV at hi;rw[aw_,List.findIdx?_cons]at hi;unfold cst;by_cases hc:f.letter=c
  .rw[i_ hc];rw[i_ (by rw[beq_iff_eq];exact hc)]at hi;simp only[af_]at hi;subst hi;simp only[aa_,af_]at hd;rw[hd]
  .rw[n_ hc];rw[n_ (by rw[beq_iff_eq];exact hc)]at hi;cases g:(fw.map PF.letter).findIdx? (λx=>x==c) with
   |none=>rw[g]at hi;cases hi
   |some q=>
    rw[g]at hi;simp only[bc_,af_]at hi;subst hi;exact WN fw ds c q h d g (by simpa using hf) (by simpa using hd)
def tD{R:Dp}{C:Nat}(f:∀w r d x,R w r d=some x->ndT x<=C*ndT d){fw:An}{ds:Ae}:∀(fr:List PF) (l:List DT),(∀g∈fr,∀x,df g=some x->ndT x<=700)->vm (mkF R df fw ds) fr=some l->za l<=700*fr.length+C*sm (cst fw ds) (fr.map PF.letter)
 | [],l,_,h=>by
  simp only[vm,af_]at h;subst h;simp only[za];omega
 |g::fr,l,hd,h=>by
  unfold vm at h;split at h
  .cases h
  .rename_i b hb;split at h
   .cases h
   .rename_i m hl;simp only[af_]at h;subst h;have h1:=tD f fr m (λg hg=>hd g (cd_ _ hg)) hl;simp only[za,a3_,aw_,sm,Nat.mul_add];unfold mkF at hb;split at hb
    .rename_i i hi;split at hb
     .rename_i h0 d0 k j;rw[WN fw ds _ i h0 d0 hi k j];have:=f _ _ _ _ hb;omega
     .cases hb
    .have:=hd g bo_ _ hb;omega
def lS{R:DT->Option DT}{C:Nat}(f:∀d x,R d=some x->ndT x<=C*ndT d):∀(ds l:List DT),vm R ds=some l->za l<=C*za ds
 | [],l,h=>by
  simp only[vm,af_]at h;subst h;simp only[za];omega
 |d::ds,l,h=>by
  unfold vm at h;split at h
  .cases h
  .rename_i b hb;split at h
   .cases h
   .rename_i g hl;simp only[af_]at h;subst h;have h1:=lS f ds g hl;have:=f _ _ hb;simp only[za,Nat.mul_add];omega
structure SmE(er:Au)(df:Dm):Prop where
 few:∀c fs,er c=some (.recd fs)->fs.length<=300/\(fs.map PF.letter).Nodup
 sml:∀c fs,er c=some (.recd fs)->∀g∈fs,∀x,df g=some x->ndT x<=700
def tN{er:Au}(f:SmE er df){R:Dp}(g:∀w r d x,R w r d=some x->ndT x<=300000*ndT d){w:PT}{d x:DT}(h:mkB R ew er df w r d=some x):ndT x+1<=300000*ndT d:=by
 obtain⟨k,n,tx,ks,ds⟩:=d;rw[yN];cases w with
 |alts p l=>simp[mkB]at h
 |wrap c p u=>
  cases r with
  |leaf c' p'=>simp[mkB]at h
  |alts p' l'=>simp[mkB]at h
  |wrap c' p' u'=>
   simp only[mkB]at h;cases hx:vm (R u u') ds with
   |none=>rw[hx]at h;cases h
   |some l=>
    rw[hx]at h;simp only[bc_,af_]at h;subst h;have:=lS (g u u') ds l hx;rw[yN];omega
 |leaf c p=>
  cases r with
  |wrap c' p' u'=>simp[mkB]at h
  |alts p' l'=>simp[mkB]at h
  |leaf c' p'=>
   simp only[mkB]at h;split at h
   .simp only[af_]at h;subst h;rw[yN];omega
   .split at h
    .rename_i fw fr hw hr;cases hx:vm (mkF R df fw ds) fr with
     |none=>rw[hx]at h;cases h
     |some l=>
      rw[hx]at h;simp only[bc_,af_]at h;subst h;obtain⟨h1,i⟩:=f.few _ _ hr;have m:=tD g fr l (f.sml _ _ hr) hx;have j:=Kv fw ds _ i;rw[yN];have z:300000*sm (cst fw ds) (fr.map PF.letter)<=300000*za ds:=Nat.mul_le_mul_left _ j;omega
    .rename_i lw ow lr o hw hr;cases hx:qh lr o ((lw.map Prod.fst).getD n.toNat 0) with
     |none=>rw[hx]at h;cases h
     |some q=>
      rw[hx]at h;simp only[bc_,af_]at h;subst h;rw[yN];simp only[za];omega
    .simp only[af_]at h;subst h;rw[yN];omega
    .cases h
def Jw{er:Au}(g:SmE er df):∀(f:Nat) (w r:PT) (d x:DT),mkP ew er df f w r d=some x->ndT x<=300000*ndT d:=by
 intro f;induction f with
 |zero=>intro w r d x h;simp[mkP]at h
 |succ f ih=>
  intro w r d x h;unfold mkP at h;split at h
  .obtain⟨k,n,tx,ks,ds⟩:=d;simp only at h;split at h
   .rename_i w1 d1 i hw;have:=ih _ _ _ _ h;rw[yN];simp only[za];omega
   .cases h
  .split at h
   .split at h
    .cases h
    .split at h
     .cases h
     .rename_i r1 j;cases hx:mkB (mkP ew er df f) ew er df w r1 d with
      |none=>rw[hx]at h;cases h
      |some z=>
       rw[hx]at h;simp only[bc_,af_]at h;subst h;have:=tN g ih hx;rw[yN];simp only[za];omega
   .split at h
    .have:=tN g ih h;omega
    .cases h
def xD(er:Au)(s:BA)(g:PF):Option DT:=
 match g.dflt with
 |none=>none
 |some (a,e)=>ym er true g.ty (s.extract a e)
def tP{s:BA}(h0:(zu s).1=0):s.size<=300/\∃ds t,ze s=.ok (ds,t):=by
 unfold zu at h0;split at h0
 .simp at h0
 .rename_i hs;refine⟨M_,?_⟩;cases hp:ze s with
  |error k=>rw[hp]at h0;simp at h0
  |ok r=>exact⟨r.1,r.2,rfl⟩
def Py{s:BA}{ds:Ar}(h0:(zu s).1=0)(hp:ze s=.ok (ds,t)):SmE (zx ds) (xD (zx ds) s):=by
 obtain⟨hs,hn,hu⟩:=iC h0 hp;obtain⟨f,_,_,_,f5⟩:=vZ hs hp hn hu;refine⟨λc fs he=>⟨(cI f c fs he).1,VW hn he⟩,λc fs he g hg x h=>?_⟩;unfold xD at h;split at h
 .cases h
 .rename_i a e _;have:(s.extract a e).size<=300:=y1_
  have h1:=(VF f5 M_ (f5 c _ he g hg) h).2;omega
def jk.frS{E:cB}{w:Aw}{f:Ax}{a:Int×Int}(h:jk E w lo f a)(hf:Fr w w' S)(i:∀g,lo<=g->¬S g):jk E w' lo f a:=by
 rcases h with h|h|⟨h1,f⟩|⟨h1,f⟩|⟨h1,f⟩|⟨h1,j,f,k⟩
 .exact .inl h
 .exact .inr (.inl h)
 .exact .inr (.inr (.inl ⟨h1,f.fr hf i⟩))
 .exact .inr (.inr (.inr (.inl ⟨h1,f.fr hf i⟩)))
 .exact .inr (.inr (.inr (.inr (.inl ⟨h1,f.fr hf i⟩))))
 .exact .inr (.inr (.inr (.inr (.inr ⟨h1,j,f.fr hf i,k.fr hf i⟩))))
def wi.frS{w:Aw}{s:BA}{sv:Ax}(h:wi lo w s sv rv)(hf:Fr w w' S)(f:∀g,lo<=g->¬S g):wi lo w' s sv rv:=by
 obtain⟨ds,t,xs,hs,hp,hn,hu,D,T,F⟩:=h;have hz:=hf.size;exact⟨ds,t,xs,hs,hp,hn,hu,(D.fr hf (λg hg=>f g hg.1)).mono (λg _ hg=>⟨hg.1,M_⟩),(T.fr hf (λg hg=>f g hg.1)).mono (λg _ hg=>⟨hg.1,M_⟩),(F.fr D hf (λg hg=>f g hg.1) f).mono l_ (λg hg=>⟨hg.1,M_⟩)⟩
def wi.ls{f:Nat}{w:Aw}{s:BA}{sv:Ax}(h:wi lo w s sv rv)(hl:f<=lo):wi f w s sv rv:=by
 obtain⟨ds,t,xs,hs,hp,hn,hu,D,T,F⟩:=h;exact⟨ds,t,xs,hs,hp,hn,hu,D.mono (λg _ hg=>⟨M_,hg.2⟩),T.mono (λg _ hg=>⟨M_,hg.2⟩),F.mono hl (λg hg=>⟨M_,hg.2⟩)⟩
def wi.forms{w:Aw}{s:BA}{sv:Ax}(h:wi lo w s sv rv):∃sa sn sc rT rx,sv=.slice sa sn sc/\rv=.iface rT rx:=by
 obtain⟨ds,t,xs,hs,hp,hn,hu,D,T,F⟩:=h;obtain⟨sa,sc,rfl⟩:=zw D.row;obtain⟨rT,rx,rfl⟩:=T.iface;exact⟨_,_,_,_,_,rfl,rfl⟩
def pQ(w:Aw)(sw sr:BA)(e:Ak)(w':Aw):Prop:=
 ∃sv rv sv' rv' ev,e=.returned (.tuple #[.agg #[sv,rv],.agg #[sv',rv'],ev])/\Fr w w' N_/\
  (((zu sw).1=0/\(zu sr).1=0/\ev=.nilIface/\wi w.heap.size w' sw sv rv/\wi w.heap.size w' sr sv' rv')\/
   (¬((zu sw).1=0/\(zu sr).1=0)/\sv=L_/\rv=.nilIface/\sv'=L_/\rv'=.nilIface/\(∃T x,ev=.iface T x)/\wQ w' ev (if (zu sw).1=0 then (zu sr).1 else (zu sw).1)))
def st2{w:Aw}{n m:Nat}{u0 i f h:Ax}{T T':Av}(B:Blk w n [u0,i] T)(i:Blk w m [f,h] T')(j:m≠n):Blk ((w.setCell ⟨n,0,none⟩ a).setCell ⟨n,1,none⟩ b) n [a,b] T/\Blk ((w.setCell ⟨n,0,none⟩ a).setCell ⟨n,1,none⟩ b) m [f,h] T'/\Fr w ((w.setCell ⟨n,0,none⟩ a).setCell ⟨n,1,none⟩ b) (λg=>g=n):=
 ⟨V_ B a b,(Fr.pa w n a b).bl i (λe=>j e),Fr.pa w n a b⟩
section
variable {A:Bb} {w:Aw} {sw sr:BA}
def qB(S:xl A w)(j:yM w)(l:yH w)(k:xe w)(s:BA):∀W,Fr w W N_->Calls prog 23 #[.string s] W (ec W s (ki A)):=λW h=>by
 have hz:=h.size;have i:∀V,yu W V->yu w V:=λV f g hg=>(f g M_).trans (h.block g hg id);exact XG (S.fr h).errs (λV f=>j V (i V f)) (λV f=>l V (i V f)) (iu (λV f=>k V (i V f)))
def pd(w:Aw):∃f,f=(w.alloc (.cells #[L_,.nilIface] 48)).alloc (.cells #[L_,.nilIface] 48)/\Fr w f N_/\f.heap.size=w.heap.size+2/\Blk f w.heap.size [L_,.nilIface] 48/\Blk f (w.heap.size+1) [L_,.nilIface] 48:=by
 refine⟨_,rfl,((A_ w N_).alloc _).alloc _,by rw[zm,zm],(B_ w #[L_,.nilIface] 48).alloc _,?_⟩;have h:=B_ (w.alloc (.cells #[L_,.nilIface] 48)) #[L_,.nilIface] 48;rw[zm]at h;exact h
def cwZY1_{p:Prop}(h:p:=by
 (first|(have:=cc1;have s1:=st2 (a:=.slice sa sn sc) (b:=.iface rT rx) hbb.o.1 hbb.o.2 M_)|(have s1:=st2 (a:=.slice sa sn sc) (b:=.nilIface) hbb.o.1 hbb.o.2 M_));have s2:=st2 (a:=L_) (b:=.nilIface) s1.1 s1.2.1 M_;have s3:=st2 (a:=L_) (b:=.nilIface) s2.2.1 s2.1 M_;have q0:=s3.2.1.c0;have q1:=s3.2.1.c1;have q2:=s3.1.c0;have q3:=s3.1.c1;refine bodyPost_ret (v:=.tuple #[.agg #[L_,.nilIface],.agg #[L_,.nilIface],.iface T x]) xq_ rfl ?_;rw[Q_.o];have F3:Fr w1 _ (λg=>g=w.heap.size\/g=w.heap.size+1):=((s1.2.2.mono (λ_ _ e=>.inl e)).trans s2.2.2 (λ_ _ e=>.inl e)).trans s3.2.2 (λ_ _ e=>.inr e);have F4:=(Fz.o.trans hf1.o u_).trans F3 (λx hx e=>M_);refine⟨_,_,_,_,_,rfl,F4,.inr ⟨λh=>h0.o h.1,rfl,rfl,rfl,rfl,⟨_,_,rfl⟩,?_⟩⟩;rw[n_ h0.o];exact(hEr.o.frS F3 (λg hg e=>by have:=hz2.o;omega)).numIs (S.o.fr F4) h0.o):p:=h
def ZY(S:xl A w)(k:yM w)(m:yH w)(l:xe w)(h0:(zu sw).1≠0):Calls prog 15 #[.string sw,.string sr] w (pQ w sw sr):=by
 refine hq_ λf Q_=>?_;obtain⟨u,f,Fz,hz2,i,j⟩:=pd w;have n:=zy (qB S k m l sw u Fz);revert S h0 f Fz hz2 i;refine m_ λS h0 f Fz hz2 i=>?_;replace j:=zy j;clear k m l;go_in;go_wp2_with (go_at_call 23;rw[<- f.o];apply n.o.mono;rintro e w1 ⟨sv,rv,f,rfl,⟨sa,sn,sc,rfl⟩,q,hf1,hEr,-⟩;obtain⟨T,x,rfl,_⟩:=hEr.num (S.o.fr (Fz.o.trans hf1 u_)) h0;have f:=hf1.bl i id;have i:=hf1.bl j id;have j:w.heap.size<w1.heap.size:=f.lt;have j:w.heap.size+1<w1.heap.size:=i.lt;have r0:=f.c0;have r1:=f.c1;have j:=f.th 0;have j:=f.th 1;have j:=i.c0;have j:=i.c1;have j:=i.th 0;have j:=i.th 1;have hbb:=zy (And.intro f i);replace hf1:=zy hf1;replace hEr:=zy hEr;clear f i n;rcases q with rfl|⟨rT,rx,rfl⟩)
 .exact cwZY1_
 .have cc1:=Nat;exact cwZY1_
def cwZZ1_{p:Prop}(h:p:=by
 (first|(have:=cc1;have s2:=st2 (a:=.slice sa' sn' sc') (b:=.iface rT' rx') hbb.o.2 hbb.o.1 M_)|(have s2:=st2 (a:=.slice sa' sn' sc') (b:=.nilIface) hbb.o.2 hbb.o.1 M_));have s3:=st2 (a:=L_) (b:=.nilIface) s2.2.1 s2.1 M_;have s4:=st2 (a:=L_) (b:=.nilIface) s3.2.1 s3.1 M_;have q0:=s4.2.1.c0;have q1:=s4.2.1.c1;have q2:=s4.1.c0;have q3:=s4.1.c1;refine bodyPost_ret (v:=.tuple #[.agg #[L_,.nilIface],.agg #[L_,.nilIface],.iface T x]) xq_ rfl ?_;rw[Q_.o];have F3:Fr w2 _ (λg=>g=w.heap.size\/g=w.heap.size+1):=((s2.2.2.mono (λ_ _ e=>.inr e)).trans s3.2.2 (λ_ _ e=>.inl e)).trans s4.2.2 (λ_ _ e=>.inr e);have F4:=F2.o.trans F3 (λx hx e=>M_);refine⟨_,_,_,_,_,rfl,F4,.inr ⟨λh=>h1.o h.2,rfl,rfl,rfl,rfl,⟨_,_,rfl⟩,?_⟩⟩;rw[i_ h0.o];exact(hEr.o.frS F3 (λg hg e=>by have:=hlo.o;omega)).numIs (S.o.fr F4) h1.o):p:=h
def ZZ(S:xl A w)(u:yM w)(B:yH w)(z:xe w)(h0:(zu sw).1=0)(h1:(zu sr).1≠0):Calls prog 15 #[.string sw,.string sr] w (pQ w sw sr):=by
 refine hq_ λC Q_=>?_;obtain⟨V,C,k,H,n,q⟩:=pd w;have F:=zy (qB S u B z sw V k);have G:=zy (qB S u B z sr);revert S h0 h1 C k;refine k_ λS h0 h1 C k=>?_;revert H n q;refine h_ λH n q=>?_;clear u B z;go_in;go_wp2_with (first
  |(go_at_call 23;rw[<- C.o];apply F.o.mono;rintro e w1 ⟨sv,rv,I,rfl,-,-,l,hEr,E⟩;obtain⟨_,rfl⟩:=hEr.zero h0;obtain⟨sa,sn,sc,rT,rx,rfl,rfl⟩:=(E h0).forms;have f:=l.bl n id;have i:=l.bl q id;have n:w.heap.size<w1.heap.size:=f.lt;have n:w.heap.size+1<w1.heap.size:=i.lt;have r0:=f.c0;have r1:=f.c1;have J:=f.th 0;have K:=f.th 1;have O:=i.c0;have U:=i.c1;have L:=i.th 0;have M:=i.th 1;have j:=zy (st2 (a:=.slice sa sn sc) (b:=.iface rT rx) f i M_);have D:=zy (k.o.trans l u_);clear f i F l hEr E)
  |(go_at_call 23;apply(G.o _ (D.o.trans j.o.2.2 (λx hx e=>M_))).mono;rintro e w2 ⟨sv',rv',I,rfl,⟨sa',sn',sc',rfl⟩,N,m,hEr,-⟩;have hlo:=zy j.o.2.2.size;have F2:=zy ((D.o.trans j.o.2.2 (λx hx e=>M_)).trans m u_);obtain⟨T,x,rfl,_⟩:=hEr.num (S.o.fr F2) h1;have f:=m.bl j.o.1 id;have i:=m.bl j.o.2.1 id;have j:w.heap.size<w2.heap.size:=f.lt;have j:w.heap.size+1<w2.heap.size:=i.lt;have r0:=f.c0;have r1:=f.c1;have J:=f.th 0;have K:=f.th 1;have O:=i.c0;have U:=i.c1;have L:=i.th 0;have M:=i.th 1;have hbb:=zy (And.intro f i);replace hEr:=zy hEr;clear f i G m;rcases N with rfl|⟨rT',rx',rfl⟩))
 .exact cwZZ1_
 .have cc1:=Nat;exact cwZZ1_
def Zo(S:xl A w)(K:yM w)(M:yH w)(L:xe w)(h0:(zu sw).1=0)(h1:(zu sr).1=0):Calls prog 15 #[.string sw,.string sr] w (pQ w sw sr):=by
 refine hq_ λa3 Q_=>?_;obtain⟨wz,O,z,j,I,J⟩:=pd w;have hR:=zy (qB S K M L sw wz z);have a0:=zy (qB S K M L sr);revert S h0 h1 O z;refine k_ λS h0 h1 O z=>?_;revert j I J;refine h_ λj I J=>?_;clear K M L;go_in;go_wp2_with (first
  |(go_at_call 23;rw[<- O.o];apply hR.o.mono;rintro e w1 ⟨sv,rv,ev,rfl,-,-,B,m,n⟩;obtain⟨_,rfl⟩:=m.zero h0;have hX:=zy (n h0);obtain⟨sa,sn,sc,rT,rx,rfl,rfl⟩:=hX.o.forms;have f:=B.bl I id;have h:=B.bl J id;have a4:w.heap.size<w1.heap.size:=f.lt;have a5:w.heap.size+1<w1.heap.size:=h.lt;have r0:=f.c0;have r1:=f.c1;have g0:=f.th 0;have g1:=f.th 1;have r2:=h.c0;have r3:=h.c1;have g2:=h.th 0;have g3:=h.th 1;have i:=zy (st2 (a:=.slice sa sn sc) (b:=.iface rT rx) f h M_);have Y:=zy (z.o.trans B u_);clear f h hR B m n)
  |(go_at_call 23;apply(a0.o _ (Y.o.trans i.o.2.2 (λx hx e=>M_))).mono;rintro e X ⟨sv',rv',ev,rfl,-,-,q,m,n⟩;obtain⟨_,rfl⟩:=m.zero h1;have N:=zy (n h1);obtain⟨F,H,G,C,D,rfl,rfl⟩:=N.o.forms;have u:=zy i.o.2.2.size;have a2:=zy ((hX.o.frS i.o.2.2 (λg hg e=>by have:=j.o;omega)).frS q u_);have f:=q.bl i.o.1 id;have h:=q.bl i.o.2.1 id;have a6:w.heap.size<X.heap.size:=f.lt;have a7:w.heap.size+1<X.heap.size:=h.lt;have r0:=f.c0;have r1:=f.c1;have g0:=f.th 0;have g1:=f.th 1;have r2:=h.c0;have r3:=h.c1;have g2:=h.th 0;have g3:=h.th 1;have s2:=zy (st2 (a:=.slice F H G) (b:=.iface C D) h f M_);have F2:=zy ((Y.o.trans i.o.2.2 (λx hx e=>M_)).trans q u_);clear f h a0 q m n hX))
 have s3:=s2.o;obtain⟨W3,a1⟩:=e_ ((X.setCell ⟨w.heap.size+1,0,none⟩ (.slice F H G)).setCell ⟨w.heap.size+1,1,none⟩ (.iface C D));rw[<- a1]at s3⊢;obtain⟨b1,b0,f3⟩:=s3;have F3:=zy (F2.o.trans f3 (λx hx e=>M_));have Y1:=zy (a2.o.frS f3 (λg hg e=>by have:=j.o;omega));have Y2:=zy (N.o.frS f3 (λg hg e=>by have:=u.o;omega));have c0:=b0.c0;have c1:=b0.c1;have c2:=b1.c0;have c3:=b1.c1;have t0:=b0.th 0;have t1:=b0.th 1;have t2:=b1.th 0;have t3:=b1.th 1;have E:=st2 (a:=.slice sa sn sc) (b:=.iface rT rx) b0 b1 M_;have k:=st2 (a:=.slice F H G) (b:=.iface C D) E.2.1 E.1 M_;have T:=k.2.1.drew.c0;have U:=k.2.1.drew.c1;have V:=k.1.drew.c0;have q3:=k.1.drew.c1;have l:Fr W3 _ (λg=>g=w.heap.size\/g=w.heap.size+1):=((E.2.2.mono (λ_ _ e=>.inl e)).trans k.2.2 (λ_ _ e=>.inr e)).drew;revert T U V q3 l;refine k_ λT U V q3 l=>?_;replace u:=zy (show w.heap.size+2<=((w1.setCell ⟨w.heap.size,0,none⟩ (.slice sa sn sc)).setCell ⟨w.heap.size,1,none⟩ (.iface rT rx)).heap.size by have:=u.o;omega);clear b0 b1 f3 a1 s2 i r0 r1 r2 r3 g0 g1 g2 g3 E k a2 N;go_region;go_wp2;refine bodyPost_ret (v:=.tuple #[.agg #[.slice sa sn sc,.iface rT rx],.agg #[.slice F H G,.iface C D],.nilIface]) (by simp[results,results15,go_sem,T.o,U.o,V.o,q3.o]) rfl ?_;rw[Q_.o];refine⟨_,_,_,_,_,rfl,F3.o.trans l (λx hx e=>M_),.inl ⟨h0,h1,rfl,?_,?_⟩⟩
 .exact(Y1.o.frS l (λg hg e=>by have:=j.o;omega)).ls (by have:=j.o;omega)
 .exact(Y2.o.frS l (λg hg e=>by have:=u.o;omega)).ls (by have:=u.o;omega)
def pR(S:xl A w)(f:yM w)(h:yH w)(g:xe w):Calls prog 15 #[.string sw,.string sr] w (pQ w sw sr):=by
 by_cases h0:(zu sw).1=0
 .by_cases h1:(zu sr).1=0
  .exact Zo S f h g h0 h1
  .exact ZZ S f h g h0 h1
 .exact ZY S f h g h0
end
def DfM(k0:Nat)(Q:Az)(W:Aw)(s:BA)(ds:Ar)(xs:Ay):Prop:=
 ∃blk,pJ (sf blk) W ds xs/\Zp Q ds blk/\∀f∈zk ds,∀a e,f.dflt=some (a,e)->∃x d,ym (zx ds) true f.ty (s.extract a e)=some d/\Blk W (blk a) [I_ a,.string (s.extract a e),x] 198/\DaV (zx ds) W (λg=>g<k0) d f.ty x
def DfM.fr{k0:Nat}{Q:Az}{w:Aw}{s:BA}{ds:Ar}{sv:Ax}{xs:Ay}(h:DfM k0 Q w s ds xs)(D:yR w Q s ds sv xs)(hf:Fr w w' N_):DfM k0 Q w' s ds xs:=by
 obtain⟨blk,h1,g,i⟩:=h;refine⟨blk,h1.to D (λfv n zs hP ho=>zj ho hf u_),g,λf hm a e he=>?_⟩;obtain⟨x,d,r1,g,j⟩:=i f hm a e he;exact⟨x,d,r1,hf.bl g id,j.fr hf u_⟩
def Dfs.dfm{Q:Az}{w:Aw}{s:BA}{ds:Ar}{xs:Ay}(h:Dfs lo Q w s ds xs):DfM w.heap.size Q w s ds xs:=by
 obtain⟨blk,h1,i,j⟩:=h;refine⟨blk,h1,i,λf hm a e he=>?_⟩;obtain⟨x,d,r1,i,k⟩:=j f hm a e he;exact⟨x,d,r1,i,k.mono (λg hg _=>hg)⟩
structure MC(P Q:Az)(s s':BA)(ds ds':Ar)(sv sv':Ax)(xs xs':Ay)(k0:Nat)(W:Aw):Prop where
 D:yR W P s ds sv xs
 E:yR W Q s' ds' sv' xs'
 F:DfM k0 Q W s' ds' xs'
 k:k0<=W.heap.size
structure MS(ds ds':Ar):Prop where
 g:vj ds
 g':vj ds'
 f:JB (zx ds)
 f':JB (zx ds')
def ye(er:Au)(y:PT)(k0:Nat)(w:Aw)(d:DT)(e:Ak)(w':Aw):Prop:=
 ∃v,e=.returned (.tuple #[v,.nilIface])/\Fr w w' N_/\DaV er w' (λg=>g<k0\/w.heap.size<=g) d y v
section
variable {w w1 W W':Aw} {P Q:Az} {s s':BA} {ds ds':Ar} {sv sv':Ax} {xs xs':Ay} {k0:Nat} {er:Au} {y:PT} {d:DT} {e:Ak}
def MC.new(M:MC P Q s s' ds ds' sv sv' xs xs' k0 W)(hf:Fr W W' N_):MC P Q s s' ds ds' sv sv' xs xs' k0 W':=
 ⟨M.D.fr hf u_,M.E.fr hf u_,M.F.fr M.E hf,ak_ M.k hf.size⟩
def ye.pre(hf:Fr w w1 N_)(h:ye er y k0 w1 d e W):ye er y k0 w d e W:=by
 obtain⟨v,he,f,hm⟩:=h;have hz:=hf.size;exact⟨v,he,hf.trans f u_,hm.mono (λg _ hg=>M_)⟩
def ye.two(hf:Fr w w1 N_)(h:ye er y k0 w1 d e W):Fr w1 W N_/\ye er y k0 w d e W:=
 ⟨by obtain⟨_,_,h,_⟩:=h;exact h,h.pre hf⟩
def ye.tup(h:ye er y k0 w d e W):∃v f,e=.returned (.tuple #[v,f])/\ye er y k0 w d (.returned (.tuple #[v,f])) W:=by
 have f:=h;obtain⟨v,he,_⟩:=f;exact⟨v,_,he,he▸h⟩
end
def Xt(P Q:Az)(s s':BA)(ds ds':Ar)(sv sv':Ax)(xs xs':Ay)(k0:Nat)(sT:Av)(sx:Ax)(rT:Av)(rx:Ax)(f:Nat):Prop:=
 ∀(w:World) (x y:PT) (d z:DT) (a b v:Value),MC P Q s s' ds ds' sv sv' xs xs' k0 w->TyV w P x a->TyV w Q y b->okT (zx ds) x->okT (zx ds') y->vq y->Dat (zx ds) d x->DaV (zx ds) w (λg=>g<k0) d x v->ndT d<=300->ndT d<=f->mkP (zx ds) (zx ds') (xD (zx ds') s') f x y d=some z->
  Calls prog 48 #[.agg #[sv,.iface sT sx,sv',.iface rT rx],a,b,v] w (ye (zx ds') y k0 w z)
def jY.growJ{w1 j:Aw}{B:Nat}{J:Az}{ds:Ae}{lv f:Ax}{d:DT}{Y:Ai}(k:∀i d,ds[i]?=some d->DaV env w1 (λg=>J g/\lv.ownBlock≠some g) d (yg env t 0 i) (Y i))(hd:DaV env w1 (λg=>J g/\lv.ownBlock≠some g) d (yg env t 0 ds.length) v)(hf:Fr w1 j (λg=>lv.ownBlock=some g))(hl:f.ownBlock=lv.ownBlock\/∃h,f.ownBlock=some h/\w1.heap.size<=h)(ho:j.ownsRow B 52 1 f (ds.length+1) (((List.range ds.length).flatMap λi=>[Y i])++[v])):jY env j B (λg=>J g/\f.ownBlock≠some g) t f (ds++[d]):=by
 have up:∀{d u v},DaV env w1 (λg=>J g/\lv.ownBlock≠some g) d u v->DaV env j (λg=>J g/\f.ownBlock≠some g) d u v:=λh=>by
  have h1:DaV env w1 (λg=>(J g/\lv.ownBlock≠some g)/\g<w1.heap.size) _ _ _:=h.mono (λg h1 f=>⟨f,h1⟩);refine(h1.fr hf (λg hg e=>hg.1.2 e)).mono (λg _ hg=>⟨hg.1.1,λe=>?_⟩);rcases hl with h|⟨q,h,f⟩
  .exact hg.1.2 (h▸e)
  .rw[h]at e;have:=hg.2;simp only[af_]at e;omega
 refine⟨λi=>if i<ds.length then Y i else v,?_,λi e he=>?_⟩
 .rw[ag_,ap_,bs_,ba_,yo ds.length _ (λi=>[Y i]) (λi hi=>by simp[hi])];simpa using ho
 .rcases gZ he with⟨hi,he⟩|⟨rfl,rfl⟩
  .simp only[hi,if_true];exact up (k i e he)
  .simp only[a2_,if_false];exact up hd
def qe.growJ{w1 j:Aw}{J:Az}{es:Ag}{ys:Ay}{lv f:Ax}{key:BA}{d:DT}(h:qe env w1 (λg=>J g/\lv.ownBlock≠some g) t es ys)(hd:DaV env w1 (λg=>J g/\lv.ownBlock≠some g) d (yg env t 0 es.length) v)(hk:key.size<=4000)(hf:Fr w1 j (λg=>lv.ownBlock=some g))(hl:f.ownBlock=lv.ownBlock\/∃h,f.ownBlock=some h/\w1.heap.size<=h):qe env j (λg=>J g/\f.ownBlock≠some g) t (es++[(key,d)]) (ys++[.string key,v]):=by
 obtain⟨Y,a,b,k⟩:=h;have up:∀{d u v},DaV env w1 (λg=>J g/\lv.ownBlock≠some g) d u v->DaV env j (λg=>J g/\f.ownBlock≠some g) d u v:=λh=>by
  have h1:DaV env w1 (λg=>(J g/\lv.ownBlock≠some g)/\g<w1.heap.size) _ _ _:=h.mono (λg h1 f=>⟨f,h1⟩);refine(h1.fr hf (λg hg e=>hg.1.2 e)).mono (λg _ hg=>⟨hg.1.1,λe=>?_⟩);rcases hl with h|⟨q,h,f⟩
  .exact hg.1.2 (h▸e)
  .rw[h]at e;have:=hg.2;simp only[af_]at e;omega
 refine⟨λi=>if i<es.length then Y i else v,?_,λi e he=>?_,λe he=>?_⟩
 .have f:=yo es.length (λi=>[Value.string (((es++[(key,d)]).map Prod.fst).getD i noB),if i<es.length then Y i else v]) (λi=>[Value.string ((es.map Prod.fst).getD i noB),Y i]) (λi hi=>by
   simp only[bd_,au_]
   rw[ar_ (by simpa using hi),i_ hi])
  rw[a,ag_,ap_,bs_,ba_,f];simp[au_]
 .rcases gZ he with⟨hi,he⟩|⟨rfl,rfl⟩
  .simp only[hi,if_true];exact up (b i e he)
  .simp only[a2_,if_false];exact up hd
 .rcases a1_.1 he with h|h
  .exact k e h
  .simp only[a0_]at h;subst h;exact hk
section
variable {w:Aw} {sa ra:Am} {sn sc rn rc:Nat} {sT rT aT bT dT:Av} {sx rx ax bx dx:Ax}
def Wf{N:Ex}(B:∀W,Fr w W N_->Calls prog 86 #[.agg #[.slice sa sn sc,.iface sT sx,.slice ra rn rc,.iface rT rx],.iface aT ax,.iface bT bx] W (λe w'=>∃T u,e=.returned (.iface T u)/\Fr W w' N_/\N (.iface T u) w'))(hB:∀W T u,Fr w W N_->N (.iface T u) W->Calls prog 85 #[.agg #[.slice sa sn sc,.iface sT sx,.slice ra rn rc,.iface rT rx],.iface T u,.iface dT dx] W (λe w'=>∃v m,e=.returned (.tuple #[v,m])/\Fr W w' N_/\R (.returned (.tuple #[v,m])) w')):Calls prog 48 #[.agg #[.slice sa sn sc,.iface sT sx,.slice ra rn rc,.iface rT rx],.iface aT ax,.iface bT bx,.iface dT dx] w R:=by
 refine hq_ λm E=>?_;replace B:=zy B;replace hB:=zy hB;obtain⟨k,j⟩:=e_ (w.alloc (.cells #[.slice sa sn sc,.iface sT sx,.slice ra rn rc,.iface rT rx] 83));have l:Fr w k N_:=by rw[j];exact(A_ w N_).alloc _
 have g:Blk k w.heap.size [.slice sa sn sc,.iface sT sx,.slice ra rn rc,.iface rT rx] 83:=by
  rw[j];exact B_ w #[.slice sa sn sc,.iface sT sx,.slice ra rn rc,.iface rT rx] 83
 obtain⟨D,f⟩:∃C:World->Prop,C=λW=>W.cell? ⟨w.heap.size,0,none⟩=some (.slice sa sn sc)/\W.cell? ⟨w.heap.size,1,none⟩=some (.iface sT sx)/\W.cell? ⟨w.heap.size,2,none⟩=some (.slice ra rn rc)/\W.cell? ⟨w.heap.size,3,none⟩=some (.iface rT rx):=⟨_,rfl⟩;have z:=zy (λW (m:Fr k W N_)=>show D W by
  rw[f]
  exact⟨(m.bl g id).cell 0,(m.bl g id).cell 1,(m.bl g id).cell 2,(m.bl g id).cell 3⟩)
 replace l:=zy l;replace j:=zy j;replace f:=zy f;go_in;go_wp2;rw[<- j.o];refine tR_ D ?_;refine zc 0 ?v0 rfl K_ (λ_ _ _ h=>h) K_ ?yv0 ?_;case yv0=>(intro W h;rw[f.o]at h;obtain⟨c0,c1,c2,c3⟩:=h;go_simp<;>rfl)
 refine zc 1 ?v1 rfl K_ (λ_ _ _ h=>h) K_ ?yv1 ?_;case yv1=>(intro W h;rw[f.o]at h;obtain⟨c0,c1,c2,c3⟩:=h;go_simp<;>rfl)
 refine zc 2 ?v2 rfl K_ (λ_ _ _ h=>h) K_ ?yv2 ?_;case yv2=>(intro W h;rw[f.o]at h;obtain⟨c0,c1,c2,c3⟩:=h;go_simp<;>rfl)
 refine zc 3 ?v3 rfl K_ (λ_ _ _ h=>h) K_ ?yv3 ?_;case yv3=>(intro W h;rw[f.o]at h;obtain⟨c0,c1,c2,c3⟩:=h;go_simp<;>rfl)
 refine zc 5 ?v5 rfl K_ (λ_ _ _ h=>h) K_ ?yv5 ?_;case yv5=>(intro W h;rw[f.o]at h;obtain⟨c0,c1,c2,c3⟩:=h;go_simp<;>rfl)
 refine zJ 4 rfl K_ (z.o _ (A_ k _).drew) (λq i=>?_);go_simp;apply(B.o _ l.o.drew).mono;rintro e w1 ⟨f,f,rfl,g,f⟩;have n:=zy ((A_ k N_).drew.trans g u_);replace f:=zy f;refine i _ _ ?_;refine zJ 6 rfl K_ (z.o _ n) (λq i=>?_);go_simp;apply(hB.o _ _ _ (l.o.trans n u_) f).mono;rintro e f ⟨v2,F,rfl,g,f⟩;have j:=zy (n.o.trans g u_);replace f:=zy f;refine i _ _ ?_;refine tY_ 7 ?_;refine tY_ 8 ?_;refine tY_ 9 ?_;refine tY_ 10 ?_;refine yq K_ (z.o _ j) ?_ _;go_wp2;refine bodyPost_ret (v:=.tuple #[v2,F]) (by simp[results,results48,go_sem];try rfl) rfl ?_;rw[E.o];exact f
def ia{j y:PT}{k0:Nat}{er:Au}{n:Nat}{x:DT}(hn:n<=4000)(hy:yg er y n 0=j)(h:∀W,Fr w W N_->Calls prog 85 #[.agg #[.slice sa sn sc,.iface sT sx,.slice ra rn rc,.iface rT rx],.iface bT bx,.iface dT dx] W (ye er j k0 W x)):Calls prog 140 #[.agg #[.slice sa sn sc,.iface sT sx,.slice ra rn rc,.iface rT rx],.agg #[I_ n,.iface bT bx],.iface dT dx] w (ye er y k0 w (.mk 40 (n:Int) noB [] [x])):=by
 refine hq_ λj m=>?_;have l:=zy (λo j=>((A_ w N_).alloc o).alloc j);have g:Blk ((w.alloc (.cells #[.slice sa sn sc,.iface sT sx,.slice ra rn rc,.iface rT rx] 83)).alloc (.cells #[I_ n,.iface bT bx] 280)) (w.heap.size+1) [I_ n,.iface bT bx] 280:=by
  have h:=B_ (w.alloc (.cells #[.slice sa sn sc,.iface sT sx,.slice ra rn rc,.iface rT rx] 83)) #[I_ n,.iface bT bx] 280;rw[zm]at h;exact h
 replace g:=zy g;replace h:=zy (λW j=>(h W j).mono (λe w' q=>ye.two j q));go_in;go_wp2_with (go_at_call 85;apply(h.o _ (l.o _ _)).mono;rintro e w1 ⟨k,j,rfl,i,f⟩;obtain⟨j,j,rfl⟩:=f.iface;have j:=(k.bl g id).c0;replace i:=zy i;replace f:=zy f);try go_ret
 rw[m.o];refine⟨_,rfl,i,?_⟩;refine .branch n hn ?_;rw[hy];exact f
end
end Go.Proofs.YtlmebjdmdogmfaaGreatDoor
