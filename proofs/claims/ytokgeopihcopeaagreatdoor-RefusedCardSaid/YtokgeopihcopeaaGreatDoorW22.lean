import Derived.Test.YtokgeopihcopeaaGreatDoorW21
set_option linter.unusedVariables false
set_option maxHeartbeats 16000000
set_option maxRecDepth 100000
set_option linter.defProp false
set_option linter.unusedSimpArgs false
open Go.Proofs.Tryz
namespace Go.Proofs.YtokgeopihcopeaaGreatDoor
open Go.RowKit
variable {x t:PT}{v a rv:Ax}{R:Bt}{env ew:Au}{i lo un uc c q:Nat}{Z:Ds}{ua:Am}{w':Aw}
def MtV.iface{w:Aw}{P Q:Az}{s s':BA}{er:Au}{y:PT}(h:MtV w P Q s s' ew er Z x y v):∃T u,v=.iface T u:=by
 rcases h.kind with⟨_,rfl⟩|⟨_,T,u,rfl,_,_⟩
 .exact⟨_,_,rfl⟩
 .exact⟨_,_,rfl⟩
def YK{w:Aw}{P Q:Az}{s s':BA}{er:Au}{y:PT}(h:MtV w P Q s s' ew er Z x y v):Calls prog 193 #[v] w λe w'=>e=.returned (.bool (!xi ew er x y))/\Fr w w' N_:=by
 rcases h.kind with⟨hk,rfl⟩|⟨hk,T,u,rfl,h1,b⟩
 .rw[hk];exact oY
 .rw[hk];exact YW T h1 u
def cwlN1_{p:Prop}(h:p:=by
 rw[hkd]at hIn;(first|(have:=cc1;have hst:H_ (xZ ew er x (rs.take (q+1)) 0 none=some q):=zy (by rw[hstep.o,hk,hkd];simp))|(have hst:H_ (xZ ew er x (rs.take (q+1)) 0 none=xZ ew er x (rs.take q) 0 none):=zy (by rw[hstep.o,hk,hpk,hkd];rfl)));(first|(have:=cc1;rw[hpk]at hB)|(rw[hpk]at hst hB));(first|(have:=cc1;obtain⟨r',T',u',h1',h2',h3',h4'⟩:=hB)|(have hB':=hB;obtain⟨r',T',u',h1',h2',h3',h4'⟩:=hB'));subst h2';clear h1' h3' h4';(first|(have:=cc1)|(replace hB:=zy hB));replace hf:=zy hf;go_wp2_with (first
  |(go_at_call 145;apply(hM.o _ hfw.o r _ hmem.o hT.o).mono;rintro e w1 ⟨m1,rfl,hf1,hm1⟩;obtain⟨mT,mu,rfl⟩:=hm1.iface;have hm1:=zy hm1;have F1:=zy hf1;clear hf1)
  |(go_at_call 193;apply(hNv.o _ _ hm1.o).mono;rintro e w2 ⟨rfl,hf2⟩;have F2:=zy (F1.o.trans hf2 u_);have hm2:=zy (hm1.o.fr hf2 u_ u_);clear hf2)
  |(go_at_call 194;apply rq.mono;rintro e w3 ⟨rfl,hf3⟩;have F3:=zy (F2.o.trans hf3 u_);have hm3:=zy (hm2.o.fr hf3 u_ u_);clear hf3)
  |(go_at_call 195;apply(hIn.o _ F3.o).mono;rintro e w4 ⟨rfl,hf4⟩;have F4:=zy (F3.o.trans hf4 u_);have hm4:=zy (hm3.o.fr hf4 u_ u_);clear hf4))
 go_roundg (rs.length+1-(q+1));case measure=>omega
 case rel=>
  refine⟨q+1,rfl,hlt,l_,hf.o.trans F4.o u_,?_⟩;rw[hst.o];(first|(have:=cc1;exact⟨r,mT,mu,hd,rfl,hk,hm4.o⟩)|(exact hB.o.fr F4.o u_ u_))):p:=h
def lN{w:Aw}{P Q:Az}{s s':BA}{ds ds':Ar}{sv sv' uv:Ax}{xs xs':Ay}{sT rT:Av}{sx rx:Ax}{rs:Af}{X:Ai}{p:Nat}(D:yR w P s ds sv xs)(E:yR w Q s' ds' sv' xs')(ha:TyV w P x a)(fx:vJ x)(z:∀c p,x=.leaf c p->zY c=true->∃X,zx ds c=some X)(ho:w.ownsRow 0 46 1 uv rs.length ((List.range rs.length).map X))(F:∀g,uv.ownBlock=some g->Q g)(hX:∀i t,rs[i]?=some t->TyV w Q t (X i))(hl:rs.length<=1000)(l:∀t∈rs,vJ t)(B:∀t∈rs,∀c p,t=.leaf c p->zY c=true->∃Y,zx ds' c=some Y):Calls prog 144 #[.agg #[sv,.iface sT sx,sv',.iface rT rx],a,.agg #[I_ p,uv]] w λe w'=>∃v,e=.returned v/\Fr w w' N_/\BrV w' P Q s s' (zx ds) (zx ds') (ZV ds' xs') x rs (xZ (zx ds) (zx ds') x rs 0 none) v:=by
 obtain⟨M,d⟩:=y_ (λ(e:Ending) (w':World)=>∃v,e=.returned v/\Fr w w' N_/\BrV w' P Q s s' (zx ds) (zx ds') (ZV ds' xs') x rs (xZ (zx ds) (zx ds') x rs 0 none) v);rw[<- d.o];have hM:=zy (λW (f:Fr w W N_) r b (hr:r∈rs) (hb:TyV W Q r b)=>tA (sT:=sT) (rT:=rT) (sx:=sx) (rx:=rx) (D.fr f u_) (E.fr f u_) (ha.fr f u_) hb fx (l r hr) z (B r hr));obtain⟨sa,sc,rfl⟩:=zw D.row;obtain⟨ra,rc,rfl⟩:=zw E.row;obtain⟨ua,uc,rfl⟩:=zw ho;obtain⟨aT,ax,rfl⟩:=ha.iface;obtain⟨u,hwz⟩:=e_ ((w.alloc (.cells #[.slice sa ds.length sc,.iface sT sx,.slice ra ds'.length rc,.iface rT rx] 83)).alloc (.cells #[I_ p,.slice ua rs.length uc] 226));have j:Fr w u N_:=y9_
 have n:Blk u w.heap.size [.slice sa ds.length sc,.iface sT sx,.slice ra ds'.length rc,.iface rT rx] 83:=by
  rw[hwz];exact(B_ w #[.slice sa ds.length sc,.iface sT sx,.slice ra ds'.length rc,.iface rT rx] 83).alloc _
 replace j:=zy j;replace n:=zy n;replace hwz:=zy hwz;replace ho:=zy ho;replace F:=zy F;replace hX:=zy hX;replace l:=zy l;generalize H:zx ds=ew at hM d;generalize G:zx ds'=er at hM d;generalize K:ZV ds' xs'=Z at hM d;go_in;go_wp2;rw[<- hwz.o];go_loopg [7,16] (rs.length+1) (λm L v W=>∃q:Nat,v=I_ q/\q<=rs.length/\rs.length+1-q<=m/\Fr u W N_/\BrV W P Q s s' ew er Z x rs (xZ ew er x (rs.take q) 0 none) L);case atStart=>exact⟨0,rfl,am_ _,M_,A_ _ _,rfl⟩
 case round=>
  obtain⟨q,rfl,O,hm,hf,hB⟩:=hrel;by_cases hlt:q<rs.length
  .have J:(q:Int)<(rs.length:Int):=M_;have hd:rs[q]?=some rs[q]:=aj_ hlt;have hmem:rs[q]∈rs:=bi_ hlt;generalize rs[q]=r at hd hmem;obtain⟨g,N,I⟩:=zg ho M_;cases I;have hfw:=j.o.trans hf u_;have ty:=(hX.o q r hd).fr hfw u_;have c0:=zr (zj ho hfw u_) rfl (k:=q) (x:=X q) (by rw[ax_,ce_ hlt];rfl);obtain⟨bT,bx,C⟩:=ty.iface;rw[C]at ty c0;have b0:=hf.bl n id;obtain⟨k0,T,U,V⟩:=b0.d4;have hstep:=zy (ZG (ew:=ew) (er:=er) (x:=x) hd);have hT:=zy ty;replace hfw:=zy hfw;have hmem:=zy hmem;have hIn:=zy (λW (f:Fr wr W N_)=>oX (hT.o.fr f u_) (l.o r hmem));have hNv:=zy (λW m (h:MtV W P Q s s' ew er Z x r m)=>YK h);cases hk:xi ew er x r
   .rw[hk]at hNv;have hst:H_ (xZ ew er x (rs.take (q+1)) 0 none=xZ ew er x (rs.take q) 0 none):=zy (by rw[hstep.o,hk];rfl);replace hB:=zy hB;replace hf:=zy hf;go_wp2_with (first
     |(go_at_call 145;apply(hM.o _ hfw r _ hmem hT).mono;rintro e w1 ⟨m1,rfl,hf1,hm1⟩;obtain⟨mT,mu,rfl⟩:=hm1.iface;have hm1:=zy hm1;have F1:=zy hf1)
     |(go_at_call 193;apply(hNv.o _ _ hm1).mono;rintro e w2 ⟨rfl,hf2⟩;have F2:=zy (F1.o.trans hf2 u_);have hm2:=zy (hm1.o.fr hf2 u_ u_)))
    go_roundg (rs.length+1-(q+1));case measure=>omega
    case rel=>
     refine⟨q+1,rfl,hlt,l_,hf.o.trans F2 u_,?_⟩;rw[hst.o];exact hB.o.fr F2 u_ u_
   .rw[hk]at hNv;cases hpk:xZ ew er x (rs.take q) 0 none
    .rw[hpk]at hB;have hst:H_ (xZ ew er x (rs.take (q+1)) 0 none=some q):=zy (by rw[hstep.o,hk,hpk];rfl);replace hB:u7=_:=hB;subst hB;replace hf:=zy hf;go_wp2_with (first
      |(go_at_call 145;apply(hM.o _ hfw r _ hmem hT).mono;rintro e w1 ⟨m1,rfl,hf1,hm1⟩;obtain⟨mT,mu,rfl⟩:=hm1.iface;have hm1:=zy hm1;have F1:=zy hf1)
      |(go_at_call 193;apply(hNv.o _ _ hm1).mono;rintro e w2 ⟨rfl,hf2⟩;have F2:=zy (F1.o.trans hf2 u_);have hm2:=zy (hm1.o.fr hf2 u_ u_))
      |(go_at_call 194;apply(JQ _ D_ _).mono;rintro e w3 ⟨rfl,hf3⟩;have F3:=zy (F2.o.trans hf3 u_);have hm3:=zy (hm2.o.fr hf3 u_ u_)))
     go_roundg (rs.length+1-(q+1));case measure=>omega
     case rel=>
      refine⟨q+1,rfl,hlt,l_,hf.o.trans F3 u_,?_⟩;rw[hst.o];exact⟨r,mT,mu,hd,rfl,hk,hm3⟩
    .rename_i S;cases hkd:(r.kind==105)
     .exact cwlN1_
     .have cc1:=Nat;exact cwlN1_
  .have J:¬((q:Int)<(rs.length:Int)):=M_;rw[bc_ M_]at hB;replace hB:=zy hB;replace hf:=zy hf;go_wp2;try go_ret
   rw[d.o];exact⟨_,rfl,j.o.trans hf u_,hB⟩
section
variable {w:Aw} {p:Nat} {sa ra:Am} {sn sc rn rc:Nat} {sT rT aT bT:Av} {sx rx ax bx:Ax}
def Jb(ha:aT≠226)(h:∀W,Fr w W N_->Calls prog 144 #[.agg #[.slice sa sn sc,.iface sT sx,.slice ra rn rc,.iface rT rx],.iface aT ax,.agg #[I_ p,.slice ua un uc]] W (λe w'=>∃v,e=.returned v/\R (.returned v) w')):Calls prog 86 #[.agg #[.slice sa sn sc,.iface sT sx,.slice ra rn rc,.iface rT rx],.iface aT ax,.iface 226 (.agg #[I_ p,.slice ua un uc])] w R:=by
 have cc1:=Nat
 exact cq23_
end
inductive MeV (w:Aw) (P Q:Az) (s s':BA) (ew er:Au) (Z:Ds):PT->PT->Value->Prop
 |outb {p:Nat} {ws:List PT} {y:PT} {uv b:Value} (X:Nat->Value) (ho:w.ownsRow 0 46 1 uv ws.length ((List.range ws.length).map X)) (hX:∀i t,ws[i]?=some t->TyV w P t (X i)) (hb:TyV w Q y b) (hP:∀g,uv.ownBlock=some g->P g):MeV w P Q s s' ew er Z (.alts p ws) y (.iface 277 (.agg #[uv,b]))
 |into {x:PT} {p:Nat} {rs:List PT} {v:Value} (fx:vJ x) (h:BrV w P Q s s' ew er Z x rs (xZ ew er x rs 0 none) v):MeV w P Q s s' ew er Z x (.alts p rs) v
 |flat {x y:PT} {v:Value} (fx:vJ x) (fy:vJ y) (h:MtV w P Q s s' ew er Z x y v):MeV w P Q s s' ew er Z x y v
def BrV.iface{w:Aw}{P Q:Az}{s s':BA}{er:Au}{rs:Af}{k:Option Nat}(h:BrV w P Q s s' ew er Z x rs k v):∃T u,v=.iface T u:=by
 cases k with
 |none=>exact⟨_,_,h⟩
 |some i=>obtain⟨_,_,_,_,rfl,_⟩:=h;exact⟨_,_,rfl⟩
def MeV.iface{w:Aw}{P Q:Az}{s s':BA}{er:Au}{y:PT}(h:MeV w P Q s s' ew er Z x y v):∃T u,v=.iface T u:=by
 cases h with
 |outb=>exact⟨_,_,rfl⟩
 |into fx h=>exact h.iface
 |flat fx fy h=>exact h.iface
def lP(h:okT env t)(ha:t.isAlts=false):vJ t:=by
 cases t with
 |leaf c p=>exact trivial
 |wrap c p u=>unfold okT at h;exact h.1
 |alts p l=>simp[PT.isAlts]at ha
def cM(h:okT env t):∀c p,t=.leaf c p->zY c=true->∃X,env c=some X:=λc p e hn=>by
 subst e;unfold okT at h;rcases h with h|h
 .rw[xM hn]at h;cases h
 .exact h.2
def TyV.alts_inv{w:Aw}{P:Az}{p:Nat}{l:Af}(h:TyV w P (.alts p l) v):∃(uv:Value) (X:Nat->Value),v=.iface 226 (.agg #[I_ p,uv])/\w.ownsRow 0 46 1 uv l.length ((List.range l.length).map X)/\(∀g,uv.ownBlock=some g->P g)/\∀i t,l[i]?=some t->TyV w P t (X i):=by
 cases h with
 |alts p X ho hP h=>exact⟨_,X,rfl,ho,hP,h⟩
def TyV.flat_ne{w:Aw}{P:Az}{T:Av}{u:Ax}(h:TyV w P x (.iface T u))(fx:vJ x):T≠226:=by
 cases h with
 |base c p h=>exact(je c).2.2.1
 |name c p h=>decide
 |wrap c p h=>
  rcases fx with rfl|rfl
  .decide
  .decide
 |alts p X ho hP h=>exact fx.elim
def aO{w:Aw}{P Q:Az}{s s':BA}{ds ds':Ar}{sv sv':Ax}{xs xs':Ay}{sT rT:Av}{sx rx:Ax}{y:PT}{b:Ax}(D:yR w P s ds sv xs)(E:yR w Q s' ds' sv' xs')(ha:TyV w P x a)(hb:TyV w Q y b)(hx:okT (zx ds) x)(hy:okT (zx ds') y)(fy:vq y):Calls prog 86 #[.agg #[sv,.iface sT sx,sv',.iface rT rx],a,b] w λe w'=>∃v,e=.returned v/\Fr w w' N_/\MeV w' P Q s s' (zx ds) (zx ds') (ZV ds' xs') x y v:=by
 obtain⟨sa,sc,r⟩:=zw D.row;obtain⟨ra,rc,n⟩:=zw E.row;cases m:x.isAlts with
 |true=>
  cases x with
  |leaf c p=>simp[PT.isAlts]at m
  |wrap c p u=>simp[PT.isAlts]at m
  |alts p ws=>
   obtain⟨uv,X,rfl,ho,hP,hX⟩:=ha.alts_inv;obtain⟨bT,bx,rfl⟩:=hb.iface;obtain⟨ua,uc,z⟩:=zw ho;subst r n z;apply Wk.mono;rintro e w' ⟨rfl,hf⟩;exact⟨_,rfl,hf,.outb X (zj ho hf u_) (λi t h=>(hX i t h).fr hf u_) (hb.fr hf u_) hP⟩
 |false=>
  have fx:=lP hx m;cases B:y.isAlts with
  |true=>
   cases y with
   |leaf c p=>simp[PT.isAlts]at B
   |wrap c p u=>simp[PT.isAlts]at B
   |alts p rs=>
    obtain⟨uv,X,rfl,ho,hP,hX⟩:=hb.alts_inv;obtain⟨aT,ax,rfl⟩:=ha.iface;obtain⟨ua,uc,z⟩:=zw ho;unfold okT at hy;unfold vq at fy;have m:=vI hy.2;have l:=λW (d:Fr w W N_)=>(lN (sT:=sT) (rT:=rT) (sx:=sx) (rx:=rx) (p:=p) (D.fr d u_) (E.fr d u_) (ha.fr d u_) fx (cM hx) (zj ho d u_) hP (λi t h=>(hX i t h).fr d u_) M_ (λt g=>lP (m t g).2 (m t g).1) (λt g=>cM (m t g).2)).mono (λe w' (q:∃v,e=.returned v/\Fr W w' N_/\BrV w' P Q s s' (zx ds) (zx ds') (ZV ds' xs') x rs (xZ (zx ds) (zx ds') x rs 0 none) v)=>show ∃v,e=.returned v/\∃f,Ending.returned v=.returned f/\Fr w w' N_/\MeV w' P Q s s' (zx ds) (zx ds') (ZV ds' xs') x (.alts p rs) f by
     obtain⟨v,h1,j,k⟩:=q
     exact⟨v,h1,v,rfl,d.trans j u_,.into fx k⟩)
    have C:=ha.flat_ne fx;subst r n z;exact Jb C l
  |false=>
   have g:=lP hy B;obtain⟨aT,ax,rfl⟩:=ha.iface;obtain⟨bT,bx,rfl⟩:=hb.iface;have l:=λW (d:Fr w W N_)=>(tA (sT:=sT) (rT:=rT) (sx:=sx) (rx:=rx) (D.fr d u_) (E.fr d u_) (ha.fr d u_) (hb.fr d u_) fx g (cM hx) (cM hy)).mono (λe w' (q:∃v,e=.returned v/\Fr W w' N_/\MtV w' P Q s s' (zx ds) (zx ds') (ZV ds' xs') x y v)=>show ∃v,e=.returned v/\∃f,Ending.returned v=.returned f/\Fr w w' N_/\MeV w' P Q s s' (zx ds) (zx ds') (ZV ds' xs') x y f by
    obtain⟨v,h1,j,k⟩:=q
    exact⟨v,h1,v,rfl,d.trans j u_,.flat fx g k⟩)
   have C:=ha.flat_ne fx;have F:=hb.flat_ne g;subst r n;exact Ju C F l
set_option maxRecDepth 100000
set_option linter.defProp false
@[go_sem]def Mr:=yI 275 208
@[go_sem]def ME:=vt 275 208 (.agg #[])
@[go_sem]def Uh:=yI 277 208
@[go_sem]def Ml:=vt 277 208 (.agg #[L_,.nilIface])
@[go_sem]def Mh:=yI 280 208
@[go_sem]def MN:=vt 280 208 (.agg #[O_,.nilIface])
@[go_sem]def FF:=yI 282 208
@[go_sem]def PS:=vt 282 208 (.agg #[.nilIface,.nilIface])
@[go_sem]def Wp:=yI 285 208
@[go_sem]def GP:=vt 285 208 (.agg #[O_,L_,.pointer none,O_,L_,.pointer none])
@[go_sem]def GB:=yI 288 208
@[go_sem]def FP:=vt 288 208 (.agg #[O_,L_,O_,L_])
section
variable {w:Aw} {sa ra:Am} {sn sc rn rc:Nat} {sT rT aT bT dT:Av} {sx rx ax bx dx:Ax}
def cq12_{p:Prop}(h:p:=by
 refine hq_ λr m=>?_;have g:=zy (λo=>(A_ w N_).alloc o);have j:=zy (λo b=>((A_ w N_).alloc o).alloc b);have k:=zy (λo b f=>(((A_ w N_).alloc o).alloc b).alloc f);have l:=zy (λo b f n=>((((A_ w N_).alloc o).alloc b).alloc f).alloc n);replace h:=zy h;go_in;go_wp2_with ((first|go_at_call 142|go_at_call 143|go_at_call 141|go_at_call 140|go_at_call 139);apply(h.o _ ?fr).mono;(case fr=>(first|exact g.o _|exact j.o _ _|exact k.o _ _ _|exact l.o _ _ _ _|exact A_ _ _));rintro e w1 ⟨v,u,rfl,d⟩;replace d:=zy d);try go_ret
 rw[m.o];exact d.o):p:=h
def io(h:∀W,Fr w W N_->Calls prog 139 #[.agg #[.slice sa sn sc,.iface sT sx,.slice ra rn rc,.iface rT rx],.agg #[.slice ua un uc,.iface bT bx],.iface dT dx] W (λe w'=>∃v ev,e=.returned (.tuple #[v,ev])/\R (.returned (.tuple #[v,ev])) w')):Calls prog 85 #[.agg #[.slice sa sn sc,.iface sT sx,.slice ra rn rc,.iface rT rx],.iface 277 (.agg #[.slice ua un uc,.iface bT bx]),.iface dT dx] w R:=by
 have cc4:=Nat
 exact cq12_
def oy{n:Int}(h:∀W,Fr w W N_->Calls prog 140 #[.agg #[.slice sa sn sc,.iface sT sx,.slice ra rn rc,.iface rT rx],.agg #[Z_ n,.iface bT bx],.iface dT dx] W (λe w'=>∃v ev,e=.returned (.tuple #[v,ev])/\R (.returned (.tuple #[v,ev])) w')):Calls prog 85 #[.agg #[.slice sa sn sc,.iface sT sx,.slice ra rn rc,.iface rT rx],.iface 280 (.agg #[Z_ n,.iface bT bx]),.iface dT dx] w R:=by
 have cc3:=Nat
 exact cq12_
def gm(h:∀W,Fr w W N_->Calls prog 141 #[.agg #[.slice sa sn sc,.iface sT sx,.slice ra rn rc,.iface rT rx],.agg #[.iface aT ax,.iface bT bx],.iface dT dx] W (λe w'=>∃v ev,e=.returned (.tuple #[v,ev])/\R (.returned (.tuple #[v,ev])) w')):Calls prog 85 #[.agg #[.slice sa sn sc,.iface sT sx,.slice ra rn rc,.iface rT rx],.iface 282 (.agg #[.iface aT ax,.iface bT bx]),.iface dT dx] w R:=by
 have cc2:=Nat
 exact cq12_
def uC{p q:Int}{va:Am}{vn vc:Nat}{a b:Am}(h:∀W,Fr w W N_->Calls prog 142 #[.agg #[Z_ p,.slice ua un uc,.pointer a,Z_ q,.slice va vn vc,.pointer b],.iface dT dx] W (λe w'=>∃v ev,e=.returned (.tuple #[v,ev])/\R (.returned (.tuple #[v,ev])) w')):Calls prog 85 #[.agg #[.slice sa sn sc,.iface sT sx,.slice ra rn rc,.iface rT rx],.iface 285 (.agg #[Z_ p,.slice ua un uc,.pointer a,Z_ q,.slice va vn vc,.pointer b]),.iface dT dx] w R:=by
 exact cq12_
def cV{p q:Int}{va:Am}{vn vc:Nat}(h:∀W,Fr w W N_->Calls prog 143 #[.agg #[.slice sa sn sc,.iface sT sx,.slice ra rn rc,.iface rT rx],.agg #[Z_ p,.slice ua un uc,Z_ q,.slice va vn vc],.iface dT dx] W (λe w'=>∃v ev,e=.returned (.tuple #[v,ev])/\R (.returned (.tuple #[v,ev])) w')):Calls prog 85 #[.agg #[.slice sa sn sc,.iface sT sx,.slice ra rn rc,.iface rT rx],.iface 288 (.agg #[Z_ p,.slice ua un uc,Z_ q,.slice va vn vc]),.iface dT dx] w R:=by
 have cc1:=Nat
 exact cq12_
def mG:Calls prog 85 #[.agg #[.slice sa sn sc,.iface sT sx,.slice ra rn rc,.iface rT rx],.iface 275 (.agg #[]),.iface dT dx] w λe w'=>e=.returned (.tuple #[.iface dT dx,.nilIface])/\Fr w w' N_:=by
 refine hq_ λb k=>?_;have f:=zy (λo=>(A_ w N_).alloc o);have g:=zy (λo b=>((A_ w N_).alloc o).alloc b);have h:=zy (λo b d=>(((A_ w N_).alloc o).alloc b).alloc d);have j:=zy (λo b d l=>((((A_ w N_).alloc o).alloc b).alloc d).alloc l);go_in;go_wp2;try go_ret
 rw[k.o];refine⟨rfl,?_⟩
 (first|exact f.o _|exact g.o _ _|exact h.o _ _ _|exact j.o _ _ _ _|exact A_ _ _)
def mY{nt:Av}{nx:Ax}(f:vN 6 w nt nx):Calls prog 85 #[.agg #[.slice sa sn sc,.iface sT sx,.slice ra rn rc,.iface rT rx],.iface 307 (.agg #[]),.iface dT dx] w λe w'=>e=.returned (.tuple #[.nilIface,.iface nt nx])/\Fr w w' N_:=by
 refine hq_ λd d=>?_;have b:=zy (λo=>(A_ w N_).alloc o);have g:=f.fr ((A_ w N_).alloc (.cells #[.slice sa sn sc,.iface sT sx,.slice ra rn rc,.iface rT rx] 83)) id;unfold vN at g;go_in;go_wp2;go_quiet (fail);go_wp2;try go_ret
 rw[d.o];exact⟨rfl,(b.o _).si (zq.drewN _ _)⟩
end
def stp(s:BA)(j:Nat):Prop:=¬(48<=bt s j/\bt s j<=57)
def XE(env:Au):Prop:=∀c l o,env c=some (.enum l o)->(l.map Prod.fst).Nodup/\∀x∈l.map Prod.fst,97<=x/\x<=122
def Rds(env:Au)(x:DT):Prop:=∀t,Dat env x t->∀(s:BA) (i f:Nat),At s i (txT env x t)->stp s (i+(txT env x t).size)->(txT env x t).size<f->rdT s env false f t i=some (x,i+(txT env x t).size)/\bt s i≠93
def Sh(x:DT):Prop:=(∀env t,(txT env x t).size+1<=13*ndT x)/\(byT x).size+1<=13*ndT x/\∀env,XE env->Rds env x
def At.hd{s b:BA}(hc:c<256)(h:At s i (bts [c]++b)):bt s i=c/\At s (i+1) b:=by
 obtain⟨h1,d⟩:=At.app.1 h;rw[yP]at d;exact⟨((At.one hc).1 h1).2,d⟩
def bt1{s:BA}(hc:c<256)(h:At s i (bts [c])):bt s i=c:=((At.one hc).1 h).2
def ay(d:q<=300):∃l,qi (q:Int)=bts l/\(∀c∈l,48<=c/\c<=57)/\(l=[48+q]\/10<=q/\l=[48+q / 10,48+q % 10]/\q / 10<10\/100<=q/\l=[48+q / 10 / 10,48+q / 10 % 10,48+q % 10]):=by
 by_cases h1:q<10
 .exact⟨_,YI h1,by simp;omega,.inl rfl⟩
 .by_cases b:q / 10<10
  .exact⟨_,by rw[WL h1,YI b,<- rW];rfl,by simp;omega,.inr (.inl ⟨M_,rfl,b⟩)⟩
  .exact⟨_,by rw[WL h1,WL b,YI M_,<- rW,<- rW];rfl,by simp;omega,.inr (.inr ⟨M_,rfl⟩)⟩
def Vy{s:BA}(f:q<=300)(g:At s i (qi (q:Int)))(d:bt s (i+(qi (q:Int)).size)=58):yY s i=i+(qi (q:Int)).size/\yY s i≠i/\¬(bt s i=48/\yY s i-i > 1)/\wV s i (yY s i-i)=q:=by
 obtain⟨l,e,h,hl⟩:=ay f;rw[e,yP]at d;rw[e]at g⊢;rw[yP];have b:∀{i c},i<s.size->bt s i=c->48<=c/\c<=57->zt 48 57 s i=zt 48 57 s (i+1):=λh1 d d=>kX h1 M_;have off:zt 48 57 s (i+l.length)=i+l.length:=vO M_;unfold yY;rcases hl with rfl|⟨h0,rfl,_⟩|⟨h0,rfl⟩
 .have h1:=h _ (bo_ ..);obtain⟨d,f,_⟩:=(At.cons M_).1 g;simp only[au_,av_,be_]at off⊢;rw[b d f h1,off,show min (i+1) (i+3)=i+1 by omega,b7_];simp only[wV];refine⟨trivial,M_,M_,by simp only[bp_];omega⟩
 .obtain⟨d,f,j⟩:=(At.cons M_).1 g;obtain⟨b1,b2,_⟩:=(At.cons M_).1 j;simp only[au_,av_,be_]at off⊢;rw[b d f M_,b b1 b2 M_,off,show min (i+2) (i+3)=i+2 by omega,b7_];simp only[wV];refine⟨trivial,M_,M_,by simp only[bp_];omega⟩
 .obtain⟨d,f,j⟩:=(At.cons M_).1 g;obtain⟨b1,b2,b3⟩:=(At.cons M_).1 j;obtain⟨c1,c2,_⟩:=(At.cons M_).1 b3;simp only[au_,av_,be_]at off⊢;rw[b d f M_,b b1 b2 M_,b c1 c2 M_,off,Nat.min_self,b7_];replace c2:bt s (i+2)=_:=c2;simp only[wV];refine⟨trivial,M_,M_,by simp only[bp_];omega⟩
def sN{s:BA}{kd:Nat}(hk:kd=105\/kd=108)(b:At s i (bts [48]))(hs:stp s (i+1)):vp s kd i=some (0,i+1):=by
 obtain⟨h1,d⟩:=(At.one D_).1 b;have hn:zI s i=i+1:=by unfold zI sgn;rw[n_ M_,kX h1 M_,vO hs]
 have f:zM s i=bts [48]:=by unfold zM;rw[hn,show sgn s i=i by unfold sgn;rw[n_ M_]];exact(At.ext M_ h1).eq b (by rw[a6_,yP];simp;omega)
 have hg:xm s i=false:=by unfold xm;rw[d];rfl
 unfold vp;rw[f,hg,hn];rcases hk with rfl|rfl
 .have h:decide (qI 105 false (bts [48]))=true:=K_;have b:lC false (bts [48]) (bts [48]).size=0:=K_;rw[i_ (of_decide_eq_true h),b]
 .have h:decide (qI 108 false (bts [48]))=true:=K_;have b:lC false (bts [48]) (bts [48]).size=0:=K_;rw[i_ (of_decide_eq_true h),b]
def sM{s x:BA}(hc:¬(97<=c/\c<=122))(f:c<256)(hx:cF x)(h:At s i (x++bts [c])):zo s i=i+x.size/\s.extract i (i+x.size)=x/\bt s (i+x.size)=c:=by
 obtain⟨b,d⟩:=At.app.1 h;have b3:=bt1 f d;exact⟨by rw[Yc b hx];exact vO M_,(At.ext M_ b.1).eq b (by rw[a6_];have:=b.1;omega),b3⟩
def Vz{L:Ao}(b:L.Nodup){x:Nat}(hx:L[q]?=some x):L.findIdx? (λc=>c==x)=some q:=by
 obtain⟨d,rfl⟩:=ak_.1 hx;rw[List.findIdx?_eq_some_iff_getElem];refine⟨d,by simp,λj d=>?_⟩;simp only[beq_iff_eq];intro e;have:=(List.getElem_inj b).1 e;omega
def Sh.leaf{k:Nat}{n:Int}{tx:BA}(h:k=110\/k=116\/((k=105\/k=108)/\n=0)\/(k=115/\tx.size=0)\/k=102\/k=101\/k=91\/k=123)(L:tx.size<=9):Sh (.mk k n tx [] []):=by
 have w1:=xo n;have I:=xo (0:Int);have J:=xo (tx.size:Int);have d1:qi 0=bts [48]:=YI (u:=0) D_;have d0:(qi 0).size=1:=by rw[d1,yP];rfl
 refine⟨λenv t=>?_,?_,λenv H t hd s i f b hs K=>?_⟩
 .rcases h with rfl|rfl|⟨rfl|rfl,rfl⟩|⟨rfl,_⟩|rfl|rfl|rfl|rfl;all_goals
   simp[txT,ky,yU,jn,ah_,yP,KD,ndT,za,d0]
  all_goals first|omega|(split<;>simp[yP])
 .rcases h with rfl|rfl|⟨rfl|rfl,rfl⟩|⟨rfl,_⟩|rfl|rfl|rfl|rfl;all_goals
   simp[byT,yS,ah_,yP,KD,ndT,za]
  all_goals omega
 .obtain⟨f,rfl⟩:∃g,f=g+1:=⟨f-1,M_⟩;unfold rdT;cases hd with
  |null=>
   simp only[txT,if_true]at b⊢;have:=bt1 D_ b;rw[xz,i_ rfl,i_ this,yP];exact⟨rfl,M_⟩
  |bool hb=>
   rename_i p q;simp only[txT,show ¬((116:Nat)=110) by decide,if_false,if_true]at b⊢;rw[xz,n_ D_,i_ rfl];obtain rfl|rfl:q=1\/q=0:=M_
   .have:=bt1 D_ b;rw[i_ this];exact⟨by simp[yP],M_⟩
   .have:=bt1 D_ b;rw[n_ M_,i_ this];exact⟨by simp[yP],M_⟩
  |num h0 h1=>
   simp at h;subst h;simp[txT,d1]at b hs⊢;rw[yP]at hs⊢;rw[xz,n_ D_,n_ D_,i_ (.inl rfl),sN (.inl rfl) b hs];exact⟨rfl,o1_ (bt1 D_ b)⟩
  |long h0 h1=>
   simp at h;subst h;simp[txT,d1]at b hs⊢;rw[yP]at hs⊢;rw[xz,n_ D_,n_ D_,i_ (.inr rfl),sN (.inr rfl) b hs];exact⟨rfl,o1_ (bt1 D_ b)⟩
  |text hx h1=>
   simp[txT]at b⊢;obtain⟨b1,d⟩:=At.hd D_ b;obtain⟨m,r,z⟩:=sM D_ D_ hx d;rw[xz,n_ D_,n_ D_,n_ D_,i_ rfl,m,i_ ⟨b1,z⟩,r];simp[ah_,yP];omega
  |bytes he hb hx=>
   obtain⟨b1,b2,b3,D,j⟩:=xg hb;simp[txT]at b⊢;obtain⟨c1,d⟩:=At.hd D_ b;obtain⟨m,r,z⟩:=sM D_ D_ hx d;rw[xz,n_ b1,n_ b2,n_ M_,n_ j,he];simp only[yv];rw[m,i_ ⟨c1,M_,z⟩,r];simp[ah_,yP];omega
  |sym he hb hn=>
   rename_i c p q l o;obtain⟨b1,b2,b3,D,j⟩:=xg hb;obtain⟨G,E⟩:=H c l o he;have B:q<(l.map Prod.fst).length:=by simpa using hn
   have hx:=aj_ B;have F:=E _ (bi_ B);rw[txT]at b⊢;simp only[bt_,fU,he,as_,hx]at b⊢;simp at b⊢;simp at F;obtain⟨C,d⟩:=(At.one M_).1 b;rw[xz,n_ b1,n_ b2,n_ M_,n_ j,he];simp only[yv];rw[i_ C,d,Vz G (by rw[hx];simp),yP];exact⟨rfl,M_⟩
  |recd=>simp at h
  |list hl h=>
   simp[txT,ky,yU,jn,jH]at b⊢;obtain⟨c1,d⟩:=At.hd D_ b;have c3:=bt1 D_ d;rw[xH,i_ c1,jQ,show xw 91=93 from rfl,i_ c3];simp[ah_,yP];omega
  |map hl hk hr h=>
   simp[txT,ky,yU,jn,jH]at b⊢;obtain⟨c1,d⟩:=At.hd D_ b;have c3:=bt1 D_ d;rw[xH,i_ c1,jQ,show xw 123=125 from rfl,i_ c3];simp[ah_,yP];omega
def Sh.branch{x:DT}(h:Sh x)(hi:i<=300):Sh (.mk 40 (i:Int) noB [] [x]):=by
 refine⟨λenv t=>?_,?_,λenv I t hd s j f b hs d=>?_⟩
 .have h1:=h.1 env (yg env t i 0);obtain⟨l,e,_,hl⟩:=ay hi;have H:(qi (i:Int)).size<=3:=by rw[e,yP];rcases hl with rfl|⟨_,rfl,_⟩|⟨_,rfl⟩<;>simp
  simp[txT,yU,jn,ah_,yP,KD,ndT,za];omega
 .have h1:=h.2.1;have H:=xo (i:Int);simp[byT,yS,ah_,KD,ndT,za];omega
 .obtain⟨f,rfl⟩:∃g,f=g+1:=⟨f-1,M_⟩;generalize hx:(i:Int)=n at hd;cases hd with
  |alts hn hl hd=>
   rename_i q p l u;obtain rfl:i=q:=M_;have e:txT env (.mk 40 (i:Int) noB [] [x]) (.alts p l)=bts [60]++(qi i++(bts [58]++(txT env x u++bts [62]))):=by
    have:yg env (.alts p l) i 0=u:=by simp only[yg,as_,hl];rfl
    simp[txT,yU,jn,jH,wn,this]
   rw[<- hx]at b hs d⊢;rw[e]at b d⊢;simp only[ah_,yP,ao_]at d;obtain⟨c1,r⟩:=At.hd D_ b;obtain⟨m,z⟩:=At.app.1 r;obtain⟨c3,C⟩:=At.hd D_ z;obtain⟨B,D⟩:=At.app.1 C;have c5:=bt1 D_ D;obtain⟨k,E,F,G⟩:=Vy hi m c3;have hd:=(h.2.2 env I u hd s _ f B zf_ M_).1;unfold rdT yQ;rw[n_ D_,i_ ⟨c1,E,F,by rw[k];exact c3⟩,G,hl];simp only;rw[k,hd];simp only;rw[i_ c5];simp only[ah_,yP,af_,ad_,true_and,ao_];omega
def cW(env:Au)(t:PT)(n:Nat)(ks:Dq):∀(ds:List DT) (i j:Nat),(∀d∈ds,Sh d)->(jn j (yU env t n i false ks ds)).size<=13*za ds
 | [],_,_,_=>by simp[yU,jn,KD]
 |d::r,i,j,h=>by
  have h1:=(h d bo_).1 env (yg env t n i);have b:=cW env t n ks.tail r (i+1) (j+1) (λe he=>h e (cf_ _ he));have b:(if j=0 then noB else bts [44]:BA).size<=1:=by split<;>simp[KD,yP]
  simp only[yU,jn,za,ah_,a1_,if_false,KD];omega
def cG:∀(ks:List BA) (ds:List DT),(∀d∈ds,Sh d)->(yS false ks ds).size<=13*za ds
 | _,[],_=>by simp[yS,KD]
 |ks,d::r,h=>by
  have h1:=(h d bo_).2.1;have b:=cG ks.tail r (λe he=>h e (cf_ _ he));simp only[yS,za,ah_,a1_,if_false,KD];omega
def rN{s:BA}{p f:Nat}{T:Af}(n:∀q,yg env (.leaf c p) 0 q=T.getD q (.leaf 0 0)):∀(ds:List DT) (q i j:Nat) (ks:List BA),q+ds.length=T.length->(∀(k:Nat) (e:DT) (u:PT),ds[k]?=some e->T[q+k]?=some u->Dat env e u/\Rds env e)->
 At s i (jn j (yU env (.leaf c p) 0 q false ks ds))->stp s (i+(jn j (yU env (.leaf c p) 0 q false ks ds)).size)->(jn j (yU env (.leaf c p) 0 q false ks ds)).size<f->
 zQ (rdT s env false f) s (j==0) (T.drop q) i=some (ds,i+(jn j (yU env (.leaf c p) 0 q false ks ds)).size)
 | [],q,i,j,ks,hl,hR,hA,hs,hF=>by
  rw[b0_ (by simp at hl;omega)];simp[zQ,yU,jn,KD]
 |d::ds,q,i,j,ks,hl,hR,hA,hs,hF=>by
  have z:q<T.length:=by simp at hl;omega
  have hu:T[q]?=some T[q]:=aj_ z;obtain⟨hd,hr⟩:=hR 0 d T[q] rfl hu;have b:yg env (.leaf c p) 0 q=T[q]:=by rw[n,as_,hu];rfl
  rw[yU,jn,b]at hA hs hF⊢;simp only[a1_,if_false,jH,ah_]at hA hs hF⊢;obtain⟨l,g⟩:=At.app.1 hA;obtain⟨B,b⟩:=At.app.1 g;have m:∀g,g=i+(if j=0 then noB else bts [44]:BA).size->rdT s env false f T[q] g=some (d,g+(txT env d T[q]).size)/\zQ (rdT s env false f) s false (T.drop (q+1)) (g+(txT env d T[q]).size)=some (ds,g+(txT env d T[q]).size+(jn (j+1) (yU env (.leaf c p) 0 (q+1) false ks.tail ds)).size):=by
   rintro g rfl;refine⟨(hr _ hd s _ f B ?_ M_).1,rN n ds (q+1) _ (j+1) ks.tail (by simp at hl;omega) (λk e u he g=>hR (k+1) e u (by simpa using he) (by rw[show q+(k+1)=q+1+k by omega];exact g)) b (by simpa only[bd_] using hs) M_⟩;cases ds with
   |nil=>simp only[yU,jn,KD,bp_,<- bd_]at hs;exact hs
   |cons e r=>
    rw[yU,jn]at b;replace b:=(At.app.1 b).1;rw[n_ (show ¬j+1=0 by omega)]at b;have:=bt1 D_ b;unfold stp;omega
  rw[bs_ z];unfold zQ;by_cases h:j=0
  .subst h;obtain⟨b,g⟩:=m i (by simp[KD]);rw[i_ xo_,b];simp only;rw[g];simp[KD,bd_]
  .rw[n_ h]at l;obtain⟨b,g⟩:=m (i+1) (by rw[n_ h,yP];rfl);rw[n_ (by simpa using h),i_ (bt1 D_ l),b];simp only;rw[g];simp[h,yP,bd_]
def Sh.recd{ds:Ae}(h:∀d∈ds,Sh d):Sh (.mk 114 0 noB [] ds):=by
 refine⟨λenv t=>?_,?_,λenv z t hd s i f b hs j=>?_⟩
 .have h1:=cW env t 0 [] ds 0 0 h;simp[txT,ky,ah_,yP,ndT];omega
 .have h1:=cG [] ds h;simp[byT,ah_,KD,ndT];omega
 .obtain⟨f,rfl⟩:∃g,f=g+1:=⟨f-1,M_⟩;cases hd with
  |recd he hb hl hd=>
   rename_i c p fs;obtain⟨b1,b2,b3,B,r⟩:=xg hb;have e:txT env (.mk 114 0 noB [] ds) (.leaf c p)=bts [40]++(jn 0 (yU env (.leaf c p) 0 0 false [] ds)++bts [41]):=by simp[txT,ky]
   rw[e]at b j⊢;simp only[ah_,yP,ao_]at j;obtain⟨c1,m⟩:=At.hd D_ b;obtain⟨l,n⟩:=At.app.1 m;have c3:=bt1 D_ n;have hf:=rN (s:=s) (f:=f) (T:=fs.map PF.ty) (λq=>by simp only[yg,he]) ds 0 (i+1) 0 [] yv_ (λk x u hx hu=>⟨hd k x u hx (by rwa[be_]at hu),(h x (ai_ hx)).2.2 env z⟩) l zf_ M_;rw[List.drop_zero]at hf;unfold rdT xz;rw[n_ b1,n_ b2,n_ M_,n_ r,he];simp only[yv];rw[i_ c1,show zQ _ s true _ _=_ from hf];simp only;rw[i_ c3];simp only[ah_,yP,af_,ad_,true_and,ao_];omega
def Sh.one{x:DT}(h:Sh x):Sh (.mk 91 0 noB [] [x]):=by
 refine⟨λenv t=>?_,?_,λenv n t hd s i f b hs j=>?_⟩
 .have h1:=cW env t 0 [] [x] 0 0 (λd hd=>by rw[a2_]at hd;exact hd▸h);simp[txT,ky,ah_,yP,ndT]at h1⊢;omega
 .have h1:=cG [] [x] (λd hd=>by rw[a2_]at hd;exact hd▸h);have z:=xo (1:Int);simp[byT,ah_,ndT]at h1⊢;omega
 .obtain⟨f,rfl⟩:∃g,f=g+1:=⟨f-1,M_⟩;cases hd with
  |list hl hd=>
   rename_i p u;have e:txT env (.mk 91 0 noB [] [x]) (.wrap 91 p u)=bts [91]++(txT env x u++bts [93]):=by simp[txT,ky,yU,jn,jH,wn,yg]
   rw[e]at b j⊢;simp only[ah_,yP,ao_]at j;obtain⟨c1,l⟩:=At.hd D_ b;obtain⟨k,m⟩:=At.app.1 l;have c3:=bt1 D_ m;obtain⟨r1,r⟩:=h.2.2 env n u (hd x (bo_ ..)) s (i+1) f k zf_ M_;unfold rdT xH;rw[i_ c1,jQ,show xw 91=93 from rfl,n_ r,show((91:Nat)==123)=false from rfl];simp only[yc,kJ,a1_,if_false];rw[r1];simp only;rw[i_ c3];simp[ah_,yP];omega
def Sh.entry{x:DT}(h:Sh x):Sh (.mk 123 0 noB [⟨#[97]⟩] [x]):=by
 have m:(⟨#[97]⟩:BA).size=1:=rfl;refine⟨λenv t=>?_,?_,λenv D t hd s i f k hs l=>?_⟩
 .have h1:=h.1 env (yg env t 0 0);simp[txT,yU,jn,ky,ah_,yP,KD,ndT,za,m];omega
 .have h1:=h.2.1;have C:(zH 1).size=1:=K_;simp[byT,yS,ah_,KD,ndT,za,m,C];omega
 .obtain⟨f,rfl⟩:∃g,f=g+1:=⟨f-1,M_⟩;cases hd with
  |map hl hk hr hd=>
   rename_i p u;have e:txT env (.mk 123 0 noB [⟨#[97]⟩] [x]) (.wrap 123 p u)=bts [123]++(bts [97]++(bts [58]++(txT env x u++bts [125]))):=by
    simp[txT,ky,yU,jn,jH,wn,yg,bj_];rfl
   rw[e]at k l⊢;simp only[ah_,yP,ao_]at l;obtain⟨c1,b⟩:=At.hd D_ k;obtain⟨c2,n⟩:=At.hd D_ b;obtain⟨c3,z⟩:=At.hd D_ n;obtain⟨r,B⟩:=At.app.1 z;have c5:=bt1 D_ B;obtain⟨d,j,E⟩:=sM (x:=bts [97]) (c:=58) (s:=s) (i:=i+1) D_ D_ hr.2.1 (by
    have:=(At.app (a:=bts [97]++bts [58])).1 (bj_▸b)
    exact this.1)
   rw[yP,ao_]at d j;have r1:=(h.2.2 env D u (hd x (bo_ ..)) s _ f r zf_ M_).1;unfold rdT xH;rw[i_ c1,jQ,show xw 123=125 from rfl,n_ M_,show((123:Nat)==123)=true from rfl];simp only[yc,kJ,if_true];rw[d,j,i_ ⟨c3,hr.1⟩];simp only;rw[r1];simp only;rw[i_ c5];simp[ah_,yP];exact⟨⟨rfl,M_⟩,M_⟩
def Sh.size{x:DT}(h:Sh x)(hn:ndT x<=300)(env:Au)(t:PT):(txT env x t).size<=4000/\(byT x).size<=4000:=by
 have h1:=h.1 env t;have b:=h.2.1;omega
def Sh.read{x:DT}(h:Sh x)(b:XE env)(hd:Dat env x t):ym env false t (txT env x t)=some x:=by
 have hr:=(h.2.2 env b t hd (txT env x t) 0 (2*(txT env x t).size+2) ⟨M_,λk _=>by rw[be_]⟩ (by unfold stp;rw[be_,wh l_];omega) M_).1;unfold ym;rw[hr,be_];exact i_ rfl
def tm:∀(l:List (Nat×Nat)) (f:List Nat),qg f l=[]->(∀x∈l.map Prod.fst,x∉f)/\(l.map Prod.fst).Nodup
 | [],_,_=>⟨λx hx=>(by cases hx),List.nodup_nil⟩
 |q::r,f,h=>by
  rw[qg,ch_]at h;obtain⟨h1,g⟩:=h;have j:q.1∉f:=λd=>by rw[i_ d]at h1;cases h1
  obtain⟨a,b⟩:=tm r _ g;rw[a0_];refine⟨λx hx=>?_,List.nodup_cons.2 ⟨λd=>?_,b⟩⟩
  .rcases aq_.1 hx with rfl|hx
   .exact j
   .exact λd=>a x hx (b3_ _ d)
  .exact a _ d (b8_ _ (a2_.2 rfl))
def tc(env:Au):∀(ds:List PD) (b:List Nat),ke env b ds=[]->∀d∈ds,qc env d.body=[]
 | [],_,_,d,hd=>by cases hd
 |x::r,b,h,d,hd=>by
  rw[ke,ch_,ch_]at h;rcases aq_.1 hd with rfl|hd
  .exact h.2.1
  .exact tc env r _ h.2.2 d hd
def iC{s:BA}{ds:Ar}(h0:(zu s).1=0)(hp:ze s=.ok (ds,t)):s.size<=300/\xL ds t=[]/\vz ds t=[]:=by
 have hs:s.size<=300:=by
  by_cases h:300<s.size
  .unfold zu at h0;rw[i_ h]at h0;exact absurd h0 D_
  .omega
 rw[qK hs hp]at h0;refine⟨hs,?_⟩;split at h0
 .simp at h0
 .simp at h0
 .simp at h0
 .rename_i h1 b _;exact⟨h1,b⟩
def Xq{s:BA}{ds:Ar}(h0:(zu s).1=0)(hp:ze s=.ok (ds,t)):XE (zx ds)/\okT (zx ds) t/\qW (zx ds):=by
 obtain⟨hs,hn,hu⟩:=iC h0 hp;obtain⟨g,_,_,f4,f5⟩:=vZ hs hp hn hu;refine⟨λc l o e=>?_,f4,f5⟩;unfold xL at hn;rw[ch_]at hn;have j:=g.sm c l o e;have e':=e;unfold zx at e';obtain⟨⟨pb,b⟩,hl,f⟩:=cl_.1 e';simp only at f;subst f;obtain⟨d,hd,hb⟩:=gh hl;have f:=tc _ ds [] hn.1 d hd;rw[hb]at f;unfold qc at f;rw[ch_]at f;refine⟨(tm l [] f.1).2,λx hx=>?_⟩;obtain⟨q,h,rfl⟩:=a7_.1 hx;have:=j q h;simp[zl]at this;exact this
def Kit(A:Bb)(w:Aw):Prop:=xl A w/\yM w/\yH w/\xe w/\jZ w
def Kit.fr{A:Bb}{w:Aw}(h:Kit A w)(hf:Fr w w' N_):Kit A w':=by
 obtain⟨S,j,k,hP,f⟩:=h;have hz:=hf.size;have d:∀W,yu w' W->yu w W:=λW b g hg=>(b g M_).trans (hf.block g hg id);exact⟨S.fr hf,λW b=>j W (d W b),λW b=>k W (d W b),λW b=>hP W (d W b),λW B h0 hB b=>f W B M_ hB (d W b)⟩
def KN:noB=⟨#[]⟩:=rfl
def xD(er:Au)(s:BA)(g:PF):Option DT:=
 match g.dflt with
 |none=>none
 |some (a,e)=>ym er true g.ty (s.extract a e)
def tP{s:BA}(h0:(zu s).1=0):s.size<=300/\∃ds t,ze s=.ok (ds,t):=by
 unfold zu at h0;split at h0
 .simp at h0
 .rename_i hs;refine⟨M_,?_⟩;cases hp:ze s with
  |error k=>rw[hp]at h0;simp at h0
  |ok r=>exact⟨r.1,r.2,rfl⟩
def jk.frS{E:cB}{w:Aw}{b:Ax}{a:Int×Int}{S:Az}(h:jk E w lo b a)(hf:Fr w w' S)(d:∀g,lo<=g->¬S g):jk E w' lo b a:=by
 rcases h with h|h|⟨h1,b⟩|⟨h1,b⟩|⟨h1,b⟩|⟨h1,f,b,j⟩
 .exact .inl h
 .exact .inr (.inl h)
 .exact .inr (.inr (.inl ⟨h1,b.fr hf d⟩))
 .exact .inr (.inr (.inr (.inl ⟨h1,b.fr hf d⟩)))
 .exact .inr (.inr (.inr (.inr (.inl ⟨h1,b.fr hf d⟩))))
 .exact .inr (.inr (.inr (.inr (.inr ⟨h1,f,b.fr hf d,j.fr hf d⟩))))
def wi.frS{w:Aw}{s:BA}{sv:Ax}{S:Az}(h:wi lo w s sv rv)(hf:Fr w w' S)(b:∀g,lo<=g->¬S g):wi lo w' s sv rv:=by
 obtain⟨ds,t,xs,hs,hp,hn,hu,D,T,F⟩:=h;have hz:=hf.size;exact⟨ds,t,xs,hs,hp,hn,hu,(D.fr hf (λg hg=>b g hg.1)).mono (λg _ hg=>⟨hg.1,M_⟩),(T.fr hf (λg hg=>b g hg.1)).mono (λg _ hg=>⟨hg.1,M_⟩),(F.fr D hf (λg hg=>b g hg.1) b).mono l_ (λg hg=>⟨hg.1,M_⟩)⟩
def wi.ls{b:Nat}{w:Aw}{s:BA}{sv:Ax}(h:wi lo w s sv rv)(hl:b<=lo):wi b w s sv rv:=by
 obtain⟨ds,t,xs,hs,hp,hn,hu,D,T,F⟩:=h;exact⟨ds,t,xs,hs,hp,hn,hu,D.mono (λg _ hg=>⟨M_,hg.2⟩),T.mono (λg _ hg=>⟨M_,hg.2⟩),F.mono hl (λg hg=>⟨M_,hg.2⟩)⟩
def wi.forms{w:Aw}{s:BA}{sv:Ax}(h:wi lo w s sv rv):∃sa sn sc rT rx,sv=.slice sa sn sc/\rv=.iface rT rx:=by
 obtain⟨ds,t,xs,hs,hp,hn,hu,D,T,F⟩:=h;obtain⟨sa,sc,rfl⟩:=zw D.row;obtain⟨rT,rx,rfl⟩:=T.iface;exact⟨_,_,_,_,_,rfl,rfl⟩
def pQ(w:Aw)(sw sr:BA)(e:Ak)(w':Aw):Prop:=
 ∃sv rv sv' rv' ev,e=.returned (.tuple #[.agg #[sv,rv],.agg #[sv',rv'],ev])/\Fr w w' N_/\
  (((zu sw).1=0/\(zu sr).1=0/\ev=.nilIface/\wi w.heap.size w' sw sv rv/\wi w.heap.size w' sr sv' rv')\/
   (¬((zu sw).1=0/\(zu sr).1=0)/\sv=L_/\rv=.nilIface/\sv'=L_/\rv'=.nilIface/\(∃T x,ev=.iface T x)/\wQ w' ev (if (zu sw).1=0 then (zu sr).1 else (zu sw).1)))
def st2{w:Aw}{n m:Nat}{u0 h d f b:Ax}{T T':Av}(B:Blk w n [u0,h] T)(h:Blk w m [d,f] T')(j:m≠n):Blk ((w.setCell ⟨n,0,none⟩ a).setCell ⟨n,1,none⟩ b) n [a,b] T/\Blk ((w.setCell ⟨n,0,none⟩ a).setCell ⟨n,1,none⟩ b) m [d,f] T'/\Fr w ((w.setCell ⟨n,0,none⟩ a).setCell ⟨n,1,none⟩ b) (λg=>g=n):=
 ⟨W_ B a b,(Fr.pa w n a b).bl h (λe=>j e),Fr.pa w n a b⟩
section
variable {A:Bb} {w:Aw} {sw sr:BA}
def qB(S:xl A w)(h:yM w)(k:yH w)(j:xe w)(s:BA):∀W,Fr w W N_->Calls prog 23 #[.string s] W (ec W s (ki A)):=λW d=>by
 have hz:=d.size;have f:∀V,yu W V->yu w V:=λV b g hg=>(b g M_).trans (d.block g hg id);exact XG (S.fr d).errs (λV b=>h V (f V b)) (λV b=>k V (f V b)) (iu (λV b=>j V (f V b)))
def pd(w:Aw):∃b,b=(w.alloc (.cells #[L_,.nilIface] 48)).alloc (.cells #[L_,.nilIface] 48)/\Fr w b N_/\b.heap.size=w.heap.size+2/\Blk b w.heap.size [L_,.nilIface] 48/\Blk b (w.heap.size+1) [L_,.nilIface] 48:=by
 refine⟨_,rfl,((A_ w N_).alloc _).alloc _,by rw[zm,zm],(B_ w #[L_,.nilIface] 48).alloc _,?_⟩;have h:=B_ (w.alloc (.cells #[L_,.nilIface] 48)) #[L_,.nilIface] 48;rw[zm]at h;exact h
def cwZY1_{p:Prop}(h:p:=by
 (first|(have:=cc1;have s1:=st2 (a:=.slice sa sn sc) (b:=.iface rT rx) hbb.o.1 hbb.o.2 M_)|(have s1:=st2 (a:=.slice sa sn sc) (b:=.nilIface) hbb.o.1 hbb.o.2 M_));have s2:=st2 (a:=L_) (b:=.nilIface) s1.1 s1.2.1 M_;have s3:=st2 (a:=L_) (b:=.nilIface) s2.2.1 s2.1 M_;have q0:=s3.2.1.c0;have q1:=s3.2.1.c1;have q2:=s3.1.c0;have q3:=s3.1.c1;refine bodyPost_ret (v:=.tuple #[.agg #[L_,.nilIface],.agg #[L_,.nilIface],.iface T x]) xq_ rfl ?_;rw[Q_.o];have F3:Fr w1 _ (λg=>g=w.heap.size\/g=w.heap.size+1):=((s1.2.2.mono (λ_ _ e=>.inl e)).trans s2.2.2 (λ_ _ e=>.inl e)).trans s3.2.2 (λ_ _ e=>.inr e);have F4:=(Fz.o.trans hf1.o u_).trans F3 (λx hx e=>M_);refine⟨_,_,_,_,_,rfl,F4,.inr ⟨λh=>h0.o h.1,rfl,rfl,rfl,rfl,⟨_,_,rfl⟩,?_⟩⟩;rw[n_ h0.o];exact(hEr.o.frS F3 (λg hg e=>by have:=hz2.o;omega)).numIs (S.o.fr F4) h0.o):p:=h
def ZY(S:xl A w)(j:yM w)(l:yH w)(k:xe w)(h0:(zu sw).1≠0):Calls prog 15 #[.string sw,.string sr] w (pQ w sw sr):=by
 refine hq_ λb Q_=>?_;obtain⟨r,b,Fz,hz2,d,f⟩:=pd w;have m:=zy (qB S j l k sw r Fz);revert S h0 b Fz hz2 d;refine m_ λS h0 b Fz hz2 d=>?_;replace f:=zy f;clear j l k;go_in;go_wp2_with (go_at_call 23;rw[<- b.o];apply m.o.mono;rintro e w1 ⟨sv,rv,b,rfl,⟨sa,sn,sc,rfl⟩,n,hf1,hEr,-⟩;obtain⟨T,x,rfl,_⟩:=hEr.num (S.o.fr (Fz.o.trans hf1 u_)) h0;have b:=hf1.bl d id;have d:=hf1.bl f id;have f:w.heap.size<w1.heap.size:=b.lt;have f:w.heap.size+1<w1.heap.size:=d.lt;have r0:=b.c0;have r1:=b.c1;have f:=b.th 0;have f:=b.th 1;have f:=d.c0;have f:=d.c1;have f:=d.th 0;have f:=d.th 1;have hbb:=zy (And.intro b d);replace hf1:=zy hf1;replace hEr:=zy hEr;clear b d m;rcases n with rfl|⟨rT,rx,rfl⟩)
 .exact cwZY1_
 .have cc1:=Nat;exact cwZY1_
def cwZZ1_{p:Prop}(h:p:=by
 (first|(have:=cc1;have s2:=st2 (a:=.slice sa' sn' sc') (b:=.iface rT' rx') hbb.o.2 hbb.o.1 M_)|(have s2:=st2 (a:=.slice sa' sn' sc') (b:=.nilIface) hbb.o.2 hbb.o.1 M_));have s3:=st2 (a:=L_) (b:=.nilIface) s2.2.1 s2.1 M_;have s4:=st2 (a:=L_) (b:=.nilIface) s3.2.1 s3.1 M_;have q0:=s4.2.1.c0;have q1:=s4.2.1.c1;have q2:=s4.1.c0;have q3:=s4.1.c1;refine bodyPost_ret (v:=.tuple #[.agg #[L_,.nilIface],.agg #[L_,.nilIface],.iface T x]) xq_ rfl ?_;rw[Q_.o];have F3:Fr w2 _ (λg=>g=w.heap.size\/g=w.heap.size+1):=((s2.2.2.mono (λ_ _ e=>.inr e)).trans s3.2.2 (λ_ _ e=>.inl e)).trans s4.2.2 (λ_ _ e=>.inr e);have F4:=F2.o.trans F3 (λx hx e=>M_);refine⟨_,_,_,_,_,rfl,F4,.inr ⟨λh=>h1.o h.2,rfl,rfl,rfl,rfl,⟨_,_,rfl⟩,?_⟩⟩;rw[i_ h0.o];exact(hEr.o.frS F3 (λg hg e=>by have:=hlo.o;omega)).numIs (S.o.fr F4) h1.o):p:=h
def ZZ(S:xl A w)(u:yM w)(B:yH w)(z:xe w)(h0:(zu sw).1=0)(h1:(zu sr).1≠0):Calls prog 15 #[.string sw,.string sr] w (pQ w sw sr):=by
 refine hq_ λC Q_=>?_;obtain⟨V,C,k,H,n,r⟩:=pd w;have F:=zy (qB S u B z sw V k);have G:=zy (qB S u B z sr);revert S h0 h1 C k;refine k_ λS h0 h1 C k=>?_;revert H n r;refine h_ λH n r=>?_;clear u B z;go_in;go_wp2_with (first
  |(go_at_call 23;rw[<- C.o];apply F.o.mono;rintro e w1 ⟨sv,rv,I,rfl,-,-,l,hEr,E⟩;obtain⟨_,rfl⟩:=hEr.zero h0;obtain⟨sa,sn,sc,rT,rx,rfl,rfl⟩:=(E h0).forms;have d:=l.bl n id;have f:=l.bl r id;have n:w.heap.size<w1.heap.size:=d.lt;have n:w.heap.size+1<w1.heap.size:=f.lt;have r0:=d.c0;have r1:=d.c1;have J:=d.th 0;have K:=d.th 1;have O:=f.c0;have U:=f.c1;have L:=f.th 0;have M:=f.th 1;have j:=zy (st2 (a:=.slice sa sn sc) (b:=.iface rT rx) d f M_);have D:=zy (k.o.trans l u_);clear d f F l hEr E)
  |(go_at_call 23;apply(G.o _ (D.o.trans j.o.2.2 (λx hx e=>M_))).mono;rintro e w2 ⟨sv',rv',I,rfl,⟨sa',sn',sc',rfl⟩,N,m,hEr,-⟩;have hlo:=zy j.o.2.2.size;have F2:=zy ((D.o.trans j.o.2.2 (λx hx e=>M_)).trans m u_);obtain⟨T,x,rfl,_⟩:=hEr.num (S.o.fr F2) h1;have d:=m.bl j.o.1 id;have f:=m.bl j.o.2.1 id;have j:w.heap.size<w2.heap.size:=d.lt;have j:w.heap.size+1<w2.heap.size:=f.lt;have r0:=d.c0;have r1:=d.c1;have J:=d.th 0;have K:=d.th 1;have O:=f.c0;have U:=f.c1;have L:=f.th 0;have M:=f.th 1;have hbb:=zy (And.intro d f);replace hEr:=zy hEr;clear d f G m;rcases N with rfl|⟨rT',rx',rfl⟩))
 .exact cwZZ1_
 .have cc1:=Nat;exact cwZZ1_
def Zo(S:xl A w)(K:yM w)(M:yH w)(L:xe w)(h0:(zu sw).1=0)(h1:(zu sr).1=0):Calls prog 15 #[.string sw,.string sr] w (pQ w sw sr):=by
 refine hq_ λa3 Q_=>?_;obtain⟨wz,O,z,j,I,J⟩:=pd w;have hR:=zy (qB S K M L sw wz z);have a0:=zy (qB S K M L sr);revert S h0 h1 O z;refine k_ λS h0 h1 O z=>?_;revert j I J;refine h_ λj I J=>?_;clear K M L;go_in;go_wp2_with (first
  |(go_at_call 23;rw[<- O.o];apply hR.o.mono;rintro e w1 ⟨sv,rv,ev,rfl,-,-,B,m,n⟩;obtain⟨_,rfl⟩:=m.zero h0;have hX:=zy (n h0);obtain⟨sa,sn,sc,rT,rx,rfl,rfl⟩:=hX.o.forms;have d:=B.bl I id;have f:=B.bl J id;have a4:w.heap.size<w1.heap.size:=d.lt;have a5:w.heap.size+1<w1.heap.size:=f.lt;have r0:=d.c0;have r1:=d.c1;have g0:=d.th 0;have g1:=d.th 1;have r2:=f.c0;have r3:=f.c1;have g2:=f.th 0;have g3:=f.th 1;have h:=zy (st2 (a:=.slice sa sn sc) (b:=.iface rT rx) d f M_);have Y:=zy (z.o.trans B u_);clear d f hR B m n)
  |(go_at_call 23;apply(a0.o _ (Y.o.trans h.o.2.2 (λx hx e=>M_))).mono;rintro e X ⟨sv',rv',ev,rfl,-,-,r,m,n⟩;obtain⟨_,rfl⟩:=m.zero h1;have N:=zy (n h1);obtain⟨F,H,G,C,D,rfl,rfl⟩:=N.o.forms;have u:=zy h.o.2.2.size;have a2:=zy ((hX.o.frS h.o.2.2 (λg hg e=>by have:=j.o;omega)).frS r u_);have d:=r.bl h.o.1 id;have f:=r.bl h.o.2.1 id;have a6:w.heap.size<X.heap.size:=d.lt;have a7:w.heap.size+1<X.heap.size:=f.lt;have r0:=d.c0;have r1:=d.c1;have g0:=d.th 0;have g1:=d.th 1;have r2:=f.c0;have r3:=f.c1;have g2:=f.th 0;have g3:=f.th 1;have s2:=zy (st2 (a:=.slice F H G) (b:=.iface C D) f d M_);have F2:=zy ((Y.o.trans h.o.2.2 (λx hx e=>M_)).trans r u_);clear d f a0 r m n hX))
 have s3:=s2.o;obtain⟨W3,a1⟩:=e_ ((X.setCell ⟨w.heap.size+1,0,none⟩ (.slice F H G)).setCell ⟨w.heap.size+1,1,none⟩ (.iface C D));rw[<- a1]at s3⊢;obtain⟨b1,b0,f3⟩:=s3;have F3:=zy (F2.o.trans f3 (λx hx e=>M_));have Y1:=zy (a2.o.frS f3 (λg hg e=>by have:=j.o;omega));have Y2:=zy (N.o.frS f3 (λg hg e=>by have:=u.o;omega));have c0:=b0.c0;have c1:=b0.c1;have c2:=b1.c0;have c3:=b1.c1;have t0:=b0.th 0;have t1:=b0.th 1;have t2:=b1.th 0;have t3:=b1.th 1;have E:=st2 (a:=.slice sa sn sc) (b:=.iface rT rx) b0 b1 M_;have k:=st2 (a:=.slice F H G) (b:=.iface C D) E.2.1 E.1 M_;have T:=k.2.1.drew.c0;have U:=k.2.1.drew.c1;have V:=k.1.drew.c0;have q3:=k.1.drew.c1;have l:Fr W3 _ (λg=>g=w.heap.size\/g=w.heap.size+1):=((E.2.2.mono (λ_ _ e=>.inl e)).trans k.2.2 (λ_ _ e=>.inr e)).drew;revert T U V q3 l;refine k_ λT U V q3 l=>?_;replace u:=zy (show w.heap.size+2<=((w1.setCell ⟨w.heap.size,0,none⟩ (.slice sa sn sc)).setCell ⟨w.heap.size,1,none⟩ (.iface rT rx)).heap.size by have:=u.o;omega);clear b0 b1 f3 a1 s2 h r0 r1 r2 r3 g0 g1 g2 g3 E k a2 N;go_region;go_wp2;refine bodyPost_ret (v:=.tuple #[.agg #[.slice sa sn sc,.iface rT rx],.agg #[.slice F H G,.iface C D],.nilIface]) (by simp[results,results15,go_sem,T.o,U.o,V.o,q3.o]) rfl ?_;rw[Q_.o];refine⟨_,_,_,_,_,rfl,F3.o.trans l (λx hx e=>M_),.inl ⟨h0,h1,rfl,?_,?_⟩⟩
 .exact(Y1.o.frS l (λg hg e=>by have:=j.o;omega)).ls (by have:=j.o;omega)
 .exact(Y2.o.frS l (λg hg e=>by have:=u.o;omega)).ls (by have:=u.o;omega)
def pR(S:xl A w)(b:yM w)(f:yH w)(d:xe w):Calls prog 15 #[.string sw,.string sr] w (pQ w sw sr):=by
 by_cases h0:(zu sw).1=0
 .by_cases h1:(zu sr).1=0
  .exact Zo S b f d h0 h1
  .exact ZZ S b f d h0 h1
 .exact ZY S b f d h0
end
def DfM(k0:Nat)(Q:Az)(W:Aw)(s:BA)(ds:Ar)(xs:Ay):Prop:=
 ∃blk,pJ (sf blk) W ds xs/\Zp Q ds blk/\∀f∈zk ds,∀a e,f.dflt=some (a,e)->∃x d,ym (zx ds) true f.ty (s.extract a e)=some d/\Blk W (blk a) [I_ a,.string (s.extract a e),x] 198/\DaV (zx ds) W (λg=>g<k0) d f.ty x
def DfM.fr{k0:Nat}{Q:Az}{w:Aw}{s:BA}{ds:Ar}{sv:Ax}{xs:Ay}(h:DfM k0 Q w s ds xs)(D:yR w Q s ds sv xs)(hf:Fr w w' N_):DfM k0 Q w' s ds xs:=by
 obtain⟨blk,h1,b,g⟩:=h;refine⟨blk,h1.to D (λfv n zs hP ho=>zj ho hf u_),b,λf hm a e he=>?_⟩;obtain⟨x,d,r1,b,j⟩:=g f hm a e he;exact⟨x,d,r1,hf.bl b id,j.fr hf u_⟩
def Dfs.dfm{Q:Az}{w:Aw}{s:BA}{ds:Ar}{xs:Ay}(h:Dfs lo Q w s ds xs):DfM w.heap.size Q w s ds xs:=by
 obtain⟨blk,h1,b,j⟩:=h;refine⟨blk,h1,b,λf hm a e he=>?_⟩;obtain⟨x,d,r1,b,k⟩:=j f hm a e he;exact⟨x,d,r1,b,k.mono (λg hg _=>hg)⟩
structure MC(w0:Aw)(P Q:Az)(s s':BA)(ds ds':Ar)(sv sv':Ax)(xs xs':Ay)(k0:Nat)(nt:Av)(nx:Ax)(W:Aw):Prop where
 D:yR W P s ds sv xs
 E:yR W Q s' ds' sv' xs'
 F:DfM k0 Q W s' ds' xs'
 G:yu w0 W
 X:vN 6 w0 nt nx
 z:w0.heap.size<=W.heap.size
 k:k0<=W.heap.size
structure MS(w0:Aw)(ds ds':Ar):Prop where
 I:yM w0
 K:yH w0
 g:vj ds
 g':vj ds'
 f:JB (zx ds)
 f':JB (zx ds')
def ye(er:Au)(y:PT)(k0:Nat)(w:Aw)(nt:Av)(nx:Ax)(o:Option DT)(e:Ak)(w':Aw):Prop:=
 ∃v ev,e=.returned (.tuple #[v,ev])/\Fr w w' N_/\
 match o with
 |some d=>ev=.nilIface/\DaV er w' (λg=>g<k0\/w.heap.size<=g) d y v
 |none=>v=.nilIface/\qC w' w.heap.size nt nx ev
section
variable {w0 w w1 W W':Aw} {P Q:Az} {s s':BA} {ds ds':Ar} {sv sv':Ax} {xs xs':Ay} {k0:Nat} {nt:Av} {nx:Ax} {er:Au} {y:PT} {o:Option DT} {e:Ak}
def MC.new(M:MC w0 P Q s s' ds ds' sv sv' xs xs' k0 nt nx W)(hf:Fr W W' N_):MC w0 P Q s s' ds ds' sv sv' xs xs' k0 nt nx W':=
 ⟨M.D.fr hf u_,M.E.fr hf u_,M.F.fr M.E hf,M.G.fr hf M.z (λ_ f=>f.elim),M.X,al_ M.z hf.size,al_ M.k hf.size⟩
def MC.err(M:MC w0 P Q s s' ds ds' sv sv' xs xs' k0 nt nx W):W.cell? ⟨6,0,none⟩=some (.iface nt nx):=M.G.err M.X
def ye.pre(hf:Fr w w1 N_)(h:ye er y k0 w1 nt nx o e W):ye er y k0 w nt nx o e W:=by
 obtain⟨v,b,he,f,hm⟩:=h;have hz:=hf.size;refine⟨v,b,he,hf.trans f u_,?_⟩;cases o with
 |none=>exact⟨hm.1,hm.2.ls hz⟩
 |some d=>exact⟨hm.1,hm.2.mono (λg _ hg=>M_)⟩
def ye.two(hf:Fr w w1 N_)(h:ye er y k0 w1 nt nx o e W):Fr w1 W N_/\ye er y k0 w nt nx o e W:=
 ⟨by obtain⟨_,_,_,h,_⟩:=h;exact h,h.pre hf⟩
def ye.tup(h:ye er y k0 w nt nx o e W):∃v b,e=.returned (.tuple #[v,b])/\ye er y k0 w nt nx o (.returned (.tuple #[v,b])) W:=by
 have d:=h;obtain⟨v,b,he,_⟩:=d;exact⟨v,b,he,he▸h⟩
end
def Xt(w0:Aw)(P Q:Az)(s s':BA)(ds ds':Ar)(sv sv':Ax)(xs xs':Ay)(k0:Nat)(nt:Av)(nx:Ax)(sT:Av)(sx:Ax)(rT:Av)(rx:Ax)(f:Nat):Prop:=
 ∀(w:World) (x y:PT) (d:DT) (a b v:Value),MC w0 P Q s s' ds ds' sv sv' xs xs' k0 nt nx w->TyV w P x a->TyV w Q y b->okT (zx ds) x->okT (zx ds') y->vq y->Dat (zx ds) d x->DaV (zx ds) w (λg=>g<k0) d x v->ndT d<=300->ndT d<=f->
  Calls prog 48 #[.agg #[sv,.iface sT sx,sv',.iface rT rx],a,b,v] w (ye (zx ds') y k0 w nt nx (mkP (zx ds) (zx ds') (xD (zx ds') s') f x y d))
def jY.growJ{w1 f:Aw}{B:Nat}{J:Az}{ds:Ae}{lv b:Ax}{d:DT}{Y:Ai}(j:∀i d,ds[i]?=some d->DaV env w1 (λg=>J g/\lv.ownBlock≠some g) d (yg env t 0 i) (Y i))(hd:DaV env w1 (λg=>J g/\lv.ownBlock≠some g) d (yg env t 0 ds.length) v)(hf:Fr w1 f (λg=>lv.ownBlock=some g))(hl:b.ownBlock=lv.ownBlock\/∃h,b.ownBlock=some h/\w1.heap.size<=h)(ho:f.ownsRow B 52 1 b (ds.length+1) (((List.range ds.length).flatMap λi=>[Y i])++[v])):jY env f B (λg=>J g/\b.ownBlock≠some g) t b (ds++[d]):=by
 have up:∀{d u v},DaV env w1 (λg=>J g/\lv.ownBlock≠some g) d u v->DaV env f (λg=>J g/\b.ownBlock≠some g) d u v:=λh=>by
  have h1:DaV env w1 (λg=>(J g/\lv.ownBlock≠some g)/\g<w1.heap.size) _ _ _:=h.mono (λg h1 b=>⟨b,h1⟩);refine(h1.fr hf (λg hg e=>hg.1.2 e)).mono (λg _ hg=>⟨hg.1.1,λe=>?_⟩);rcases hl with h|⟨q,h,b⟩
  .exact hg.1.2 (h▸e)
  .rw[h]at e;have:=hg.2;simp only[af_]at e;omega
 refine⟨λi=>if i<ds.length then Y i else v,?_,λi e he=>?_⟩
 .rw[ag_,ao_,bv_,bb_,yo ds.length _ (λi=>[Y i]) (λi hi=>by simp[hi])];simpa using ho
 .rcases gZ he with⟨hi,he⟩|⟨rfl,rfl⟩
  .simp only[hi,if_true];exact up (j i e he)
  .simp only[a5_,if_false];exact up hd
def qe.growJ{w1 j:Aw}{J:Az}{es:Ag}{ys:Ay}{lv f:Ax}{key:BA}{d:DT}(h:qe env w1 (λg=>J g/\lv.ownBlock≠some g) t es ys)(hd:DaV env w1 (λg=>J g/\lv.ownBlock≠some g) d (yg env t 0 es.length) v)(hk:key.size<=4000)(hf:Fr w1 j (λg=>lv.ownBlock=some g))(hl:f.ownBlock=lv.ownBlock\/∃h,f.ownBlock=some h/\w1.heap.size<=h):qe env j (λg=>J g/\f.ownBlock≠some g) t (es++[(key,d)]) (ys++[.string key,v]):=by
 obtain⟨Y,a,b,k⟩:=h;have up:∀{d u v},DaV env w1 (λg=>J g/\lv.ownBlock≠some g) d u v->DaV env j (λg=>J g/\f.ownBlock≠some g) d u v:=λh=>by
  have h1:DaV env w1 (λg=>(J g/\lv.ownBlock≠some g)/\g<w1.heap.size) _ _ _:=h.mono (λg h1 f=>⟨f,h1⟩);refine(h1.fr hf (λg hg e=>hg.1.2 e)).mono (λg _ hg=>⟨hg.1.1,λe=>?_⟩);rcases hl with h|⟨q,h,f⟩
  .exact hg.1.2 (h▸e)
  .rw[h]at e;have:=hg.2;simp only[af_]at e;omega
 refine⟨λi=>if i<es.length then Y i else v,?_,λi e he=>?_,λe he=>?_⟩
 .have f:=yo es.length (λi=>[Value.string (((es++[(key,d)]).map Prod.fst).getD i noB),if i<es.length then Y i else v]) (λi=>[Value.string ((es.map Prod.fst).getD i noB),Y i]) (λi hi=>by
   simp only[bf_,as_]
   rw[ar_ (by simpa using hi),i_ hi])
  rw[a,ag_,ao_,bv_,bb_,f];simp[as_]
 .rcases gZ he with⟨hi,he⟩|⟨rfl,rfl⟩
  .simp only[hi,if_true];exact up (b i e he)
  .simp only[a5_,if_false];exact up hd
 .rcases a4_.1 he with h|h
  .exact k e h
  .simp only[a2_]at h;subst h;exact hk
end Go.Proofs.YtokgeopihcopeaaGreatDoor
