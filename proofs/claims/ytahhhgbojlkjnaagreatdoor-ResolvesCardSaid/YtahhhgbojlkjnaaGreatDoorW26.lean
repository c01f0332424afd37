import Derived.Test.YtahhhgbojlkjnaaGreatDoorW25
set_option maxHeartbeats 16000000
set_option maxRecDepth 100000
set_option linter.defProp false
set_option linter.unusedSimpArgs false
set_option linter.unusedVariables false
open Go.Proofs.Tryz
namespace Go.Proofs.YtahhhgbojlkjnaaGreatDoor
open Go.RowKit
variable {x t:PT}{v a rv:Ax}{R:Cu}{env ew:Ay}{lo un uc:Nat}{Z:Cl}{ua:Ao}{d:DT}{df:Ad}{w':Aw}
def MtV.iface{w:Aw}{P Q:Au}{s s':BA}{er:Ay}{y:PT}(h:MtV w P Q s s' ew er Z x y v):∃T u,v=.iface T u:=by
 rcases h.kind with⟨_,rfl⟩|⟨_,T,u,rfl,_,_⟩
 .exact⟨_,_,rfl⟩
 .exact⟨_,_,rfl⟩
def Zp{w:Aw}{P Q:Au}{s s':BA}{er:Ay}{y:PT}(h:MtV w P Q s s' ew er Z x y v):Calls prog 138 #[v] w λe w'=>e=.returned (.bool (!yw ew er x y))/\Fr w w' N_:=by
 rcases h.kind with⟨hk,rfl⟩|⟨hk,T,u,rfl,h1,b⟩
 .rw[hk];exact az
 .rw[hk];exact Zu T h1 u
def cwlG1_{p:Prop}(h:p:=by
 rw[hkd]at hIn;(first|(have:=cc1;have hst:H_ (xp ew er x (rs.take (q+1)) 0 none=some q):=zy (by rw[hstep.o,hk,hkd];simp))|(have hst:H_ (xp ew er x (rs.take (q+1)) 0 none=xp ew er x (rs.take q) 0 none):=zy (by rw[hstep.o,hk,hpk,hkd];rfl)));(first|(have:=cc1;rw[hpk]at hB)|(rw[hpk]at hst hB));(first|(have:=cc1;obtain⟨r',T',u',h1',h2',h3',h4'⟩:=hB)|(have hB':=hB;obtain⟨r',T',u',h1',h2',h3',h4'⟩:=hB'));subst h2';clear h1' h3' h4';(first|(have:=cc1)|(replace hB:=zy hB));replace hf:=zy hf;go_wp2_with (first
  |(go_at_call 97;apply(hM.o _ hfw.o r _ hmem.o hT.o).mono;rintro e w1 ⟨m1,rfl,hf1,hm1⟩;obtain⟨mT,mu,rfl⟩:=hm1.iface;have hm1:=zy hm1;have F1:=zy hf1;clear hf1)
  |(go_at_call 138;apply(hNv.o _ _ hm1.o).mono;rintro e w2 ⟨rfl,hf2⟩;have F2:=zy (F1.o.trans hf2 u_);have hm2:=zy (hm1.o.fr hf2 u_ u_);clear hf2)
  |(go_at_call 139;apply lR.mono;rintro e w3 ⟨rfl,hf3⟩;have F3:=zy (F2.o.trans hf3 u_);have hm3:=zy (hm2.o.fr hf3 u_ u_);clear hf3)
  |(go_at_call 140;apply(hIn.o _ F3.o).mono;rintro e w4 ⟨rfl,hf4⟩;have F4:=zy (F3.o.trans hf4 u_);have hm4:=zy (hm3.o.fr hf4 u_ u_);clear hf4))
 go_roundg (rs.length+1-(q+1));case measure=>omega
 case rel=>
  refine⟨q+1,rfl,hlt,l_,hf.o.trans F4.o u_,?_⟩;rw[hst.o];(first|(have:=cc1;exact⟨r,mT,mu,hd,rfl,hk,hm4.o⟩)|(exact hB.o.fr F4.o u_ u_))):p:=h
def lG{w:Aw}{P Q:Au}{s s':BA}{ds ds':Ar}{sv sv' uv:Ax}{xs xs':Az}{sT rT:As}{sx rx:Ax}{rs:Af}{X:Cx}{p:Nat}(D:xf w P s ds sv xs)(E:xf w Q s' ds' sv' xs')(ha:TyV w P x a)(fx:vW x)(B:∀c p,x=.leaf c p->zZ c=true->∃X,zx ds c=some X)(ho:w.ownsRow 0 63 1 uv rs.length ((List.range rs.length).map X))(G:∀g,uv.ownBlock=some g->Q g)(hX:∀i t,rs[i]?=some t->TyV w Q t (X i))(hl:rs.length<=1000)(n:∀t∈rs,vW t)(C:∀t∈rs,∀c p,t=.leaf c p->zZ c=true->∃Y,zx ds' c=some Y):Calls prog 96 #[.agg #[sv,.iface sT sx,sv',.iface rT rx],a,.agg #[I_ p,uv]] w λe w'=>∃v,e=.returned v/\Fr w w' N_/\BrV w' P Q s s' (zx ds) (zx ds') (ZV ds' xs') x rs (xp (zx ds) (zx ds') x rs 0 none) v:=by
 obtain⟨N,f⟩:=y_ (λ(e:Ending) (w':World)=>∃v,e=.returned v/\Fr w w' N_/\BrV w' P Q s s' (zx ds) (zx ds') (ZV ds' xs') x rs (xp (zx ds) (zx ds') x rs 0 none) v);rw[<- f.o];have hM:=zy (λW (j:Fr w W N_) r b (hr:r∈rs) (hb:TyV W Q r b)=>tm (sT:=sT) (rT:=rT) (sx:=sx) (rx:=rx) (D.fr j u_) (E.fr j u_) (ha.fr j u_) hb fx (n r hr) B (C r hr));obtain⟨sa,sc,rfl⟩:=zh D.row;obtain⟨ra,rc,rfl⟩:=zh E.row;obtain⟨ua,uc,rfl⟩:=zh ho;obtain⟨aT,ax,rfl⟩:=ha.iface;obtain⟨z,hwz⟩:=e_ ((w.alloc (.cells #[.slice sa ds.length sc,.iface sT sx,.slice ra ds'.length rc,.iface rT rx] 101)).alloc (.cells #[I_ p,.slice ua rs.length uc] 205));have l:Fr w z N_:=yc_
 have u:Blk z w.heap.size [.slice sa ds.length sc,.iface sT sx,.slice ra ds'.length rc,.iface rT rx] 101:=by
  rw[hwz];exact(B_ w #[.slice sa ds.length sc,.iface sT sx,.slice ra ds'.length rc,.iface rT rx] 101).alloc _
 replace l:=zy l;replace u:=zy u;replace hwz:=zy hwz;replace ho:=zy ho;replace G:=zy G;replace hX:=zy hX;replace n:=zy n;generalize I:zx ds=ew at hM f;generalize H:zx ds'=er at hM f;generalize L:ZV ds' xs'=Z at hM f;go_in;go_wp2;rw[<- hwz.o];go_loopg [7,16] (rs.length+1) (λm M v W=>∃q:Nat,v=I_ q/\q<=rs.length/\rs.length+1-q<=m/\Fr z W N_/\BrV W P Q s s' ew er Z x rs (xp ew er x (rs.take q) 0 none) M);case atStart=>exact⟨0,rfl,aj_ _,M_,A_ _ _,rfl⟩
 case round=>
  obtain⟨q,rfl,S,hm,hf,hB⟩:=hrel;by_cases hlt:q<rs.length
  .have K:(q:Int)<(rs.length:Int):=M_;have hd:rs[q]?=some rs[q]:=ak_ hlt;have hmem:rs[q]∈rs:=a9_ hlt;generalize rs[q]=r at hd hmem;obtain⟨g,O,J⟩:=zu ho M_;cases J;have hfw:=l.o.trans hf u_;have ty:=(hX.o q r hd).fr hfw u_;have c0:=ze (zk ho hfw u_) rfl (k:=q) (x:=X q) (by rw[a1_,List.getElem?_range hlt];rfl);obtain⟨bT,bx,F⟩:=ty.iface;rw[F]at ty c0;have b0:=hf.bl u id;obtain⟨k0,U,V,k3⟩:=b0.d4;have hstep:=zy (oh (ew:=ew) (er:=er) (x:=x) hd);have hT:=zy ty;replace hfw:=zy hfw;have hmem:=zy hmem;have hIn:=zy (λW (j:Fr wr W N_)=>ay (hT.o.fr j u_) (n.o r hmem));have hNv:=zy (λW m (h:MtV W P Q s s' ew er Z x r m)=>Zp h);cases hk:yw ew er x r
   .rw[hk]at hNv;have hst:H_ (xp ew er x (rs.take (q+1)) 0 none=xp ew er x (rs.take q) 0 none):=zy (by rw[hstep.o,hk];rfl);replace hB:=zy hB;replace hf:=zy hf;go_wp2_with (first
     |(go_at_call 97;apply(hM.o _ hfw r _ hmem hT).mono;rintro e w1 ⟨m1,rfl,hf1,hm1⟩;obtain⟨mT,mu,rfl⟩:=hm1.iface;have hm1:=zy hm1;have F1:=zy hf1)
     |(go_at_call 138;apply(hNv.o _ _ hm1).mono;rintro e w2 ⟨rfl,hf2⟩;have F2:=zy (F1.o.trans hf2 u_)))
    go_roundg (rs.length+1-(q+1));case measure=>omega
    case rel=>
     refine⟨q+1,rfl,hlt,l_,hf.o.trans F2 u_,?_⟩;rw[hst.o];exact hB.o.fr F2 u_ u_
   .rw[hk]at hNv;cases hpk:xp ew er x (rs.take q) 0 none
    .rw[hpk]at hB;have hst:H_ (xp ew er x (rs.take (q+1)) 0 none=some q):=zy (by rw[hstep.o,hk,hpk];rfl);replace hB:u7=_:=hB;subst hB;replace hf:=zy hf;go_wp2_with (first
      |(go_at_call 97;apply(hM.o _ hfw r _ hmem hT).mono;rintro e w1 ⟨m1,rfl,hf1,hm1⟩;obtain⟨mT,mu,rfl⟩:=hm1.iface;have hm1:=zy hm1;have F1:=zy hf1)
      |(go_at_call 138;apply(hNv.o _ _ hm1).mono;rintro e w2 ⟨rfl,hf2⟩;have F2:=zy (F1.o.trans hf2 u_);have hm2:=zy (hm1.o.fr hf2 u_ u_))
      |(go_at_call 139;apply(XT _ D_ _).mono;rintro e w3 ⟨rfl,hf3⟩;have F3:=zy (F2.o.trans hf3 u_);have hm3:=zy (hm2.o.fr hf3 u_ u_)))
     go_roundg (rs.length+1-(q+1));case measure=>omega
     case rel=>
      refine⟨q+1,rfl,hlt,l_,hf.o.trans F3 u_,?_⟩;rw[hst.o];exact⟨r,mT,mu,hd,rfl,hk,hm3⟩
    .rename_i T;cases hkd:(r.kind==105)
     .exact cwlG1_
     .have cc1:=Nat;exact cwlG1_
  .have K:¬((q:Int)<(rs.length:Int)):=M_;rw[a6_ M_]at hB;replace hB:=zy hB;replace hf:=zy hf;go_wp2;try go_ret
   rw[f.o];exact⟨_,rfl,l.o.trans hf u_,hB⟩
section
variable {w:Aw} {p:Nat} {sa ra:Ao} {sn sc rn rc:Nat} {sT rT aT bT:As} {sx rx ax bx:Ax}
def XQ(ha:aT≠205)(h:∀W,Fr w W N_->Calls prog 96 #[.agg #[.slice sa sn sc,.iface sT sx,.slice ra rn rc,.iface rT rx],.iface aT ax,.agg #[I_ p,.slice ua un uc]] W (λe w'=>∃v,e=.returned v/\R (.returned v) w')):Calls prog 59 #[.agg #[.slice sa sn sc,.iface sT sx,.slice ra rn rc,.iface rT rx],.iface aT ax,.iface 205 (.agg #[I_ p,.slice ua un uc])] w R:=by
 have cc1:=Nat
 exact cq27_
end
inductive MeV (w:Aw) (P Q:Au) (s s':BA) (ew er:Ay) (Z:Cl):PT->PT->Value->Prop
 |outb {p:Nat} {ws:List PT} {y:PT} {uv b:Value} (X:Nat->Value) (ho:w.ownsRow 0 63 1 uv ws.length ((List.range ws.length).map X)) (hX:∀i t,ws[i]?=some t->TyV w P t (X i)) (hb:TyV w Q y b) (hP:∀g,uv.ownBlock=some g->P g):MeV w P Q s s' ew er Z (.alts p ws) y (.iface 222 (.agg #[uv,b]))
 |into {x:PT} {p:Nat} {rs:List PT} {v:Value} (fx:vW x) (h:BrV w P Q s s' ew er Z x rs (xp ew er x rs 0 none) v):MeV w P Q s s' ew er Z x (.alts p rs) v
 |flat {x y:PT} {v:Value} (fx:vW x) (fy:vW y) (h:MtV w P Q s s' ew er Z x y v):MeV w P Q s s' ew er Z x y v
def BrV.iface{w:Aw}{P Q:Au}{s s':BA}{er:Ay}{rs:Af}{k:Option Nat}(h:BrV w P Q s s' ew er Z x rs k v):∃T u,v=.iface T u:=by
 cases k with
 |none=>exact⟨_,_,h⟩
 |some i=>obtain⟨_,_,_,_,rfl,_⟩:=h;exact⟨_,_,rfl⟩
def MeV.iface{w:Aw}{P Q:Au}{s s':BA}{er:Ay}{y:PT}(h:MeV w P Q s s' ew er Z x y v):∃T u,v=.iface T u:=by
 cases h with
 |outb=>exact⟨_,_,rfl⟩
 |into fx h=>exact h.iface
 |flat fx fy h=>exact h.iface
def ls(h:okT env t)(ha:t.isAlts=false):vW t:=by
 cases t with
 |leaf c p=>exact trivial
 |wrap c p u=>unfold okT at h;exact h.1
 |alts p l=>simp[PT.isAlts]at ha
def ci(h:okT env t):∀c p,t=.leaf c p->zZ c=true->∃X,env c=some X:=λc p e hn=>by
 subst e;unfold okT at h;rcases h with h|h
 .rw[jI hn]at h;cases h
 .exact h.2
def TyV.alts_inv{w:Aw}{P:Au}{p:Nat}{l:Af}(h:TyV w P (.alts p l) v):∃(uv:Value) (X:Nat->Value),v=.iface 205 (.agg #[I_ p,uv])/\w.ownsRow 0 63 1 uv l.length ((List.range l.length).map X)/\(∀g,uv.ownBlock=some g->P g)/\∀i t,l[i]?=some t->TyV w P t (X i):=by
 cases h with
 |alts p X ho hP h=>exact⟨_,X,rfl,ho,hP,h⟩
def TyV.flat_ne{w:Aw}{P:Au}{T:As}{u:Ax}(h:TyV w P x (.iface T u))(fx:vW x):T≠205:=by
 cases h with
 |base c p h=>exact(jV c).2.2.1
 |name c p h=>decide
 |wrap c p h=>
  rcases fx with rfl|rfl
  .decide
  .decide
 |alts p X ho hP h=>exact fx.elim
def JR{w:Aw}{P Q:Au}{s s':BA}{ds ds':Ar}{sv sv':Ax}{xs xs':Az}{sT rT:As}{sx rx:Ax}{y:PT}{b:Ax}(D:xf w P s ds sv xs)(E:xf w Q s' ds' sv' xs')(ha:TyV w P x a)(hb:TyV w Q y b)(hx:okT (zx ds) x)(hy:okT (zx ds') y)(fy:xM y):Calls prog 59 #[.agg #[sv,.iface sT sx,sv',.iface rT rx],a,b] w λe w'=>∃v,e=.returned v/\Fr w w' N_/\MeV w' P Q s s' (zx ds) (zx ds') (ZV ds' xs') x y v:=by
 obtain⟨sa,sc,z⟩:=zh D.row;obtain⟨ra,rc,r⟩:=zh E.row;cases n:x.isAlts with
 |true=>
  cases x with
  |leaf c p=>simp[PT.isAlts]at n
  |wrap c p u=>simp[PT.isAlts]at n
  |alts p ws=>
   obtain⟨uv,X,rfl,ho,hP,hX⟩:=ha.alts_inv;obtain⟨bT,bx,rfl⟩:=hb.iface;obtain⟨ua,uc,B⟩:=zh ho;subst z r B;apply JH.mono;rintro e w' ⟨rfl,f⟩;exact⟨_,rfl,f,.outb X (zk ho f u_) (λi t h=>(hX i t h).fr f u_) (hb.fr f u_) hP⟩
 |false=>
  have fx:=ls hx n;cases C:y.isAlts with
  |true=>
   cases y with
   |leaf c p=>simp[PT.isAlts]at C
   |wrap c p u=>simp[PT.isAlts]at C
   |alts p rs=>
    obtain⟨uv,X,rfl,ho,hP,hX⟩:=hb.alts_inv;obtain⟨aT,ax,rfl⟩:=ha.iface;obtain⟨ua,uc,B⟩:=zh ho;unfold okT at hy;unfold xM at fy;have n:=xC hy.2;have m:=λW (f:Fr w W N_)=>(lG (sT:=sT) (rT:=rT) (sx:=sx) (rx:=rx) (p:=p) (D.fr f u_) (E.fr f u_) (ha.fr f u_) fx (ci hx) (zk ho f u_) hP (λi t h=>(hX i t h).fr f u_) M_ (λt j=>ls (n t j).2 (n t j).1) (λt j=>ci (n t j).2)).mono (λe w' (q:∃v,e=.returned v/\Fr W w' N_/\BrV w' P Q s s' (zx ds) (zx ds') (ZV ds' xs') x rs (xp (zx ds) (zx ds') x rs 0 none) v)=>show ∃v,e=.returned v/\∃g,Ending.returned v=.returned g/\Fr w w' N_/\MeV w' P Q s s' (zx ds) (zx ds') (ZV ds' xs') x (.alts p rs) g by
     obtain⟨v,h1,k,l⟩:=q
     exact⟨v,h1,v,rfl,f.trans k u_,.into fx l⟩)
    have F:=ha.flat_ne fx;subst z r B;exact XQ F m
  |false=>
   have j:=ls hy C;obtain⟨aT,ax,rfl⟩:=ha.iface;obtain⟨bT,bx,rfl⟩:=hb.iface;have m:=λW (f:Fr w W N_)=>(tm (sT:=sT) (rT:=rT) (sx:=sx) (rx:=rx) (D.fr f u_) (E.fr f u_) (ha.fr f u_) (hb.fr f u_) fx j (ci hx) (ci hy)).mono (λe w' (q:∃v,e=.returned v/\Fr W w' N_/\MtV w' P Q s s' (zx ds) (zx ds') (ZV ds' xs') x y v)=>show ∃v,e=.returned v/\∃g,Ending.returned v=.returned g/\Fr w w' N_/\MeV w' P Q s s' (zx ds) (zx ds') (ZV ds' xs') x y g by
    obtain⟨v,h1,k,l⟩:=q
    exact⟨v,h1,v,rfl,f.trans k u_,.flat fx j l⟩)
   have F:=ha.flat_ne fx;have G:=hb.flat_ne j;subst z r;exact XK F G m
set_option maxRecDepth 100000
set_option linter.defProp false
@[go_sem]def Pn:=xw 220 126
@[go_sem]def PO:=vR 220 126 (.agg #[])
@[go_sem]def FV:=xw 222 126
@[go_sem]def Pr:=vR 222 126 (.agg #[L_,.nilIface])
@[go_sem]def Pt:=xw 225 126
@[go_sem]def PA:=vR 225 126 (.agg #[O_,.nilIface])
@[go_sem]def Wx:=xw 228 126
@[go_sem]def Gd:=vR 228 126 (.agg #[.nilIface,.nilIface])
@[go_sem]def JI:=xw 231 126
@[go_sem]def Kq:=vR 231 126 (.agg #[O_,L_,.pointer none,O_,L_,.pointer none])
@[go_sem]def Kk:=xw 234 126
@[go_sem]def Wv:=vR 234 126 (.agg #[O_,L_,O_,L_])
section
variable {w:Aw} {sa ra:Ao} {sn sc rn rc:Nat} {sT rT aT bT dT:As} {sx rx ax bx dx:Ax}
def cq13_{p:Prop}(h:p:=by
 refine hq_ λn l=>?_;have g:=zy (λo=>(A_ w N_).alloc o);have i:=zy (λo b=>((A_ w N_).alloc o).alloc b);have j:=zy (λo b f=>(((A_ w N_).alloc o).alloc b).alloc f);have k:=zy (λo b f m=>((((A_ w N_).alloc o).alloc b).alloc f).alloc m);replace h:=zy h;go_in;go_wp2_with ((first|go_at_call 93|go_at_call 94|go_at_call 92|go_at_call 91);apply(h.o _ ?fr).mono;(case fr=>(first|exact g.o _|exact i.o _ _|exact j.o _ _ _|exact k.o _ _ _ _|exact A_ _ _));rintro e w1 ⟨v,q,rfl,c⟩;replace c:=zy c);try go_ret
 rw[l.o];exact c.o):p:=h
def sF(h:∀W,Fr w W N_->Calls prog 91 #[.agg #[.slice sa sn sc,.iface sT sx,.slice ra rn rc,.iface rT rx],.agg #[.slice ua un uc,.iface bT bx],.iface dT dx] W (λe w'=>∃v ev,e=.returned (.tuple #[v,ev])/\R (.returned (.tuple #[v,ev])) w')):Calls prog 58 #[.agg #[.slice sa sn sc,.iface sT sx,.slice ra rn rc,.iface rT rx],.iface 222 (.agg #[.slice ua un uc,.iface bT bx]),.iface dT dx] w R:=by
 have cc3:=Nat
 exact cq13_
def eN{n:Int}(h:∀W,Fr w W N_->Calls prog 92 #[.agg #[.slice sa sn sc,.iface sT sx,.slice ra rn rc,.iface rT rx],.agg #[Z_ n,.iface bT bx],.iface dT dx] W (λe w'=>∃v ev,e=.returned (.tuple #[v,ev])/\R (.returned (.tuple #[v,ev])) w')):Calls prog 58 #[.agg #[.slice sa sn sc,.iface sT sx,.slice ra rn rc,.iface rT rx],.iface 225 (.agg #[Z_ n,.iface bT bx]),.iface dT dx] w R:=by
 have cc2:=Nat
 exact cq13_
def gQ(h:∀W,Fr w W N_->Calls prog 93 #[.agg #[.slice sa sn sc,.iface sT sx,.slice ra rn rc,.iface rT rx],.agg #[.iface aT ax,.iface bT bx],.iface dT dx] W (λe w'=>∃v ev,e=.returned (.tuple #[v,ev])/\R (.returned (.tuple #[v,ev])) w')):Calls prog 58 #[.agg #[.slice sa sn sc,.iface sT sx,.slice ra rn rc,.iface rT rx],.iface 228 (.agg #[.iface aT ax,.iface bT bx]),.iface dT dx] w R:=by
 exact cq13_
def uQ{p q:Int}{va:Ao}{vn vc:Nat}{a b:Ao}(h:∀W,Fr w W N_->Calls prog 94 #[.agg #[Z_ p,.slice ua un uc,.pointer a,Z_ q,.slice va vn vc,.pointer b],.iface dT dx] W (λe w'=>∃v ev,e=.returned (.tuple #[v,ev])/\R (.returned (.tuple #[v,ev])) w')):Calls prog 58 #[.agg #[.slice sa sn sc,.iface sT sx,.slice ra rn rc,.iface rT rx],.iface 231 (.agg #[Z_ p,.slice ua un uc,.pointer a,Z_ q,.slice va vn vc,.pointer b]),.iface dT dx] w R:=by
 have cc1:=Nat
 exact cq13_
def cq{p q:Int}{b:Option Addr}{g f:Nat}(h:∀W,Fr w W N_->Calls prog 95 #[.agg #[.slice sa sn sc,.iface sT sx,.slice ra rn rc,.iface rT rx],.agg #[Z_ p,.slice ua un uc,Z_ q,.slice b g f],.iface dT dx] W (λe w'=>∃v c,e=.returned (.tuple #[v,c])/\R (.returned (.tuple #[v,c])) w')):Calls prog 58 #[.agg #[.slice sa sn sc,.iface sT sx,.slice ra rn rc,.iface rT rx],.iface 234 (.agg #[Z_ p,.slice ua un uc,Z_ q,.slice b g f]),.iface dT dx] w R:=by
 refine hq_ λb l=>?_;have g:=zy (λo=>(A_ w N_).alloc o);have i:=zy (λo b=>((A_ w N_).alloc o).alloc b);replace h:=zy h;go_in;go_wp2_with (go_at_call 95;apply(h.o _ ?fr).mono;(case fr=>(first|exact g.o _|exact i.o _ _|exact j.o _ _ _|exact k.o _ _ _ _|exact A_ _ _));rintro e w1 ⟨v,c,rfl,b⟩;replace b:=zy b);try go_ret
 rw[l.o];exact b
def mY:Calls prog 58 #[.agg #[.slice sa sn sc,.iface sT sx,.slice ra rn rc,.iface rT rx],.iface 220 (.agg #[]),.iface dT dx] w λe w'=>e=.returned (.tuple #[.iface dT dx,.nilIface])/\Fr w w' N_:=by
 refine hq_ λb j=>?_;have f:=zy (λo=>(A_ w N_).alloc o);have g:=zy (λo b=>((A_ w N_).alloc o).alloc b);go_in;go_wp2;try go_ret
 rw[j.o];refine⟨rfl,?_⟩
 (first|exact f.o _|exact g.o _ _|exact h.o _ _ _|exact i.o _ _ _ _|exact A_ _ _)
def bX{nt:As}{nx:Ax}(f:vt 6 w nt nx):Calls prog 58 #[.agg #[.slice sa sn sc,.iface sT sx,.slice ra rn rc,.iface rT rx],.iface 277 (.agg #[]),.iface dT dx] w λe w'=>e=.returned (.tuple #[.nilIface,.iface nt nx])/\Fr w w' N_:=by
 refine hq_ λc c=>?_;have b:=zy (λo=>(A_ w N_).alloc o);have g:=f.fr ((A_ w N_).alloc (.cells #[.slice sa sn sc,.iface sT sx,.slice ra rn rc,.iface rT rx] 101)) id;unfold vt at g;go_in;go_wp2;go_quiet (fail);go_wp2;try go_ret
 rw[c.o];exact⟨rfl,(b.o _).si (zw.drewN _ _)⟩
end
def rA{s:BA}{R:Al}(hR:∀i d j,R i=some (d,j)->2*i+ndT d<=2*j){fin:Nat}{keyed:Ap}:∀(n:Nat) (last:Option BA) (i:Nat) (l:List (BA×DT)) (j:Nat),yZ R s fin keyed n last i=some (l,j)->2*i+zM (l.map Prod.snd)<=2*j:=by
 have cc1:=Nat
 exact cq21_
def lz{s:BA}{R:Ag}:∀(ts:List PT),(∀t∈ts,∀i d j,R t i=some (d,j)->2*i+ndT d<=2*j)->∀(first:Bool) (i:Nat) (l:List DT) (j:Nat),zH R s first ts i=some (l,j)->2*i+zM l<=2*j:=by
 intro ts;induction ts with
 |nil=>
  intro _ first i l j h
  simp only[zH,ae_,ac_]at h;obtain⟨rfl,rfl⟩:=h;simp only[zM];omega
 |cons t r ih=>
  have cc1:=Nat;exact cwrO1_
def rE{s:BA}{R:Ag}(b:∀t,okT env t->∀i d j,R t i=some (d,j)->2*i+ndT d<=2*j)(pb:PB)(hb:okB env pb)(i:Nat)(d:DT)(j:Nat)(h:yg R s pb i=some (d,j)):2*i+ndT d+1<=2*j:=by
 unfold yg at h;split at h
 .split at h
  .split at h
   .simp at h
   .rename_i fs _ ds f hd;have h1:=lz _ (λt c=>by
     obtain⟨g,hg,rfl⟩:=bl_.1 c
     exact b _ (hb g hg)) _ _ _ _ hd
    split at h
    .simp only[ae_,ac_]at h;obtain⟨rfl,rfl⟩:=h;unfold ndT;omega
    .simp at h
  .simp at h
 .split at h
  .split at h
   .simp at h
   .simp only[ae_,ac_]at h;obtain⟨rfl,rfl⟩:=h;rw[lQ];omega
  .simp at h
 .split at h
  .have:=vM s (i+1);simp only[ae_,ac_]at h;obtain⟨rfl,rfl⟩:=h;rw[lQ];omega
  .simp at h
def Xy(r:jr env)(s:BA)(f:Nat):∀t,okT env t->∀i d j,rdT s env true f t i=some (d,j)->2*i+ndT d+(if t.isAlts=true then 0 else 1)<=2*j:=by
 induction f with
 |zero=>intro t _ i d j h;simp[rdT]at h
 |succ f ih=>
  intro t b i d j h;have g:∀t,okT env t->∀i d j,rdT s env true f t i=some (d,j)->2*i+ndT d<=2*j:=λt b i d j h=>by have:=ih t b i d j h;omega
  cases t with
  |leaf c p=>
   rw[n_ (by simp[PT.isAlts])];simp only[rdT]at h;unfold xr at h;have one:∀{k n tx q},i<q->some (DT.mk k n tx [] [],q)=some (d,j)->2*i+ndT d+1<=2*j:=λB h=>by
    simp only[ae_,ac_]at h;obtain⟨rfl,rfl⟩:=h;rw[lQ];omega
   split at h
   .split at h
    .exact one M_ h
    .simp at h
   .split at h
    .split at h
     .exact one M_ h
     .split at h
      .exact one M_ h
      .simp at h
    .split at h
     .split at h
      .simp at h
      .rename_i n m hn;have:=cA hn;exact one this.1 h
     .split at h
      .split at h
       .have:=vM s (i+1);exact one M_ h
       .simp at h
      .split at h
       .simp at h
       .rename_i pb u;exact rE g _ (r _ _ u) _ _ _ h
  |wrap c p t=>
   rw[n_ (by simp[PT.isAlts])];unfold okT at b;simp only[rdT]at h;unfold xO at h;split at h
   .split at h
    .simp at h
    .rename_i l m hl;simp only[ae_,ac_]at h;obtain⟨rfl,rfl⟩:=h;unfold qc at hl;unfold ndT;split at hl
     .simp only[ae_,ac_]at hl;obtain⟨rfl,rfl⟩:=hl;simp only[a5_,zM];omega
     .have:=rA (g t b.2) _ _ _ _ _ hl;omega
   .simp at h
  |alts p ts=>
   rw[i_ (show(PT.alts p ts).isAlts=true from rfl)];unfold okT at b;have ha:=xC b.2;simp only[rdT]at h;unfold jZ at h;rw[i_ rfl]at h;split at h
   .simp at h
   .rename_i D C;split at h
    .simp at h
    .rename_i z m hd;have h1:=ih _ (ha _ (by first|exact bi_|exact al_ ‹_›)).2 _ _ _ hd;rw[n_ (by rw[(ha _ (by first|exact bi_|exact al_ ‹_›)).1];decide)]at h1;simp only[ae_,ac_]at h;obtain⟨rfl,rfl⟩:=h;unfold ndT;simp only[zM];omega
def nC(b:jr env)(c:okT env t){s:BA}(h:yD env true t s=some d):ndT d<=2*s.size:=by
 unfold yD at h;split at h
 .simp at h
 .rename_i f j hd;have h1:=Xy b s _ t c _ _ _ hd;split at h
  .simp only[ae_]at h;subst h;omega
  .simp at h
def rj:∀(fs:List PF) (g:List Nat),rq g fs=[]->(fs.map PF.letter).Nodup/\∀c∈fs.map PF.letter,c∉g
 | [],g,_=>⟨List.nodup_nil,λc hc=>by cases hc⟩
 |f::r,g,h=>by
  unfold rq at h;rw[bu_]at h;obtain⟨h1,i⟩:=h;obtain⟨a,b⟩:=rj r _ i;have j:f.letter∉g:=λe=>by rw[i_ e]at h1;cases h1
  refine⟨?_,λc hc=>?_⟩
  .rw[aw_,List.nodup_cons];exact⟨λe=>b _ e (b7_ _ (ba_.2 rfl)),a⟩
  .rw[aw_]at hc;rcases aq_.1 hc with rfl|hc
   .exact j
   .exact λe=>b c hc (ce_ _ e)
def tL(env:Ay):∀(ds:List PD) (b:List Nat),kK env b ds=[]->∀d∈ds,qs env d.body=[]
 | [],_,_,d,hd=>by cases hd
 |x::r,b,h,d,hd=>by
  unfold kK at h;simp only[bu_]at h;rcases aq_.1 hd with rfl|hd
  .exact h.2.1
  .exact tL env r _ h.2.2 d hd
def Wm{ds:Ar}{c:Nat}{b:PB}(he:zx ds c=some b):∃d∈ds,d.body=b:=by
 unfold zx at he;cases hl:vp 0 c ds with
 |none=>rw[hl]at he;cases he
 |some q=>
  obtain⟨f,f⟩:=q;rw[hl]at he;simp only[a4_,ae_]at he;subst he;obtain⟨d,hd,e⟩:=gK hl;exact⟨d,hd,e⟩
def YA{ds:Ar}(h:vf ds t=[]){c:Nat}{fs:Am}(he:zx ds c=some (.recd fs)):(fs.map PF.letter).Nodup:=by
 unfold vf at h;rw[bu_]at h;obtain⟨d,hd,e⟩:=Wm he;have hb:=tL _ _ _ h.1 d hd;rw[e]at hb;have hn:rq [] fs=[]:=by
  cases hx:rq [] fs with
  |nil=>rfl
  |cons a l=>
   have:=(ak (zx ds) fs a []).2 (.inl (by rw[hx];exact bi_));rw[show kQ (zx ds) [] fs=[] from hb]at this;cases this
 exact(rj fs [] hn).1
def cst:List PF->List DT->Nat->Nat
 |f::fw,d::ds,c=>if f.letter=c then ndT d else cst fw ds c
 | _,_,_=>0
def sm(g:Dv):List Nat->Nat
 | []=>0
 |c::r=>g c+sm g r
def Gm(a x:Nat)(g:Dv):∀L:List Nat,(a∉L->sm (λc=>if a=c then x else g c) L<=sm g L)/\(L.Nodup->sm (λc=>if a=c then x else g c) L<=x+sm g L)
 | []=>⟨λ_=>l_,λ_=>aj_ _⟩
 |c::r=>by
  obtain⟨h1,b⟩:=Gm a x g r;refine⟨λhn=>?_,λhn=>?_⟩
  .simp only[aq_,not_or]at hn;simp only[sm,n_ hn.1];have:=h1 hn.2;omega
  .rw[List.nodup_cons]at hn;simp only[sm];by_cases e:a=c
   .rw[i_ e];have:=h1 (e▸hn.1);omega
   .rw[n_ e];have:=b hn.2;omega
def nG:∀L:List Nat,sm (λ_=>0) L=0
 | []=>rfl
 | _::r=>by simp only[sm,nG r]
def VN:∀(fw:List PF) (ds:List DT) (L:List Nat),L.Nodup->sm (cst fw ds) L<=zM ds
 | [],ds,L,_=>by
  have:cst [] ds=λ_=>0:=by funext c;cases ds<;>rfl
  rw[this,nG];exact aj_ _
 |f::fw,[],L,_=>by
  have:cst (f::fw) []=λ_=>0:=by funext c;rfl
  rw[this,nG];exact aj_ _
 |f::fw,d::ds,L,h=>by
  have e:cst (f::fw) (d::ds)=λc=>if f.letter=c then ndT d else cst fw ds c:=by funext c;rfl
  rw[e];have h1:=(Gm f.letter (ndT d) (cst fw ds) L).2 h;have b:=VN fw ds L h;simp only[zM];omega
def Qe:∀(fw:List PF) (ds:List DT) (c i:Nat) (h:PF) (d:DT),kA fw c=some i->fw[i]?=some h->ds[i]?=some d->cst fw ds c=ndT d
 | [],ds,c,i,h,d,hi,hf,hd=>by simp at hf
 |f::fw,[],c,i,h,d,hi,hf,hd=>by simp at hd
 |f::fw,e::ds,c,i,h,d,hi,hf,hd=>by
  unfold kA at hi;rw[aw_,List.findIdx?_cons]at hi;unfold cst;by_cases hc:f.letter=c
  .rw[i_ hc];rw[i_ (by rw[beq_iff_eq];exact hc)]at hi;simp only[ae_]at hi;subst hi;simp only[aa_,ae_]at hd;rw[hd]
  .rw[n_ hc];rw[n_ (by rw[beq_iff_eq];exact hc)]at hi;cases b:(fw.map PF.letter).findIdx? (λx=>x==c) with
   |none=>rw[b]at hi;cases hi
   |some q=>
    rw[b]at hi;simp only[a4_,ae_]at hi;subst hi;exact Qe fw ds c q h d b (by simpa using hf) (by simpa using hd)
def tq{R:Cz}{C:Nat}(c:∀w q d x,R w q d=some x->ndT x<=C*ndT d){fw:Am}{ds:Ak}:∀(fr:List PF) (l:List DT),(∀g∈fr,∀x,df g=some x->ndT x<=700)->yb (mkF R df fw ds) fr=some l->zM l<=700*fr.length+C*sm (cst fw ds) (fr.map PF.letter)
 | [],l,_,h=>by
  simp only[yb,ae_]at h;subst h;simp only[zM];omega
 |g::fr,l,hd,h=>by
  unfold yb at h;split at h
  .cases h
  .rename_i b hb;split at h
   .cases h
   .rename_i n hl;simp only[ae_]at h;subst h;have h1:=tq c fr n (λg hg=>hd g (cb_ _ hg)) hl;simp only[zM,au_,aw_,sm,Nat.mul_add];unfold mkF at hb;split at hb
    .rename_i i m;split at hb
     .rename_i h0 f k j;rw[Qe fw ds _ i h0 f m k j];have:=c _ _ _ _ hb;omega
     .cases hb
    .have:=hd g bi_ _ hb;omega
def lP{R:DT->Option DT}{C:Nat}(c:∀d x,R d=some x->ndT x<=C*ndT d):∀(ds l:List DT),yb R ds=some l->zM l<=C*zM ds
 | [],l,h=>by
  simp only[yb,ae_]at h;subst h;simp only[zM];omega
 |d::ds,l,h=>by
  unfold yb at h;split at h
  .cases h
  .rename_i b hb;split at h
   .cases h
   .rename_i f hl;simp only[ae_]at h;subst h;have h1:=lP c ds f hl;have:=c _ _ hb;simp only[zM,Nat.mul_add];omega
structure SmE(er:Ay)(df:Ad):Prop where
 few:∀c fs,er c=some (.recd fs)->fs.length<=300/\(fs.map PF.letter).Nodup
 sml:∀c fs,er c=some (.recd fs)->∀g∈fs,∀x,df g=some x->ndT x<=700
def tw{er:Ay}(b:SmE er df){R:Cz}(f:∀w r d x,R w r d=some x->ndT x<=300000*ndT d){w r:PT}{x:DT}(h:mkB R ew er df w r d=some x):ndT x+1<=300000*ndT d:=by
 obtain⟨k,n,tx,ks,ds⟩:=d;rw[jC];cases w with
 |alts p l=>simp[mkB]at h
 |wrap c p u=>
  cases r with
  |leaf c' p'=>simp[mkB]at h
  |alts p' l'=>simp[mkB]at h
  |wrap c' p' u'=>
   simp only[mkB]at h;cases hx:yb (R u u') ds with
   |none=>rw[hx]at h;cases h
   |some l=>
    rw[hx]at h;simp only[a4_,ae_]at h;subst h;have:=lP (f u u') ds l hx;rw[jC];omega
 |leaf c p=>
  cases r with
  |wrap c' p' u'=>simp[mkB]at h
  |alts p' l'=>simp[mkB]at h
  |leaf c' p'=>
   simp only[mkB]at h;split at h
   .simp only[ae_]at h;subst h;rw[jC];omega
   .split at h
    .rename_i fw fr j hr;cases hx:yb (mkF R df fw ds) fr with
     |none=>rw[hx]at h;cases h
     |some l=>
      rw[hx]at h;simp only[a4_,ae_]at h;subst h;obtain⟨h1,g⟩:=b.few _ _ hr;have m:=tq f fr l (b.sml _ _ hr) hx;have i:=VN fw ds _ g;rw[jC];omega
    .rename_i lw ow lr o j hr;cases hx:qE lr o ((lw.map Prod.fst).getD n.toNat 0) with
     |none=>rw[hx]at h;cases h
     |some q=>
      rw[hx]at h;simp only[a4_,ae_]at h;subst h;rw[jC];simp only[zM];omega
    .simp only[ae_]at h;subst h;rw[jC];omega
    .cases h
def tj{er:Ay}(c:SmE er df):∀(f:Nat) (w b:PT) (d x:DT),mkP ew er df f w b d=some x->ndT x<=300000*ndT d:=by
 intro f;induction f with
 |zero=>intro w b d x h;simp[mkP]at h
 |succ f ih=>
  intro w b d x h;unfold mkP at h;split at h
  .obtain⟨k,n,tx,ks,ds⟩:=d;simp only at h;split at h
   .rename_i w1 g i l;have:=ih _ _ _ _ h;rw[jC];simp only[zM];omega
   .cases h
  .split at h
   .split at h
    .cases h
    .split at h
     .cases h
     .rename_i r1 j;cases hx:mkB (mkP ew er df f) ew er df w r1 d with
      |none=>rw[hx]at h;cases h
      |some z=>
       rw[hx]at h;simp only[a4_,ae_]at h;subst h;have:=tw c ih hx;rw[jC];simp only[zM];omega
   .split at h
    .have:=tw c ih h;omega
    .cases h
def yN(er:Ay)(s:BA)(g:PF):Option DT:=
 match g.dflt with
 |none=>none
 |some (a,e)=>yD er true g.ty (s.extract a e)
def yH(sw sr bs:BA):BA×Nat×Int:=
 if (zl sw).1=0 then
  if (zl sr).1=0 then
   if 4000<bs.size then (noB,0,1)
   else match zQ sw,zQ sr with
    | .ok (ds,t),.ok (ds',t')=>match rdB bs (zx ds) 301 t 0 0 with
     | .error e0=>(noB,0,(e0:Int))
     | .ok (d,j,_)=>match mkP (zx ds) (zx ds') (yN (zx ds') sr) 300 t t' d with
      |none=>(noB,0,8)
      |some x=>if ndT x > 300 then (noB,0,7) else (txT (zx ds') x t',j,0)
    | _,_=>(noB,0,0)
  else (noB,0,(zl sr).1)
 else (noB,0,(zl sw).1)
def fu{s:BA}(h0:(zl s).1=0):s.size<=300/\∃ds t,zQ s=.ok (ds,t):=by
 unfold zl at h0;split at h0
 .simp at h0
 .rename_i hs;refine⟨M_,?_⟩;cases hp:zQ s with
  |error k=>rw[hp]at h0;simp at h0
  |ok r=>exact⟨r.1,r.2,rfl⟩
def Yt{s:BA}{ds:Ar}(h0:(zl s).1=0)(hp:zQ s=.ok (ds,t)):Pm (zx ds) (yN (zx ds) s)/\SmE (zx ds) (yN (zx ds) s):=by
 obtain⟨i,f,j,k,b⟩:=nK h0 hp;obtain⟨hs,hn,hu⟩:=cJ h0 hp;have hx:∀a e,(s.extract a e).size<=300:=λa e=>by rw[a3_];omega
 refine⟨λc fs g x he hg h=>?_,⟨λc fs he=>⟨(f c fs he).1,YA hn he⟩,λc fs he g hg x h=>?_⟩⟩
 .unfold yN at h;split at h
  .cases h
  .rename_i a e _;exact Xz b (by have:=hx a e;omega) (b c _ he g hg) h
 .unfold yN at h;split at h
  .cases h
  .rename_i a e _;have h1:=nC b (b c _ he g hg) h;have:=hx a e;omega
def jQ.frS{E:dF}{w:Aw}{i:Ax}{a:Int×Int}{S:Au}(h:jQ E w lo i a)(f:Fr w w' S)(c:∀g,lo<=g->¬S g):jQ E w' lo i a:=by
 rcases h with h|h|⟨h1,b⟩|⟨h1,b⟩|⟨h1,b⟩|⟨h1,j,b,k⟩
 .exact .inl h
 .exact .inr (.inl h)
 .exact .inr (.inr (.inl ⟨h1,b.fr f c⟩))
 .exact .inr (.inr (.inr (.inl ⟨h1,b.fr f c⟩)))
 .exact .inr (.inr (.inr (.inr (.inl ⟨h1,b.fr f c⟩))))
 .exact .inr (.inr (.inr (.inr (.inr ⟨h1,j,b.fr f c,k.fr f c⟩))))
def wH.frS{w:Aw}{s:BA}{sv:Ax}{S:Au}(h:wH lo w s sv rv)(c:Fr w w' S)(b:∀g,lo<=g->¬S g):wH lo w' s sv rv:=by
 obtain⟨ds,t,xs,hs,hp,hn,hu,D,T,F⟩:=h;have hz:=c.size;exact⟨ds,t,xs,hs,hp,hn,hu,(D.fr c (λg hg=>b g hg.1)).mono (λg _ hg=>⟨hg.1,M_⟩),(T.fr c (λg hg=>b g hg.1)).mono (λg _ hg=>⟨hg.1,M_⟩),(F.fr D c (λg hg=>b g hg.1) b).mono l_ (λg hg=>⟨hg.1,M_⟩)⟩
def wH.ls{b:Nat}{w:Aw}{s:BA}{sv:Ax}(h:wH lo w s sv rv)(hl:b<=lo):wH b w s sv rv:=by
 obtain⟨ds,t,xs,hs,hp,hn,hu,D,T,F⟩:=h;exact⟨ds,t,xs,hs,hp,hn,hu,D.mono (λg _ hg=>⟨M_,hg.2⟩),T.mono (λg _ hg=>⟨M_,hg.2⟩),F.mono hl (λg hg=>⟨M_,hg.2⟩)⟩
def wH.forms{w:Aw}{s:BA}{sv:Ax}(h:wH lo w s sv rv):∃sa sn sc rT rx,sv=.slice sa sn sc/\rv=.iface rT rx:=by
 obtain⟨ds,t,xs,hs,hp,hn,hu,D,T,F⟩:=h;obtain⟨sa,sc,rfl⟩:=zh D.row;obtain⟨rT,rx,rfl⟩:=T.iface;exact⟨_,_,_,_,_,rfl,rfl⟩
def pW(w:Aw)(sw sr:BA)(e:Ah)(w':Aw):Prop:=
 ∃sv rv sv' rv' ev,e=.returned (.tuple #[.agg #[sv,rv],.agg #[sv',rv'],ev])/\Fr w w' N_/\
  (((zl sw).1=0/\(zl sr).1=0/\ev=.nilIface/\wH w.heap.size w' sw sv rv/\wH w.heap.size w' sr sv' rv')\/
   (¬((zl sw).1=0/\(zl sr).1=0)/\sv=L_/\rv=.nilIface/\sv'=L_/\rv'=.nilIface/\(∃T x,ev=.iface T x)/\uq w' ev (if (zl sw).1=0 then (zl sr).1 else (zl sw).1)))
def st2{w:Aw}{n m:Nat}{u0 k f h b:Ax}{T c:As}(B:Blk w n [u0,k] T)(i:Blk w m [f,h] c)(j:m≠n):Blk ((w.setCell ⟨n,0,none⟩ a).setCell ⟨n,1,none⟩ b) n [a,b] T/\Blk ((w.setCell ⟨n,0,none⟩ a).setCell ⟨n,1,none⟩ b) m [f,h] c/\Fr w ((w.setCell ⟨n,0,none⟩ a).setCell ⟨n,1,none⟩ b) (λg=>g=n):=
 ⟨Blk.pa B a b,(Fr.pa w n a b).bl i (λe=>j e),Fr.pa w n a b⟩
section
variable {A:Cs} {w:Aw} {sw sr:BA}
def qT(S:xg A w)(h:yV w)(j:yJ w)(i:vD w)(s:BA):∀W,Fr w W N_->Calls prog 32 #[.string s] W (im W s (uC A)):=λW c=>by
 have hz:=c.size;have f:∀V,yt W V->yt w V:=λV b g hg=>(b g M_).trans (c.block g hg id);exact KX (S.fr c).errs (λV b=>h V (f V b)) (λV b=>j V (f V b)) (KK (λV b=>i V (f V b)))
def pY(w:Aw):∃b,b=(w.alloc (.cells #[L_,.nilIface] 65)).alloc (.cells #[L_,.nilIface] 65)/\Fr w b N_/\b.heap.size=w.heap.size+2/\Blk b w.heap.size [L_,.nilIface] 65/\Blk b (w.heap.size+1) [L_,.nilIface] 65:=by
 refine⟨_,rfl,((A_ w N_).alloc _).alloc _,by rw[yx,yx],(B_ w #[L_,.nilIface] 65).alloc _,?_⟩;have h:=B_ (w.alloc (.cells #[L_,.nilIface] 65)) #[L_,.nilIface] 65;rw[yx]at h;exact h
def cwog1_{p:Prop}(h:p:=by
 (first|(have:=cc1;have s1:=st2 (a:=.slice sa sn sc) (b:=.iface rT rx) hbb.o.1 hbb.o.2 M_)|(have s1:=st2 (a:=.slice sa sn sc) (b:=.nilIface) hbb.o.1 hbb.o.2 M_));have s2:=st2 (a:=L_) (b:=.nilIface) s1.1 s1.2.1 M_;have s3:=st2 (a:=L_) (b:=.nilIface) s2.2.1 s2.1 M_;have q0:=s3.2.1.c0;have q1:=s3.2.1.c1;have q2:=s3.1.c0;have q3:=s3.1.c1;refine bodyPost_ret (v:=.tuple #[.agg #[L_,.nilIface],.agg #[L_,.nilIface],.iface T x]) xx_ rfl ?_;rw[Q_.o];have F3:Fr w1 _ (λg=>g=w.heap.size\/g=w.heap.size+1):=((s1.2.2.mono (λ_ _ e=>.inl e)).trans s2.2.2 (λ_ _ e=>.inl e)).trans s3.2.2 (λ_ _ e=>.inr e);have F4:=(Fz.o.trans hf1.o u_).trans F3 (λx hx e=>M_);refine⟨_,_,_,_,_,rfl,F4,.inr ⟨λh=>h0.o h.1,rfl,rfl,rfl,rfl,⟨_,_,rfl⟩,?_⟩⟩;rw[n_ h0.o];exact(hEr.o.frS F3 (λg hg e=>by have:=hz2.o;omega)).numIs (S.o.fr F4) h0.o):p:=h
def og(S:xg A w)(k:yV w)(m:yJ w)(l:vD w)(h0:(zl sw).1≠0):Calls prog 16 #[.string sw,.string sr] w (pW w sw sr):=by
 refine hq_ λu Q_=>?_;obtain⟨r,j,Fz,hz2,f,i⟩:=pY w;have n:=zy (qT S k m l sw r Fz);revert S h0 j Fz hz2 f;refine m_ λS h0 j Fz hz2 f=>?_;replace i:=zy i;clear k m l;go_in;go_wp2_with (go_at_call 32;rw[<- j.o];apply n.o.mono;rintro e w1 ⟨sv,rv,z,rfl,⟨sa,sn,sc,rfl⟩,q,hf1,hEr,-⟩;obtain⟨T,x,rfl,_⟩:=hEr.num (S.o.fr (Fz.o.trans hf1 u_)) h0;have b:=hf1.bl f id;have c:=hf1.bl i id;have r0:=b.c0;have r1:=b.c1;have B:=b.th 0;have C:=b.th 1;have H:=c.c0;have I:=c.c1;have D:=c.th 0;have E:=c.th 1;have hbb:=zy (And.intro b c);replace hf1:=zy hf1;replace hEr:=zy hEr;clear b c n;rcases q with rfl|⟨rT,rx,rfl⟩)
 .exact cwog1_
 .have cc1:=Nat;exact cwog1_
def cwoq1_{p:Prop}(h:p:=by
 (first|(have:=cc1;have s2:=st2 (a:=.slice sa' sn' sc') (b:=.iface rT' rx') hbb.o.2 hbb.o.1 M_)|(have s2:=st2 (a:=.slice sa' sn' sc') (b:=.nilIface) hbb.o.2 hbb.o.1 M_));have s3:=st2 (a:=L_) (b:=.nilIface) s2.2.1 s2.1 M_;have s4:=st2 (a:=L_) (b:=.nilIface) s3.2.1 s3.1 M_;have q0:=s4.2.1.c0;have q1:=s4.2.1.c1;have q2:=s4.1.c0;have q3:=s4.1.c1;refine bodyPost_ret (v:=.tuple #[.agg #[L_,.nilIface],.agg #[L_,.nilIface],.iface T x]) xx_ rfl ?_;rw[Q_.o];have F3:Fr w2 _ (λg=>g=w.heap.size\/g=w.heap.size+1):=((s2.2.2.mono (λ_ _ e=>.inr e)).trans s3.2.2 (λ_ _ e=>.inl e)).trans s4.2.2 (λ_ _ e=>.inr e);have F4:=F2.o.trans F3 (λx hx e=>M_);refine⟨_,_,_,_,_,rfl,F4,.inr ⟨λh=>h1.o h.2,rfl,rfl,rfl,rfl,⟨_,_,rfl⟩,?_⟩⟩;rw[i_ h0.o];exact(hEr.o.frS F3 (λg hg e=>by have:=hlo.o;omega)).numIs (S.o.fr F4) h1.o):p:=h
def oq(S:xg A w)(q:yV w)(u:yJ w)(r:vD w)(h0:(zl sw).1=0)(h1:(zl sr).1≠0):Calls prog 16 #[.string sw,.string sr] w (pW w sw sr):=by
 refine hq_ λU Q_=>?_;obtain⟨O,z,j,F,m,n⟩:=pY w;have D:=zy (qT S q u r sw O j);have E:=zy (qT S q u r sr);revert S h0 h1 z j;refine k_ λS h0 h1 z j=>?_;revert F m n;refine h_ λF m n=>?_;clear q u r;go_in;go_wp2_with (first
  |(go_at_call 32;rw[<- z.o];apply D.o.mono;rintro e w1 ⟨sv,rv,G,rfl,-,-,k,hEr,C⟩;obtain⟨_,rfl⟩:=hEr.zero h0;obtain⟨sa,sn,sc,rT,rx,rfl,rfl⟩:=(C h0).forms;have c:=k.bl m id;have f:=k.bl n id;have X:w.heap.size+1<w1.heap.size:=f.lt;have r0:=c.c0;have r1:=c.c1;have H:=c.th 0;have I:=c.th 1;have i:=zy (st2 (a:=.slice sa sn sc) (b:=.iface rT rx) c f M_);have B:=zy (j.o.trans k u_);clear c f D k hEr C)
  |(go_at_call 32;apply(E.o _ (B.o.trans i.o.2.2 (λx hx e=>M_))).mono;rintro e w2 ⟨sv',a1,G,rfl,⟨sa',sn',sc',rfl⟩,L,l,hEr,-⟩;have hlo:=zy i.o.2.2.size;have F2:=zy ((B.o.trans i.o.2.2 (λx hx e=>M_)).trans l u_);obtain⟨T,x,rfl,_⟩:=hEr.num (S.o.fr F2) h1;have c:=l.bl i.o.1 id;have f:=l.bl i.o.2.1 id;have r0:=c.c0;have r1:=c.c1;have H:=c.th 0;have I:=c.th 1;have M:=f.c0;have N:=f.c1;have J:=f.th 0;have K:=f.th 1;have hbb:=zy (And.intro c f);replace hEr:=zy hEr;clear c f E l;rcases L with rfl|⟨rT',rx',rfl⟩))
 .exact cwoq1_
 .have cc1:=Nat;exact cwoq1_
def ox(S:xg A w)(I:yV w)(K:yJ w)(J:vD w)(h0:(zl sw).1=0)(h1:(zl sr).1=0):Calls prog 16 #[.string sw,.string sr] w (pW w sw sr):=by
 refine hq_ λa3 Q_=>?_;obtain⟨wz,M,r,i,G,H⟩:=pY w;have hR:=zy (qT S I K J sw wz r);have a0:=zy (qT S I K J sr);revert S h0 h1 M r;refine k_ λS h0 h1 M r=>?_;revert i G H;refine h_ λi G H=>?_;clear I K J;go_in;go_wp2_with (first
  |(go_at_call 32;rw[<- M.o];apply hR.o.mono;rintro e w1 ⟨sv,rv,ev,rfl,-,-,u,l,m⟩;obtain⟨_,rfl⟩:=l.zero h0;have hX:=zy (m h0);obtain⟨sa,sn,sc,rT,rx,rfl,rfl⟩:=hX.o.forms;have c:=u.bl G id;have f:=u.bl H id;have a5:w.heap.size+1<w1.heap.size:=f.lt;have r0:=c.c0;have r1:=c.c1;have X:=c.th 0;have Y:=c.th 1;have h:=zy (st2 (a:=.slice sa sn sc) (b:=.iface rT rx) c f M_);have V:=zy (r.o.trans u u_);clear c f hR u l m)
  |(go_at_call 32;apply(a0.o _ (V.o.trans h.o.2.2 (λx hx e=>M_))).mono;rintro e U ⟨sv',a8,ev,rfl,-,-,n,l,m⟩;obtain⟨_,rfl⟩:=l.zero h1;have L:=zy (m h1);obtain⟨D,F,E,z,B,rfl,rfl⟩:=L.o.forms;have q:=zy h.o.2.2.size;have a2:=zy ((hX.o.frS h.o.2.2 (λg hg e=>by have:=i.o;omega)).frS n u_);have c:=n.bl h.o.1 id;have f:=n.bl h.o.2.1 id;have r0:=c.c0;have r1:=c.c1;have X:=c.th 0;have Y:=c.th 1;have r2:=f.c0;have r3:=f.c1;have g2:=f.th 0;have g3:=f.th 1;have s2:=zy (st2 (a:=.slice D F E) (b:=.iface z B) f c M_);have F2:=zy ((V.o.trans h.o.2.2 (λx hx e=>M_)).trans n u_);clear c f a0 n l m hX))
 have s3:=s2.o;obtain⟨W3,a1⟩:=e_ ((U.setCell ⟨w.heap.size+1,0,none⟩ (.slice D F E)).setCell ⟨w.heap.size+1,1,none⟩ (.iface z B));rw[<- a1]at s3⊢;obtain⟨b1,b0,f3⟩:=s3;have F3:=zy (F2.o.trans f3 (λx hx e=>M_));have Y1:=zy (a2.o.frS f3 (λg hg e=>by have:=i.o;omega));have Y2:=zy (L.o.frS f3 (λg hg e=>by have:=q.o;omega));have c0:=b0.c0;have c1:=b0.c1;have c2:=b1.c0;have c3:=b1.c1;have t0:=b0.th 0;have t1:=b0.th 1;have t2:=b1.th 0;have t3:=b1.th 1;have C:=st2 (a:=.slice sa sn sc) (b:=.iface rT rx) b0 b1 M_;have j:=st2 (a:=.slice D F E) (b:=.iface z B) C.2.1 C.1 M_;have N:=j.2.1.drew.c0;have O:=j.2.1.drew.c1;have T:=j.1.drew.c0;have q3:=j.1.drew.c1;have k:Fr W3 _ (λg=>g=w.heap.size\/g=w.heap.size+1):=((C.2.2.mono (λ_ _ e=>.inl e)).trans j.2.2 (λ_ _ e=>.inr e)).drew;revert N O T q3 k;refine k_ λN O T q3 k=>?_;replace q:=zy (show w.heap.size+2<=((w1.setCell ⟨w.heap.size,0,none⟩ (.slice sa sn sc)).setCell ⟨w.heap.size,1,none⟩ (.iface rT rx)).heap.size by have:=q.o;omega);clear b0 b1 f3 a1 s2 h r0 r1 r2 r3 X Y g2 g3 C j a2 L;go_region;go_wp2;refine bodyPost_ret (v:=.tuple #[.agg #[.slice sa sn sc,.iface rT rx],.agg #[.slice D F E,.iface z B],.nilIface]) (by simp[results,results16,go_sem,N.o,O.o,T.o,q3.o]) rfl ?_;rw[Q_.o];refine⟨_,_,_,_,_,rfl,F3.o.trans k (λx hx e=>M_),.inl ⟨h0,h1,rfl,?_,?_⟩⟩
 .exact(Y1.o.frS k (λg hg e=>by have:=i.o;omega)).ls (by have:=i.o;omega)
 .exact(Y2.o.frS k (λg hg e=>by have:=q.o;omega)).ls (by have:=q.o;omega)
def nL(S:xg A w)(b:yV w)(f:yJ w)(c:vD w):Calls prog 16 #[.string sw,.string sr] w (pW w sw sr):=by
 by_cases h0:(zl sw).1=0
 .by_cases h1:(zl sr).1=0
  .exact ox S b f c h0 h1
  .exact oq S b f c h0 h1
 .exact og S b f c h0
end
def DfM(k0:Nat)(Q:Au)(W:Aw)(s:BA)(ds:Ar)(xs:Az):Prop:=
 ∃blk,pK (nh blk) W ds xs/\aM Q ds blk/\∀f∈zp ds,∀a e,f.dflt=some (a,e)->∃x d,yD (zx ds) true f.ty (s.extract a e)=some d/\Blk W (blk a) [I_ a,.string (s.extract a e),x] 189/\DaV (zx ds) W (λg=>g<k0) d f.ty x
def DfM.fr{k0:Nat}{Q:Au}{w:Aw}{s:BA}{ds:Ar}{sv:Ax}{xs:Az}(h:DfM k0 Q w s ds xs)(D:xf w Q s ds sv xs)(b:Fr w w' N_):DfM k0 Q w' s ds xs:=by
 obtain⟨blk,h1,c,g⟩:=h;refine⟨blk,h1.to D (λfv n zs hP ho=>zk ho b u_),c,λf hm a e he=>?_⟩;obtain⟨x,d,r1,c,i⟩:=g f hm a e he;exact⟨x,d,r1,b.bl c id,i.fr b u_⟩
def Dfs.dfm{Q:Au}{w:Aw}{s:BA}{ds:Ar}{xs:Az}(h:Dfs lo Q w s ds xs):DfM w.heap.size Q w s ds xs:=by
 obtain⟨blk,h1,b,c⟩:=h;refine⟨blk,h1,b,λf hm a e he=>?_⟩;obtain⟨x,d,r1,b,i⟩:=c f hm a e he;exact⟨x,d,r1,b,i.mono (λg hg _=>hg)⟩
structure MC(w0:Aw)(P Q:Au)(s s':BA)(ds ds':Ar)(sv sv':Ax)(xs xs':Az)(k0:Nat)(nt:As)(nx:Ax)(W:Aw):Prop where
 D:xf W P s ds sv xs
 E:xf W Q s' ds' sv' xs'
 F:DfM k0 Q W s' ds' xs'
 G:yt w0 W
 X:vt 6 w0 nt nx
 z:w0.heap.size<=W.heap.size
 k:k0<=W.heap.size
structure MS(w0:Aw)(ds ds':Ar):Prop where
 I:yV w0
 K:yJ w0
 g:jj ds
 g':jj ds'
 f:uM (zx ds)
 f':uM (zx ds')
def yi(er:Ay)(y:PT)(k0:Nat)(w:Aw)(nt:As)(nx:Ax)(o:Cg)(e:Ah)(w':Aw):Prop:=
 ∃v ev,e=.returned (.tuple #[v,ev])/\Fr w w' N_/\
 match o with
 |some d=>ev=.nilIface/\DaV er w' (λg=>g<k0\/w.heap.size<=g) d y v
 |none=>v=.nilIface/\jp w' w.heap.size nt nx ev
section
variable {w0 w w1 W W':Aw} {P Q:Au} {s s':BA} {ds ds':Ar} {sv sv':Ax} {xs xs':Az} {k0:Nat} {nt:As} {nx:Ax} {er:Ay} {y:PT} {o:Cg} {e:Ah}
def MC.new(M:MC w0 P Q s s' ds ds' sv sv' xs xs' k0 nt nx W)(b:Fr W W' N_):MC w0 P Q s s' ds ds' sv sv' xs xs' k0 nt nx W':=
 ⟨M.D.fr b u_,M.E.fr b u_,M.F.fr M.E b,M.G.fr b M.z (λ_ f=>f.elim),M.X,ai_ M.z b.size,ai_ M.k b.size⟩
def MC.err(M:MC w0 P Q s s' ds ds' sv sv' xs xs' k0 nt nx W):W.cell? ⟨6,0,none⟩=some (.iface nt nx):=M.G.err M.X
def yi.pre(b:Fr w w1 N_)(h:yi er y k0 w1 nt nx o e W):yi er y k0 w nt nx o e W:=by
 obtain⟨v,c,he,f,hm⟩:=h;have hz:=b.size;refine⟨v,c,he,b.trans f u_,?_⟩;cases o with
 |none=>exact⟨hm.1,hm.2.ls hz⟩
 |some d=>exact⟨hm.1,hm.2.mono (λg _ hg=>M_)⟩
def yi.two(b:Fr w w1 N_)(h:yi er y k0 w1 nt nx o e W):Fr w1 W N_/\yi er y k0 w nt nx o e W:=
 ⟨by obtain⟨_,_,_,h,_⟩:=h;exact h,h.pre b⟩
def yi.tup(h:yi er y k0 w nt nx o e W):∃v b,e=.returned (.tuple #[v,b])/\yi er y k0 w nt nx o (.returned (.tuple #[v,b])) W:=by
 have c:=h;obtain⟨v,b,he,_⟩:=c;exact⟨v,b,he,he▸h⟩
end
def ZD(w0:Aw)(P Q:Au)(s s':BA)(ds ds':Ar)(sv sv':Ax)(xs xs':Az)(k0:Nat)(nt:As)(nx:Ax)(sT:As)(sx:Ax)(rT:As)(rx:Ax)(f:Nat):Prop:=
 ∀(w:World) (x y:PT) (d:DT) (a b v:Value),MC w0 P Q s s' ds ds' sv sv' xs xs' k0 nt nx w->TyV w P x a->TyV w Q y b->okT (zx ds) x->okT (zx ds') y->xM y->Dat (zx ds) d x->DaV (zx ds) w (λg=>g<k0) d x v->ndT d<=300->ndT d<=f->
  Calls prog 34 #[.agg #[sv,.iface sT sx,sv',.iface rT rx],a,b,v] w (yi (zx ds') y k0 w nt nx (mkP (zx ds) (zx ds') (yN (zx ds') s') f x y d))
def jG.growJ{w1 f:Aw}{B:Nat}{b:Au}{ds:Ak}{lv c:Ax}{Y:Cx}(k:∀i d,ds[i]?=some d->DaV env w1 (λg=>b g/\lv.ownBlock≠some g) d (zN env t 0 i) (Y i))(hd:DaV env w1 (λg=>b g/\lv.ownBlock≠some g) d (zN env t 0 ds.length) v)(l:Fr w1 f (λg=>lv.ownBlock=some g))(hl:c.ownBlock=lv.ownBlock\/∃h,c.ownBlock=some h/\w1.heap.size<=h)(ho:f.ownsRow B 69 1 c (ds.length+1) (((List.range ds.length).flatMap λi=>[Y i])++[v])):jG env f B (λg=>b g/\c.ownBlock≠some g) t c (ds++[d]):=by
 have up:∀{d u v},DaV env w1 (λg=>b g/\lv.ownBlock≠some g) d u v->DaV env f (λg=>b g/\c.ownBlock≠some g) d u v:=λh=>by
  have h1:DaV env w1 (λg=>(b g/\lv.ownBlock≠some g)/\g<w1.heap.size) _ _ _:=h.mono (λg h1 b=>⟨b,h1⟩);refine(h1.fr l (λg hg e=>hg.1.2 e)).mono (λg _ hg=>⟨hg.1.1,λe=>?_⟩);rcases hl with h|⟨q,h,b⟩
  .exact hg.1.2 (h▸e)
  .rw[h]at e;have:=hg.2;simp only[ae_]at e;omega
 refine⟨λi=>if i<ds.length then Y i else v,?_,λi e he=>?_⟩
 .rw[ah_,ap_,bt_,bj_,yo ds.length _ (λi=>[Y i]) (λi j=>by simp[j])];simpa using ho
 .rcases bG he with⟨j,he⟩|⟨rfl,rfl⟩
  .simp only[j,if_true];exact up (k i e he)
  .simp only[b2_,if_false];exact up hd
def qJ.growJ{w1 l:Aw}{c:Au}{es:Ae}{ys:Az}{lv j:Ax}{key:BA}(h:qJ env w1 (λg=>c g/\lv.ownBlock≠some g) t es ys)(hd:DaV env w1 (λg=>c g/\lv.ownBlock≠some g) d (zN env t 0 es.length) v)(hk:key.size<=4000)(m:Fr w1 l (λg=>lv.ownBlock=some g))(hl:j.ownBlock=lv.ownBlock\/∃h,j.ownBlock=some h/\w1.heap.size<=h):qJ env l (λg=>c g/\j.ownBlock≠some g) t (es++[(key,d)]) (ys++[.string key,v]):=by
 obtain⟨Y,a,b,k⟩:=h;have up:∀{d u v},DaV env w1 (λg=>c g/\lv.ownBlock≠some g) d u v->DaV env l (λg=>c g/\j.ownBlock≠some g) d u v:=λh=>by
  have h1:DaV env w1 (λg=>(c g/\lv.ownBlock≠some g)/\g<w1.heap.size) _ _ _:=h.mono (λg h1 c=>⟨c,h1⟩);refine(h1.fr m (λg hg e=>hg.1.2 e)).mono (λg _ hg=>⟨hg.1.1,λe=>?_⟩);rcases hl with h|⟨q,h,c⟩
  .exact hg.1.2 (h▸e)
  .rw[h]at e;have:=hg.2;simp only[ae_]at e;omega
 refine⟨λi=>if i<es.length then Y i else v,?_,λi e he=>?_,λe he=>?_⟩
 .have c:=yo es.length (λi=>[Value.string (((es++[(key,d)]).map Prod.fst).getD i noB),if i<es.length then Y i else v]) (λi=>[Value.string ((es.map Prod.fst).getD i noB),Y i]) (λi f=>by
   simp only[bh_,az_]
   rw[ay_ (by simpa using f),i_ f])
  rw[a,ah_,ap_,bt_,bj_,c];simp[az_]
 .rcases bG he with⟨f,he⟩|⟨rfl,rfl⟩
  .simp only[f,if_true];exact up (b i e he)
  .simp only[b2_,if_false];exact up hd
 .rcases bn_.1 he with h|h
  .exact k e h
  .simp only[ba_]at h;subst h;exact hk
section
variable {w:Aw} {sa ra:Ao} {sn sc rn rc:Nat} {sT rT aT bT dT:As} {sx rx ax bx dx:Ax}
def JS{N:Du}(q:∀W,Fr w W N_->Calls prog 59 #[.agg #[.slice sa sn sc,.iface sT sx,.slice ra rn rc,.iface rT rx],.iface aT ax,.iface bT bx] W (λe w'=>∃T u,e=.returned (.iface T u)/\Fr W w' N_/\N (.iface T u) w'))(hB:∀W T u,Fr w W N_->N (.iface T u) W->Calls prog 58 #[.agg #[.slice sa sn sc,.iface sT sx,.slice ra rn rc,.iface rT rx],.iface T u,.iface dT dx] W (λe w'=>∃v k,e=.returned (.tuple #[v,k])/\Fr W w' N_/\R (.returned (.tuple #[v,k])) w')):Calls prog 34 #[.agg #[.slice sa sn sc,.iface sT sx,.slice ra rn rc,.iface rT rx],.iface aT ax,.iface bT bx,.iface dT dx] w R:=by
 refine hq_ λk z=>?_;replace q:=zy q;replace hB:=zy hB;obtain⟨i,g⟩:=e_ (w.alloc (.cells #[.slice sa sn sc,.iface sT sx,.slice ra rn rc,.iface rT rx] 101));have j:Fr w i N_:=by rw[g];exact(A_ w N_).alloc _
 have c:Blk i w.heap.size [.slice sa sn sc,.iface sT sx,.slice ra rn rc,.iface rT rx] 101:=by
  rw[g];exact B_ w #[.slice sa sn sc,.iface sT sx,.slice ra rn rc,.iface rT rx] 101
 obtain⟨r,b⟩:∃C:World->Prop,C=λW=>W.cell? ⟨w.heap.size,0,none⟩=some (.slice sa sn sc)/\W.cell? ⟨w.heap.size,1,none⟩=some (.iface sT sx)/\W.cell? ⟨w.heap.size,2,none⟩=some (.slice ra rn rc)/\W.cell? ⟨w.heap.size,3,none⟩=some (.iface rT rx):=⟨_,rfl⟩;have n:=zy (λW (k:Fr i W N_)=>show r W by
  rw[b]
  exact⟨(k.bl c id).cell 0,(k.bl c id).cell 1,(k.bl c id).cell 2,(k.bl c id).cell 3⟩)
 replace j:=zy j;replace g:=zy g;replace b:=zy b;go_in;go_wp2;rw[<- g.o];refine tR_ r ?_;refine zm 0 ?v0 rfl K_ (λ_ _ _ h=>h) K_ ?yv0 ?_;case yv0=>(intro W h;rw[b.o]at h;obtain⟨c0,c1,c2,c3⟩:=h;go_simp<;>rfl)
 refine zm 1 ?v1 rfl K_ (λ_ _ _ h=>h) K_ ?yv1 ?_;case yv1=>(intro W h;rw[b.o]at h;obtain⟨c0,c1,c2,c3⟩:=h;go_simp<;>rfl)
 refine zm 2 ?v2 rfl K_ (λ_ _ _ h=>h) K_ ?yv2 ?_;case yv2=>(intro W h;rw[b.o]at h;obtain⟨c0,c1,c2,c3⟩:=h;go_simp<;>rfl)
 refine zm 3 ?v3 rfl K_ (λ_ _ _ h=>h) K_ ?yv3 ?_;case yv3=>(intro W h;rw[b.o]at h;obtain⟨c0,c1,c2,c3⟩:=h;go_simp<;>rfl)
 refine zm 5 ?v5 rfl K_ (λ_ _ _ h=>h) K_ ?yv5 ?_;case yv5=>(intro W h;rw[b.o]at h;obtain⟨c0,c1,c2,c3⟩:=h;go_simp<;>rfl)
 refine zd 4 rfl K_ (n.o _ (A_ i _).drew) (λm f=>?_);go_simp;apply(q.o _ j.o.drew).mono;rintro e w1 ⟨b,b,rfl,c,b⟩;have l:=zy ((A_ i N_).drew.trans c u_);replace b:=zy b;refine f _ _ ?_;refine zd 6 rfl K_ (n.o _ l) (λm f=>?_);go_simp;apply(hB.o _ _ _ (j.o.trans l u_) b).mono;rintro e b ⟨v2,B,rfl,c,b⟩;have g:=zy (l.o.trans c u_);replace b:=zy b;refine f _ _ ?_;refine tY_ 7 ?_;refine tY_ 8 ?_;refine tY_ 9 ?_;refine tY_ 10 ?_;refine zV K_ (n.o _ g) ?_ _;go_wp2;refine bodyPost_ret (v:=.tuple #[v2,B]) (by simp[results,results34,go_sem];try rfl) rfl ?_;rw[z.o];exact b
def sG{l y:PT}{k0:Nat}{nt:As}{nx:Ax}{er:Ay}{n:Nat}{o:Cg}(hn:n<=4000)(hy:zN er y n 0=l)(h:∀W,Fr w W N_->Calls prog 58 #[.agg #[.slice sa sn sc,.iface sT sx,.slice ra rn rc,.iface rT rx],.iface bT bx,.iface dT dx] W (yi er l k0 W nt nx o)):Calls prog 92 #[.agg #[.slice sa sn sc,.iface sT sx,.slice ra rn rc,.iface rT rx],.agg #[I_ n,.iface bT bx],.iface dT dx] w (yi er y k0 w nt nx (o.map λx=>.mk 40 (n:Int) noB [] [x])):=by
 refine hq_ λl k=>?_;have j:=zy (λo l=>((A_ w N_).alloc o).alloc l);have g:Blk ((w.alloc (.cells #[.slice sa sn sc,.iface sT sx,.slice ra rn rc,.iface rT rx] 101)).alloc (.cells #[I_ n,.iface bT bx] 225)) (w.heap.size+1) [I_ n,.iface bT bx] 225:=by
  have h:=B_ (w.alloc (.cells #[.slice sa sn sc,.iface sT sx,.slice ra rn rc,.iface rT rx] 101)) #[I_ n,.iface bT bx] 225;rw[yx]at h;exact h
 replace g:=zy g;replace h:=zy (λW l=>(h W l).mono (λe w' q=>yi.two l q));cases o with
 |none=>
  go_in;go_wp2_with (go_at_call 58;apply(h.o _ (j.o _ _)).mono;rintro e w1 ⟨f,z,r,rfl,b,i,c⟩;subst i;obtain⟨m,u,rfl⟩:=c.iface;replace b:=zy b;replace c:=zy c);try go_ret
  rw[k.o];exact⟨_,_,rfl,b,rfl,c⟩
 |some x=>
  go_in;go_wp2_with (go_at_call 58;apply(h.o _ (j.o _ _)).mono;rintro e w1 ⟨f,z,r,rfl,b,i,c⟩;subst i;obtain⟨m,u,rfl⟩:=c.iface;have i:=(f.bl g id).c0;replace b:=zy b;replace c:=zy c);try go_ret
  rw[k.o];refine⟨_,_,rfl,b,rfl,?_⟩;refine .branch n hn ?_;rw[hy];exact c
end
end Go.Proofs.YtahhhgbojlkjnaaGreatDoor
