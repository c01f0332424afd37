import Derived.Test.YtjkiencmjggakaaGreatDoorW18
import Derived.Maps.OwnSet
import Derived.Laws.OwnMore
set_option maxHeartbeats 16000000
set_option maxRecDepth 100000
set_option linter.unusedVariables false
set_option linter.defProp false
set_option linter.unusedSimpArgs false
open Go.Proofs.Tryz
namespace Go.Proofs.YtjkiencmjggakaaGreatDoor
open Go.RowKit
variable {n b lo m q:Nat}{s s':BA}{S P Q:Nat->Prop}{ns:List Nat}{D:Nat->Value}{x:PT}{v sv pv dv kv:Value}{W1:World}
section
variable {w:World} {p:Nat} {sa ra:Option Addr} {sn sc rn rc:Nat} {sT rT aT bT:TypeId} {sx rx ax bx:Value}
def Xv{R:Ending->World->Prop}{ua:Option Addr}{un uc:Nat}(ha:aT≠210)(h:∀W,Fr w W N_->Calls prog 126 #[.agg #[.slice sa sn sc,.iface sT sx,.slice ra rn rc,.iface rT rx],.iface aT ax,.agg #[I_ p,.slice ua un uc]] W (λe w'=>∃v,e=.returned v/\R (.returned v) w')):Calls prog 82 #[.agg #[.slice sa sn sc,.iface sT sx,.slice ra rn rc,.iface rT rx],.iface aT ax,.iface 210 (.agg #[I_ p,.slice ua un uc])] w R:=by
 have cc1:=trivial
 exact cq20_
end
inductive MeV (w:World) (P Q:Nat->Prop) (s s':BA) (ew er:Nat->Option PB) (Z:PB->Value->Prop):PT->PT->Value->Prop
 |outb {p:Nat} {ws:List PT} {y:PT} {uv b:Value} (X:Nat->Value) (ho:w.ownsRow 0 53 1 uv ws.length ((List.range ws.length).map X)) (hX:∀i t,ws[i]?=some t->TyV w P t (X i)) (hb:TyV w Q y b) (hP:∀g,uv.ownBlock=some g->P g):MeV w P Q s s' ew er Z (.alts p ws) y (.iface 273 (.agg #[uv,b]))
 |into {x:PT} {p:Nat} {rs:List PT} {v:Value} (fx:vH x) (h:BrV w P Q s s' ew er Z x rs (xk ew er x rs 0 none) v):MeV w P Q s s' ew er Z x (.alts p rs) v
 |flat {x y:PT} {v:Value} (fx:vH x) (fy:vH y) (h:MtV w P Q s s' ew er Z x y v):MeV w P Q s s' ew er Z x y v
def BrV.iface{w:World}{ew er:Nat->Option PB}{Z:PB->Value->Prop}{rs:List PT}{k:Option Nat}(h:BrV w P Q s s' ew er Z x rs k v):∃T u,v=.iface T u:=by
 cases k with
 |none=>exact⟨_,_,h⟩
 |some i=>obtain⟨_,_,_,_,rfl,_⟩:=h;exact⟨_,_,rfl⟩
def MeV.iface{w:World}{ew er:Nat->Option PB}{Z:PB->Value->Prop}{y:PT}(h:MeV w P Q s s' ew er Z x y v):∃T u,v=.iface T u:=by
 cases h with
 |outb=>exact⟨_,_,rfl⟩
 |into fx h=>exact h.iface
 |flat fx fy h=>exact h.iface
def mh{env:Nat->Option PB}{t:PT}(h:okT env t)(ha:t.isAlts=false):vH t:=by
 cases t with
 |leaf c p=>exact trivial
 |wrap c p u=>unfold okT at h;exact h.1
 |alts p l=>simp[PT.isAlts]at ha
def ue{env:Nat->Option PB}{t:PT}(h:okT env t):∀c p,t=.leaf c p->zp c=true->∃X,env c=some X:=λc p e hn=>by
 subst e;unfold okT at h;rcases h with h|h
 .rw[xM hn]at h;cases h
 .exact h.2
def TyV.alts_inv{w:World}{p:Nat}{l:List PT}(h:TyV w P (.alts p l) v):∃(uv:Value) (X:Nat->Value),v=.iface 210 (.agg #[I_ p,uv])/\w.ownsRow 0 53 1 uv l.length ((List.range l.length).map X)/\(∀g,uv.ownBlock=some g->P g)/\∀i t,l[i]?=some t->TyV w P t (X i):=by
 cases h with
 |alts p X ho hP h=>exact⟨_,X,rfl,ho,hP,h⟩
def TyV.flat_ne{w:World}{T:TypeId}{u:Value}(h:TyV w P x (.iface T u))(fx:vH x):T≠210:=by
 cases h with
 |base c p h=>exact(jx c).2.2.1
 |name c p h=>decide
 |wrap c p h=>
  rcases fx with rfl|rfl
  .decide
  .decide
 |alts p X ho hP h=>exact fx.elim
def JP{w:World}{ds ds':List PD}{sv':Value}{xs xs':List Value}{sT rT:TypeId}{sx rx:Value}{y:PT}{a b:Value}(D:xf w P s ds sv xs)(E:xf w Q s' ds' sv' xs')(ha:TyV w P x a)(hb:TyV w Q y b)(hx:okT (zx ds) x)(hy:okT (zx ds') y)(fy:vu y):Calls prog 82 #[.agg #[sv,.iface sT sx,sv',.iface rT rx],a,b] w λe w'=>∃v,e=.returned v/\Fr w w' N_/\MeV w' P Q s s' (zx ds) (zx ds') (ZV ds' xs') x y v:=by
 obtain⟨sa,sc,z⟩:=zl D.row;obtain⟨ra,rc,r⟩:=zl E.row;cases d:x.isAlts with
 |true=>
  cases x with
  |leaf c p=>simp[PT.isAlts]at d
  |wrap c p u=>simp[PT.isAlts]at d
  |alts p ws=>
   obtain⟨uv,X,rfl,ho,hP,hX⟩:=ha.alts_inv;obtain⟨bT,bx,rfl⟩:=hb.iface;obtain⟨f,j,B⟩:=zl ho;subst z r B;apply JF.mono;rintro e w' ⟨rfl,hf⟩;exact⟨_,rfl,hf,.outb X (zj ho hf u_) (λi t h=>(hX i t h).fr hf u_) (hb.fr hf u_) hP⟩
 |false=>
  have fx:=mh hx d;cases C:y.isAlts with
  |true=>
   cases y with
   |leaf c p=>simp[PT.isAlts]at C
   |wrap c p u=>simp[PT.isAlts]at C
   |alts p rs=>
    obtain⟨uv,X,rfl,ho,hP,hX⟩:=hb.alts_inv;obtain⟨aT,ax,rfl⟩:=ha.iface;obtain⟨f,j,B⟩:=zl ho;unfold okT at hy;unfold vu at fy;have j:=vp hy.2;have o:=λW (d:Fr w W N_)=>(mV (sT:=sT) (rT:=rT) (sx:=sx) (rx:=rx) (p:=p) (D.fr d u_) (E.fr d u_) (ha.fr d u_) fx (ue hx) (zj ho d u_) hP (λi t h=>(hX i t h).fr d u_) M_ (λt f=>mh (j t f).2 (j t f).1) (λt f=>ue (j t f).2)).mono (λe w' (q:∃v,e=.returned v/\Fr W w' N_/\BrV w' P Q s s' (zx ds) (zx ds') (ZV ds' xs') x rs (xk (zx ds) (zx ds') x rs 0 none) v)=>show ∃v,e=.returned v/\∃f,Ending.returned v=.returned f/\Fr w w' N_/\MeV w' P Q s s' (zx ds) (zx ds') (ZV ds' xs') x (.alts p rs) f by
     obtain⟨v,h1,k,l⟩:=q
     exact⟨v,h1,v,rfl,d.trans k u_,.into fx l⟩)
    have j:=ha.flat_ne fx;subst z r B;exact Xv j o
  |false=>
   have j:=mh hy C;obtain⟨aT,ax,rfl⟩:=ha.iface;obtain⟨bT,bx,rfl⟩:=hb.iface;have o:=λW (d:Fr w W N_)=>(rj (sT:=sT) (rT:=rT) (sx:=sx) (rx:=rx) (D.fr d u_) (E.fr d u_) (ha.fr d u_) (hb.fr d u_) fx j (ue hx) (ue hy)).mono (λe w' (q:∃v,e=.returned v/\Fr W w' N_/\MtV w' P Q s s' (zx ds) (zx ds') (ZV ds' xs') x y v)=>show ∃v,e=.returned v/\∃f,Ending.returned v=.returned f/\Fr w w' N_/\MeV w' P Q s s' (zx ds) (zx ds') (ZV ds' xs') x y f by
    obtain⟨v,h1,k,l⟩:=q
    exact⟨v,h1,v,rfl,d.trans k u_,.flat fx j l⟩)
   have d:=ha.flat_ne fx;have f:=hb.flat_ne j;subst z r;exact Xj d f o
@[go_sem]def Fg:=yB 273 226
@[go_sem]def Pw:=vv 273 226 (.agg #[L_,.nilIface])
@[go_sem]def Pg:=yB 276 226
@[go_sem]def PY:=vv 276 226 (.agg #[O_,.nilIface])
@[go_sem]def Wz:=yB 277 226
@[go_sem]def Gz:=vv 277 226 (.agg #[.nilIface,.nilIface])
@[go_sem]def JL:=yB 280 226
@[go_sem]def Kw:=vv 280 226 (.agg #[O_,L_,.pointer none,O_,L_,.pointer none])
@[go_sem]def Kg:=yB 283 226
@[go_sem]def Wy:=vv 283 226 (.agg #[O_,L_,O_,L_])
section
variable {w:World} {sa ra:Option Addr} {sn sc rn rc:Nat} {sT rT aT bT dT:TypeId} {sx rx ax bx dx:Value}
end
def sm(g:Nat->Nat):List Nat->Nat
 | []=>0
 |c::r=>g c+sm g r
def wB(h0:(zg s).1=0):s.size<=300/\∃ds t,ze s=.ok (ds,t):=by
 unfold zg at h0;split at h0
 .simp at h0
 .rename_i hs;refine⟨M_,?_⟩;cases hp:ze s with
  |error k=>rw[hp]at h0;simp at h0
  |ok r=>exact⟨r.1,r.2,rfl⟩
def jj.frS{E:lG}{w w':World}{e:Value}{a:Int×Int}(h:jj E w lo e a)(hf:Fr w w' S)(d:∀g,lo<=g->¬S g):jj E w' lo e a:=by
 rcases h with h|h|⟨h1,c⟩|⟨h1,c⟩|⟨h1,c⟩|⟨h1,f,c,i⟩
 .exact .inl h
 .exact .inr (.inl h)
 .exact .inr (.inr (.inl ⟨h1,c.fr hf d⟩))
 .exact .inr (.inr (.inr (.inl ⟨h1,c.fr hf d⟩)))
 .exact .inr (.inr (.inr (.inr (.inl ⟨h1,c.fr hf d⟩))))
 .exact .inr (.inr (.inr (.inr (.inr ⟨h1,f,c.fr hf d,i.fr hf d⟩))))
def ce.frS{w w':World}{rv:Value}(h:ce lo w s sv rv)(hf:Fr w w' S)(a:∀g,lo<=g->¬S g):ce lo w' s sv rv:=by
 obtain⟨ds,t,xs,hs,hp,hn,hu,D,T⟩:=h;exact⟨ds,t,xs,hs,hp,hn,hu,(D.fr hf (λg hg=>a g hg.1)).mono (λg _ hg=>⟨hg.1,M_⟩),(T.fr hf (λg hg=>a g hg.1)).mono (λg _ hg=>⟨hg.1,M_⟩)⟩
def ce.ls{a:Nat}{w:World}{rv:Value}(h:ce lo w s sv rv)(hl:a<=lo):ce a w s sv rv:=by
 obtain⟨ds,t,xs,hs,hp,hn,hu,D,T⟩:=h;exact⟨ds,t,xs,hs,hp,hn,hu,D.mono (λg _ hg=>⟨M_,hg.2⟩),T.mono (λg _ hg=>⟨M_,hg.2⟩)⟩
def ce.forms{w:World}{rv:Value}(h:ce lo w s sv rv):∃sa sn sc rT rx,sv=.slice sa sn sc/\rv=.iface rT rx:=by
 obtain⟨ds,t,xs,hs,hp,hn,hu,D,T⟩:=h;obtain⟨sa,sc,rfl⟩:=zl D.row;obtain⟨rT,rx,rfl⟩:=T.iface;exact⟨_,_,_,_,_,rfl,rfl⟩
def gN(w:World)(sw sr:BA)(e:Ending)(w':World):Prop:=
 ∃sv rv sv' rv' ev,e=.returned (.tuple #[.agg #[sv,rv],.agg #[sv',rv'],ev])/\Fr w w' N_/\
  (((zg sw).1=0/\(zg sr).1=0/\ev=.nilIface/\ce w.heap.size w' sw sv rv/\ce w.heap.size w' sr sv' rv')\/
   (¬((zg sw).1=0/\(zg sr).1=0)/\sv=L_/\rv=.nilIface/\sv'=L_/\rv'=.nilIface/\(∃T x,ev=.iface T x)/\uj w' ev (if (zg sw).1=0 then (zg sr).1 else (zg sw).1)))
def st2{w:World}{u0 i c d a b:Value}{T T':TypeId}(B:Blk w n [u0,i] T)(f:Blk w m [c,d] T')(h:m≠n):Blk ((w.setCell ⟨n,0,none⟩ a).setCell ⟨n,1,none⟩ b) n [a,b] T/\Blk ((w.setCell ⟨n,0,none⟩ a).setCell ⟨n,1,none⟩ b) m [c,d] T'/\Fr w ((w.setCell ⟨n,0,none⟩ a).setCell ⟨n,1,none⟩ b) (λg=>g=n):=
 ⟨X_ B a b,(Z_ w n a b).bl f (λe=>h e),Z_ w n a b⟩
section
variable {A:Nat->Addr} {w:World} {sw sr:BA}
def qb(S:xh A w)(e:yO w)(hQ:yA w)(f:vh w)(s:BA):∀W,Fr w W N_->Calls prog 29 #[.string s] W (wI W s (wa A)):=λW c=>by
 have hz:=c.size;have d:∀V,yg W V->yg w V:=λV a g hg=>(a g M_).trans (c.block g hg id);exact YG (S.fr c).errs (λV a=>e V (d V a)) (λV a=>hQ V (d V a)) (KH (λV a=>f V (d V a)))
def gM(w:World):∃a,a=(w.alloc (.cells #[L_,.nilIface] 55)).alloc (.cells #[L_,.nilIface] 55)/\Fr w a N_/\a.heap.size=w.heap.size+2/\Blk a w.heap.size [L_,.nilIface] 55/\Blk a (w.heap.size+1) [L_,.nilIface] 55:=by
 refine⟨_,rfl,((A_ w N_).alloc _).alloc _,by rw[zi,zi],(B_ w #[L_,.nilIface] 55).alloc _,?_⟩;have h:=B_ (w.alloc (.cells #[L_,.nilIface] 55)) #[L_,.nilIface] 55;rw[zi]at h;exact h
def aj(S:xh A w)(L:yO w)(hQ:yA w)(M:vh w)(h0:(zg sw).1≠0):Calls prog 14 #[.string sw,.string sr] w (gN w sw sr):=by
 refine hq_ λU K=>?_;obtain⟨R,F,l,z,B,C⟩:=gM w;have N:=zy (qb S L hQ M sw R l);revert S h0 F l z B;refine m_ λS h0 F l z B=>?_;replace C:=zy C;clear L hQ M;go_in;go_wp2_with (go_at_call 29;rw[<- F.o];apply N.o.mono;rintro e w1 ⟨sv,rv,V,rfl,⟨sa,sn,sc,rfl⟩,O,i,⟨_,u⟩,-⟩;obtain⟨T,x,rfl,_⟩:=u.num (S.o.fr (l.o.trans i u_)) h0;have d:=i.bl B id;have f:=i.bl C id;have r0:=d.c0;have r1:=d.c1;have X:=d.th 0;have Y:=d.th 1;have r2:=f.c0;have r3:=f.c1;have Z:=f.th 0;have g3:=f.th 1;have y:=zy (And.intro d f);replace i:=zy i;replace u:=zy u;clear d f N;rcases O with rfl|⟨rT,rx,rfl⟩)
 .have j:=st2 (a:=.slice sa sn sc) (b:=.nilIface) y.o.1 y.o.2 M_;have k:=st2 (a:=L_) (b:=.nilIface) j.1 j.2.1 M_;have c:=st2 (a:=L_) (b:=.nilIface) k.2.1 k.1 M_;have G:=c.2.1.c0;have H:=c.2.1.c1;have J:=c.1.c0;have q3:=c.1.c1;refine bodyPost_ret (v:=.tuple #[.agg #[L_,.nilIface],.agg #[L_,.nilIface],.iface T x]) (by simp[results,results14,go_sem,G,H,J,q3]) rfl ?_;rw[K.o];have r:Fr w1 _ (λg=>g=w.heap.size\/g=w.heap.size+1):=((j.2.2.mono (λ_ _ e=>.inl e)).trans k.2.2 (λ_ _ e=>.inl e)).trans c.2.2 (λ_ _ e=>.inr e);have t:=(l.o.trans i u_).trans r (λx hx e=>M_);refine⟨_,_,_,_,_,rfl,t,.inr ⟨λh=>h0.o h.1,rfl,rfl,rfl,rfl,⟨_,_,rfl⟩,?_⟩⟩;rw[n_ h0.o];have E:=(u.o.frS r (λg hg e=>by have:=z.o;omega)).numIs (S.o.fr t) h0;exact E
 .have j:=st2 (a:=.slice sa sn sc) (b:=.iface rT rx) y.o.1 y.o.2 M_;have k:=st2 (a:=L_) (b:=.nilIface) j.1 j.2.1 M_;have c:=st2 (a:=L_) (b:=.nilIface) k.2.1 k.1 M_;have G:=c.2.1.c0;have H:=c.2.1.c1;have J:=c.1.c0;have q3:=c.1.c1;refine bodyPost_ret (v:=.tuple #[.agg #[L_,.nilIface],.agg #[L_,.nilIface],.iface T x]) (by simp[results,results14,go_sem,G,H,J,q3]) rfl ?_;rw[K.o];have r:Fr w1 _ (λg=>g=w.heap.size\/g=w.heap.size+1):=((j.2.2.mono (λ_ _ e=>.inl e)).trans k.2.2 (λ_ _ e=>.inl e)).trans c.2.2 (λ_ _ e=>.inr e);have t:=(l.o.trans i u_).trans r (λx hx e=>M_);refine⟨_,_,_,_,_,rfl,t,.inr ⟨λh=>h0.o h.1,rfl,rfl,rfl,rfl,⟨_,_,rfl⟩,?_⟩⟩;rw[n_ h0.o];have E:=(u.o.frS r (λg hg e=>by have:=z.o;omega)).numIs (S.o.fr t) h0;exact E
def ay(S:xh A w)(H:yO w)(hQ:yA w)(J:vh w)(h0:(zg sw).1=0)(h1:(zg sr).1≠0):Calls prog 14 #[.string sw,.string sr] w (gN w sw sr):=by
 refine hq_ λa7 U=>?_;obtain⟨wz,L,u,a0,E,F⟩:=gM w;have X:=zy (qb S H hQ J sw wz u);have Y:=zy (qb S H hQ J sr);revert S h0 h1 L u;refine k_ λS h0 h1 L u=>?_;revert a0 E F;refine h_ λa0 E F=>?_;clear H hQ J;go_in;go_wp2_with (first
  |(go_at_call 29;rw[<- L.o];apply X.o.mono;rintro e w1 ⟨sv,rv,ev,rfl,-,-,z,⟨_,i⟩,V⟩;obtain⟨_,rfl⟩:=i.zero h0;obtain⟨sa,sn,sc,rT,rx,rfl,rfl⟩:=(V h0).forms;have c:=z.bl E id;have d:=z.bl F id;have a9:w.heap.size+1<w1.heap.size:=d.lt;have r0:=c.c0;have r1:=c.c1;have g0:=c.th 0;have g1:=c.th 1;have t:=zy (st2 (a:=.slice sa sn sc) (b:=.iface rT rx) c d M_);have R:=zy (u.o.trans z u_);clear c d X z i V)
  |(go_at_call 29;apply(Y.o _ (R.o.trans t.o.2.2 (λx hx e=>M_))).mono;rintro e C ⟨sv',rv',ev,rfl,⟨a1,a3,a2,rfl⟩,a4,B,⟨_,i⟩,-⟩;have Z:=zy t.o.2.2.size;have G:=zy ((R.o.trans t.o.2.2 (λx hx e=>M_)).trans B u_);obtain⟨T,x,rfl,_⟩:=i.num (S.o.fr G) h1;have c:=B.bl t.o.1 id;have d:=B.bl t.o.2.1 id;have r0:=c.c0;have r1:=c.c1;have g0:=c.th 0;have g1:=c.th 1;have r2:=d.c0;have r3:=d.c1;have g2:=d.th 0;have g3:=d.th 1;have y:=zy (And.intro c d);replace i:=zy i;clear c d Y B;rcases a4 with rfl|⟨a5,a6,rfl⟩))
 .have j:=st2 (a:=.slice a1 a3 a2) (b:=.nilIface) y.o.2 y.o.1 M_;have k:=st2 (a:=L_) (b:=.nilIface) j.2.1 j.1 M_;have f:=st2 (a:=L_) (b:=.nilIface) k.2.1 k.1 M_;have M:=f.2.1.c0;have N:=f.2.1.c1;have O:=f.1.c0;have q3:=f.1.c1;refine bodyPost_ret (v:=.tuple #[.agg #[L_,.nilIface],.agg #[L_,.nilIface],.iface T x]) (by simp[results,results14,go_sem,M,N,O,q3]) rfl ?_;rw[U.o];have l:Fr C _ (λg=>g=w.heap.size\/g=w.heap.size+1):=((j.2.2.mono (λ_ _ e=>.inr e)).trans k.2.2 (λ_ _ e=>.inl e)).trans f.2.2 (λ_ _ e=>.inr e);have r:=G.o.trans l (λx hx e=>M_);refine⟨_,_,_,_,_,rfl,r,.inr ⟨λh=>h1.o h.2,rfl,rfl,rfl,rfl,⟨_,_,rfl⟩,?_⟩⟩;rw[i_ h0.o];have K:=(i.o.frS l (λg hg e=>by have:=Z.o;omega)).numIs (S.o.fr r) h1;exact K
 .have j:=st2 (a:=.slice a1 a3 a2) (b:=.iface a5 a6) y.o.2 y.o.1 M_;have k:=st2 (a:=L_) (b:=.nilIface) j.2.1 j.1 M_;have f:=st2 (a:=L_) (b:=.nilIface) k.2.1 k.1 M_;have M:=f.2.1.c0;have N:=f.2.1.c1;have O:=f.1.c0;have q3:=f.1.c1;refine bodyPost_ret (v:=.tuple #[.agg #[L_,.nilIface],.agg #[L_,.nilIface],.iface T x]) (by simp[results,results14,go_sem,M,N,O,q3]) rfl ?_;rw[U.o];have l:Fr C _ (λg=>g=w.heap.size\/g=w.heap.size+1):=((j.2.2.mono (λ_ _ e=>.inr e)).trans k.2.2 (λ_ _ e=>.inl e)).trans f.2.2 (λ_ _ e=>.inr e);have r:=G.o.trans l (λx hx e=>M_);refine⟨_,_,_,_,_,rfl,r,.inr ⟨λh=>h1.o h.2,rfl,rfl,rfl,rfl,⟨_,_,rfl⟩,?_⟩⟩;rw[i_ h0.o];have K:=(i.o.frS l (λg hg e=>by have:=Z.o;omega)).numIs (S.o.fr r) h1;exact K
def az(S:xh A w)(L:yO w)(hQ:yA w)(M:vh w)(h0:(zg sw).1=0)(h1:(zg sr).1=0):Calls prog 14 #[.string sw,.string sr] w (gN w sw sr):=by
 refine hq_ λa3 Q_=>?_;obtain⟨wz,O,u,h,J,K⟩:=gM w;have hR:=zy (qb S L hQ M sw wz u);have a0:=zy (qb S L hQ M sr);revert S h0 h1 O u;refine k_ λS h0 h1 O u=>?_;revert h J K;refine h_ λh J K=>?_;clear L hQ M;go_in;go_wp2_with (first
  |(go_at_call 29;rw[<- O.o];apply hR.o.mono;rintro e w1 ⟨sv,rv,ev,rfl,-,-,z,⟨_,k⟩,l⟩;obtain⟨_,rfl⟩:=k.zero h0;have hX:=zy (l h0);obtain⟨sa,sn,sc,rT,rx,rfl,rfl⟩:=hX.o.forms;have c:=z.bl J id;have d:=z.bl K id;have a5:w.heap.size+1<w1.heap.size:=d.lt;have r0:=c.c0;have r1:=c.c1;have Z:=c.th 0;have g1:=c.th 1;have f:=zy (st2 (a:=.slice sa sn sc) (b:=.iface rT rx) c d M_);have Y:=zy (u.o.trans z u_);clear c d hR z k l)
  |(go_at_call 29;apply(a0.o _ (Y.o.trans f.o.2.2 (λx hx e=>M_))).mono;rintro e X ⟨sv',rv',ev,rfl,-,-,r,⟨_,k⟩,l⟩;obtain⟨_,rfl⟩:=k.zero h1;have N:=zy (l h1);obtain⟨F,H,G,B,C,rfl,rfl⟩:=N.o.forms;have t:=zy f.o.2.2.size;have a2:=zy ((hX.o.frS f.o.2.2 (λg hg e=>by have:=h.o;omega)).frS r u_);have c:=r.bl f.o.1 id;have d:=r.bl f.o.2.1 id;have r0:=c.c0;have r1:=c.c1;have Z:=c.th 0;have g1:=c.th 1;have r2:=d.c0;have r3:=d.c1;have g2:=d.th 0;have g3:=d.th 1;have s2:=zy (st2 (a:=.slice F H G) (b:=.iface B C) d c M_);have F2:=zy ((Y.o.trans f.o.2.2 (λx hx e=>M_)).trans r u_);clear c d a0 r k l hX))
 have s3:=s2.o;obtain⟨W3,a1⟩:=e_ ((X.setCell ⟨w.heap.size+1,0,none⟩ (.slice F H G)).setCell ⟨w.heap.size+1,1,none⟩ (.iface B C));rw[<- a1]at s3⊢;obtain⟨b1,b0,y⟩:=s3;have F3:=zy (F2.o.trans y (λx hx e=>M_));have Y1:=zy (a2.o.frS y (λg hg e=>by have:=h.o;omega));have Y2:=zy (N.o.frS y (λg hg e=>by have:=t.o;omega));have c0:=b0.c0;have c1:=b0.c1;have c2:=b1.c0;have c3:=b1.c1;have t0:=b0.th 0;have t1:=b0.th 1;have t2:=b1.th 0;have t3:=b1.th 1;have E:=st2 (a:=.slice sa sn sc) (b:=.iface rT rx) b0 b1 M_;have i:=st2 (a:=.slice F H G) (b:=.iface B C) E.2.1 E.1 M_;have R:=i.2.1.drew.c0;have U:=i.2.1.drew.c1;have V:=i.1.drew.c0;have q3:=i.1.drew.c1;have j:Fr W3 _ (λg=>g=w.heap.size\/g=w.heap.size+1):=((E.2.2.mono (λ_ _ e=>.inl e)).trans i.2.2 (λ_ _ e=>.inr e)).drew;revert R U V q3 j;refine k_ λR U V q3 j=>?_;replace t:=zy (show w.heap.size+2<=((w1.setCell ⟨w.heap.size,0,none⟩ (.slice sa sn sc)).setCell ⟨w.heap.size,1,none⟩ (.iface rT rx)).heap.size by have:=t.o;omega);clear b0 b1 y a1 s2 f r0 r1 r2 r3 Z g1 g2 g3 E i a2 N;go_region;go_wp2;refine bodyPost_ret (v:=.tuple #[.agg #[.slice sa sn sc,.iface rT rx],.agg #[.slice F H G,.iface B C],.nilIface]) (by simp[results,results14,go_sem,R.o,U.o,V.o,q3.o]) rfl ?_;rw[Q_.o];refine⟨_,_,_,_,_,rfl,F3.o.trans j (λx hx e=>M_),.inl ⟨h0,h1,rfl,?_,?_⟩⟩
 .exact(Y1.o.frS j (λg hg e=>by have:=h.o;omega)).ls (by have:=h.o;omega)
 .exact(Y2.o.frS j (λg hg e=>by have:=t.o;omega)).ls (by have:=t.o;omega)
def dG(S:xh A w)(a:yO w)(hQ:yA w)(c:vh w):Calls prog 14 #[.string sw,.string sr] w (gN w sw sr):=by
 by_cases h0:(zg sw).1=0
 .by_cases h1:(zg sr).1=0
  .exact az S a hQ c h0 h1
  .exact ay S a hQ c h0 h1
 .exact aj S a hQ c h0
end
def btr(n m:Nat):Bool:=decide (0<n)&&(m==0||decide (n<m))
def jnN(ns:List Nat):Nat:=if 0∈ns then 0 else if 300<1+ns.sum then 301 else 1+ns.sum
def le0(n v:Nat):Prop:=v=0\/(n≠0/\n<=v)
def le0.trans{a c:Nat}(h:le0 a b)(k:le0 b c):le0 a c:=by unfold le0 at *;omega
def le0.refl(a:Nat):le0 a a:=by unfold le0;omega
def gU{v:Nat}(h:btr v n=false):le0 n v:=by
 unfold btr at h;unfold le0;simp only[Bool.and_eq_false_iff,decide_eq_false_iff_not,Bool.or_eq_false_iff,beq_eq_false_iff_ne]at h;omega
def Yx{v:Nat}(h:btr v n=true):0<v/\(n=0\/v<n):=by
 unfold btr at h;simp only[ax_,au_,decide_eq_true_eq,beq_iff_eq]at h;exact h
def IfV.one(h:IfV v):v.oneCell'=true:=by rcases h with rfl|⟨T,x,rfl⟩<;>rfl
structure Rw(α:Type) where
 a:α
 v:List Value
 n:Nat
 d:Value
def Rw.cells{α:Type}(r:Rw α):List Value:=r.v++[I_ r.n,r.d]
structure TI(α:Type) where
 TT:TypeId
 RT:TypeId
 KT:TypeId
 w:Nat
 kv:α->Value
 Q:α->Prop
 num:α->Nat
 N:Nat
structure TI.OK{α:Type}(I:TI α):Prop where
 tt:I.TT≠I.RT
 keyed:Maps.Keyed prog I.KT
 key:∀a,I.Q a->∃l,keyOf prog I.KT (I.kv a)=some l
 kinj:∀a b,I.Q a->I.Q b->I.kv a=I.kv b->a=b
 lt:∀a,I.Q a->I.num a<I.N
 inj:∀a b,I.Q a->I.Q b->I.num a=I.num b->a=b
section
variable {α:Type} {I:TI α}
def qV(I:TI α)(D:DataW Unit)(T:List (Rw α)):Prop:=
 ∀a l,I.Q a->keyOf prog I.KT (I.kv a)=some l->(∀(i:Nat) (r:Rw α),T[i]?=some r->r.a=a->Maps.has D l=true/\D.atKey l (.lit (.int .i64 0))=.lit (.int .i64 (i:Int)))/\((∀r∈T,r.a≠a)->Maps.has D l=false)
def qV.nil:qV I (.map []) []:=λa l _ _=>⟨λi r h=>by simp at h,λ_=>rfl⟩
def qV.put(c:I.OK){D:DataW Unit}{T:List (Rw α)}(h:qV I D T)(j:Maps.IsMap D){r:Rw α}{l:Lit}(hr:I.Q r.a)(hl:keyOf prog I.KT (I.kv r.a)=some l)(hn:∀x∈T,x.a≠r.a):qV I (D.put l (.lit (.int .i64 (T.length:Int)))) (T++[r]):=by
 intro a m ha hm;by_cases e:a=r.a
 .subst e;rw[hl]at hm;cases hm;refine⟨λi x hx d=>?_,λk=>absurd rfl (k r (by simp))⟩;have hi:i=T.length:=by
   by_cases f:i<T.length
   .rw[ar_ f]at hx;exact absurd d (hn x (aj_ hx))
   .have:=(ae_.1 hx).1;simp at this;omega
  subst hi;exact⟨Maps.has_put_same j (c.keyed.key hl) _,Maps.atKey_put_same j (c.keyed.key hl) _ _⟩
 .have o:m≠l:=λe'=>by
   subst e';exact e (c.kinj a r.a ha hr (c.keyed.inj hm hl))
  obtain⟨h1,t⟩:=h a m ha hm;rw[Maps.has_put_other o,Maps.atKey_put_other o];refine⟨λi x hx d=>?_,λk=>t (λy hy=>k y (bu_ _ hy))⟩;by_cases f:i<T.length
  .rw[ar_ f]at hx;exact h1 i x hx d
  .have:=(ae_.1 hx).1;simp at this;obtain rfl:i=T.length:=M_;rw[as_ l_,Nat.sub_self]at hx;simp only[aa_,ah_]at hx;subst hx;exact absurd d.symm e
def qV.re{D:DataW Unit}{T T':List (Rw α)}(h:qV I D T)(d:T'.map Rw.a=T.map Rw.a):qV I D T':=λa l ha hl=>by
 have g:∀(c:List (Rw α)) (i:Nat) (r:Rw α),c[i]?=some r->(c.map Rw.a)[i]?=some r.a:=λc i r h=>by rw[aq_,h];rfl
 have m:∀(c V:List (Rw α)),c.map Rw.a=V.map Rw.a->∀(i:Nat) (r:Rw α),c[i]?=some r->∃x,V[i]?=some x/\x.a=r.a:=λc V e i r h=>by
  have:=g c i r h;rw[e,aq_]at this;cases hx:V[i]? with
  |none=>rw[hx]at this;cases this
  |some x=>rw[hx]at this;exact⟨x,rfl,by simpa using this⟩
 obtain⟨h1,f⟩:=h a l ha hl;refine⟨λi r hr e=>?_,λk=>f (λx hx e=>?_)⟩
 .obtain⟨x,hx,j⟩:=m T' T d i r hr;exact h1 i x hx (j.trans e)
 .obtain⟨i,hi⟩:=a5_ hx;obtain⟨y,hy,o⟩:=m T T' d.symm i x hi;exact k y (aj_ hy) (o.trans e)
structure TbW(I:TI α)(fb tb mb:Nat)(kf ff:Value)(W:World)(rv:Value)(g:Bool)(T:List (Rw α)):Prop where
 b:Blk W tb [kf,ff,rv,.map (some mb),.bool g] I.TT
 row:W.ownsRow (fb+1) I.RT (I.w+2) rv T.length (T.flatMap Rw.cells)
 map:∃D:DataW Unit,W.ownsMap prog I.KT (plainElem prog 3) mb T.length D/\qV I D T
 ft:fb<tb
 fm:fb<mb
 nd:(T.map Rw.a).Nodup
 q:∀r∈T,I.Q r.a/\r.v.length=I.w/\r.n<=301/\IfV r.d
def TbS(tb mb:Nat)(rv:Value)(g:Nat):Prop:=g=tb\/g=mb\/rv.ownBlock=some g
def vK{W W':World}{k:TypeId}{R:Value->Option (DataW Unit×List MemPlace)}{D:DataW Unit}(h:W.ownsMap prog k R b n D)(hf:Fr W W' S)(hb:¬S b):W'.ownsMap prog k R b n D:=by
 have d:=h.lt;obtain⟨es,c,h1,a⟩:=h;exact⟨es,c,by rw[hf.block b d hb];exact h1,a⟩
section
variable {fb tb mb:Nat} {kf ff rv:Value} {W W':World} {g:Bool} {T:List (Rw α)}
def TbW.fr(h:TbW I fb tb mb kf ff W rv g T)(hf:Fr W W' S)(a:∀x,TbS tb mb rv x->¬S x):TbW I fb tb mb kf ff W' rv g T:=by
 obtain⟨D,h1,c⟩:=h.map;exact⟨hf.bl h.b (a _ (.inl rfl)),zj h.row hf (λx e=>a x (.inr (.inr e))),⟨D,vK h1 hf (a _ (.inr (.inl rfl))),c⟩,h.ft,h.fm,h.nd,h.q⟩
def TbW.new(h:TbW I fb tb mb kf ff W rv g T)(hf:Fr W W' N_):TbW I fb tb mb kf ff W' rv g T:=h.fr hf u_
def TbW.li(h:TbW I fb tb mb kf ff W rv g T){x:Nat}(hx:TbS tb mb rv x):fb<x/\x<W.heap.size:=by
 obtain⟨D,h1,_⟩:=h.map;rcases hx with rfl|rfl|e
 .exact⟨h.ft,h.b.lt⟩
 .exact⟨h.fm,h1.lt⟩
 .have:=h.row.lt x e;omega
def TbW.other(h:TbW I fb tb mb kf ff W rv g T){x:Nat}{cs:Array Value}{t:TypeId}{p:Nat×Nat}(hb:W.heap[x]?=some (.cells cs t p))(h1:t≠I.TT)(d:t≠I.RT):¬TbS tb mb rv x:=by
 obtain⟨D,⟨es,c,a,_⟩,_⟩:=h.map;rintro(rfl|rfl|e)
 .have:=h.b;unfold Blk at this;rw[hb]at this;simp only[ah_,Obj.cells.injEq]at this;exact h1 this.2.1
 .rw[hb]at a;cases a
 .rcases h.row.2 with⟨e',_⟩|⟨g',cap,f,e',_,hg,_⟩
  .subst e';simp[Value.ownBlock]at e
  .subst e';simp only[Value.ownBlock,ah_]at e;subst e;rw[hb]at hg;simp only[ah_,Obj.cells.injEq]at hg;exact d hg.2.1
def wn{β:Type}{f:β->List Value}{w:Nat}:∀{l:List β},(∀x∈l,(f x).length=w)->∀{i:Nat}{r:β}{j:Nat},l[i]?=some r->j<w->(l.flatMap f)[i*w+j]?=(f r)[j]?
 | [],_,i,r,j,h,_=>by simp at h
 |x::l,hl,0,r,j,h,hj=>by
  simp only[aa_,ah_]at h;subst h;rw[bm_,ar_ (by rw[hl x (by simp)];omega)]
  congr 1
  omega
 |x::l,hl,i+1,r,j,h,hj=>by
  have h0:=hl x (by simp);rw[bm_,as_ (by rw[h0,Nat.add_one_mul];omega),h0,show(i+1)*w+j-w=i*w+j by rw[Nat.add_one_mul];omega];exact wn (λy hy=>hl y (by simp[hy])) (by simpa using h) hj
def mS{β:Type}{f:β->List Value}{w:Nat}:∀{l:List β},(∀x∈l,(f x).length=w)->∀{i:Nat}{r r':β}{j:Nat}{u:Value},l[i]?=some r->j<w->f r'=(f r).set j u->(l.set i r').flatMap f=(l.flatMap f).set (i*w+j) u
 | [],_,i,r,r',j,u,h,_,_=>by simp at h
 |x::l,hl,0,r,r',j,u,h,hj,e=>by
  simp only[aa_,ah_]at h;subst h;rw[am_,bm_,bm_,e,List.set_append_left _ _ (by rw[hl x (by simp)];omega)]
  congr 2
  omega
 |x::l,hl,i+1,r,r',j,u,h,hj,e=>by
  have h0:=hl x (by simp);rw[an_,bm_,bm_,mS (λy hy=>hl y (by simp[hy])) (by simpa using h) hj e,List.set_append_right _ _ (by rw[h0,Nat.add_one_mul];omega),h0,show(i+1)*w+j-w=i*w+j by rw[Nat.add_one_mul];omega]
def TbW.len(h:TbW I fb tb mb kf ff W rv g T):∀r∈T,r.cells.length=I.w+2:=λr hr=>by
 have:=(h.q r hr).2.1;simp[Rw.cells,this]
def TbW.cell(h:TbW I fb tb mb kf ff W rv g T){i:Nat}{r:Rw α}(hr:T[i]?=some r):∃b cap,rv=S_ b T.length cap/\∀j,j<I.w+2->W.cell? ⟨b,i*(I.w+2)+j,none⟩=r.cells[j]?/\W.frozen? ⟨b,i*(I.w+2)+j,none⟩=false:=by
 have hi:=(ae_.1 hr).1;obtain⟨b,cap,rfl⟩:=zm h.row M_;refine⟨b,cap,rfl,λj a=>⟨?_,h.row.frozenAt _⟩⟩;rw[h.row.cellAt _ (by have:=b6_ (I.w+2) (Nat.succ_le_of_lt hi);rw[Nat.succ_mul]at this;omega)];exact wn h.len hr a
def TbW.apart(d:I.OK)(h:TbW I fb tb mb kf ff W rv g T):tb≠mb/\rv.ownBlock≠some tb/\rv.ownBlock≠some mb:=by
 obtain⟨D,⟨es,c,a,_⟩,_⟩:=h.map;have hb:=h.b;unfold Blk at hb;refine⟨λe=>(by rw[e,a]at hb;cases hb),λe=>?_,λe=>?_⟩;all_goals
  rcases h.row.2 with⟨e',_⟩|⟨g',cap,f,e',_,hg,_⟩
  .subst e';simp[Value.ownBlock]at e
  .subst e';simp only[Value.ownBlock,ah_]at e;subst e;first
    |(rw[a]at hg;cases hg;done)
    |(rw[hb]at hg;simp only[ah_,Obj.cells.injEq]at hg;exact d.tt hg.2.1)
def TbW.set(y:I.OK){cap i:Nat}{r:Rw α}{d:Value}(h:TbW I fb tb mb kf ff W (S_ b T.length cap) g T)(hr:T[i]?=some r)(hn:n<=301)(hd:IfV d):TbW I fb tb mb kf ff ((W.setCell ⟨b,i*(I.w+2)+I.w,none⟩ (I_ n)).setCell ⟨b,i*(I.w+2)+(I.w+1),none⟩ d) (S_ b T.length cap) g (T.set i ⟨r.a,r.v,n,d⟩):=by
 have o:=aj_ hr;have c:=(h.q r o).2.1;have hi:=(ae_.1 hr).1;obtain⟨D,h1,E⟩:=h.map;obtain⟨_,z,B⟩:=h.apart y;have j:Fr W ((W.setCell ⟨b,i*(I.w+2)+I.w,none⟩ (I_ n)).setCell ⟨b,i*(I.w+2)+(I.w+1),none⟩ d) (λx=>x=b):=V_ W b _ _ _ _;have l:(T.set i ⟨r.a,r.v,n,d⟩).map Rw.a=T.map Rw.a:=by
  rw[List.map_set];apply List.ext_getElem?;intro k;rw[bg_];split
  .rename_i e;subst e;rw[aq_,hr];simp[hi]
  .rfl
 have C:(T.set i ⟨r.a,r.v,n,r.d⟩).flatMap Rw.cells=(T.flatMap Rw.cells).set (i*(I.w+2)+I.w) (I_ n):=mS h.len hr M_ (by
  simp only[Rw.cells]
  rw[List.set_append_right _ _ M_,c,Nat.sub_self]
  rfl)
 have F:∀x∈T.set i ⟨r.a,r.v,n,r.d⟩,x.cells.length=I.w+2:=λx hx=>by
  rcases cb_ hx with hx|rfl
  .exact h.len x hx
  .simp[Rw.cells,c]
 have f:((T.set i ⟨r.a,r.v,n,r.d⟩).set i ⟨r.a,r.v,n,d⟩).flatMap Rw.cells=((T.set i ⟨r.a,r.v,n,r.d⟩).flatMap Rw.cells).set (i*(I.w+2)+(I.w+1)) d:=mS F (r:=⟨r.a,r.v,n,r.d⟩) (by rw[bg_,i_ rfl,i_ hi]) M_ (by
  simp only[Rw.cells]
  rw[List.set_append_right _ _ M_,c,show I.w+1-I.w=1 by omega]
  rfl)
 rw[List.set_set]at f;have t:=(h.row.stored (i*(I.w+2)+I.w) (I_ n)).1;rw[<- C]at t;have u:=(t.stored (i*(I.w+2)+(I.w+1)) d).1;rw[<- f]at u;have hs:(T.set i ⟨r.a,r.v,n,d⟩).length=T.length:=bh_;refine⟨j.bl h.b (λe=>z (by rw[e];rfl)),by rw[hs];exact u,⟨D,by rw[hs];exact vK h1 j (λe=>B (by rw[e];rfl)),E.re l⟩,h.ft,h.fm,by rw[l];exact h.nd,λx hx=>?_⟩;rcases cb_ hx with hx|rfl
 .exact h.q x hx
 .exact⟨(h.q r o).1,c,hn,hd⟩
def TbW.flag(c:I.OK)(h:TbW I fb tb mb kf ff W rv g T)(u:Bool):TbW I fb tb mb kf ff (W.setCell ⟨tb,4,none⟩ (.bool u)) rv u T:=by
 obtain⟨d,f,_⟩:=h.apart c;obtain⟨D,h1,i⟩:=h.map;have a:=Y_ W ⟨tb,4,none⟩ (.bool u);exact⟨h.b.set 4 _,zj h.row a (λx e k=>f (by rw[e,show x=tb from k])),⟨D,vK h1 a (λe=>d e.symm),i⟩,h.ft,h.fm,h.nd,h.q⟩
end
def Stp(W W':World)(S S':Nat->Prop):Prop:=Fr W W' S/\∀x,x<W.heap.size->S' x->S x
def Stp.refl(W:World)(S:Nat->Prop):Stp W W S S:=⟨A_ _ _,λ_ _ h=>h⟩
def Stp.trans{W d:World}{a c:Nat->Prop}(h:Stp W W1 S a)(k:Stp W1 d a c):Stp W d S c:=
 ⟨h.1.trans k.1 (λx hx e=>h.2 x hx e),λx hx e=>h.2 x hx (k.2 x (bb_ hx h.1.size) e)⟩
def Stp.fr{W:World}{S':Nat->Prop}(h:Fr W W1 N_)(a:∀x,S' x->S x):Stp W W1 S S':=⟨h.mono v_,λx _ e=>a x e⟩
def E_:=@Stp.fr
section
variable {fb tb mb:Nat} {kf ff rv:Value} {W W':World} {g:Bool} {T:List (Rw α)}
def TbW.push(u:I.OK)(h:TbW I fb tb mb kf ff W rv g T){r:Rw α}{l:Lit}{D:DataW Unit}{i f:World}{c:Value}(F:I.Q r.a/\r.v.length=I.w/\r.n<=301/\IfV r.d)(hn:∀x∈T,x.a≠r.a)(hl:keyOf prog I.KT (I.kv r.a)=some l)(N:qV I D T)(hm:Maps.IsMap D)(h1:W1.ownsMap prog I.KT (plainElem prog 3) mb (T.length+1) (D.put l (.lit (.int .i64 (T.length:Int)))))(K:W.grownBy W1 (some mb))(E:Fr W1 i N_)(L:i.grownBy f rv.ownBlock)(M:f.ownsRow (fb+1) I.RT (I.w+2) c (T.length+1) (T.flatMap Rw.cells++r.cells))(hv:c.ownBlock=rv.ownBlock\/∃x,c.ownBlock=some x/\i.heap.size<=x):TbW I fb tb mb kf ff (f.setCell ⟨tb,2,none⟩ c) c g (T++[r])/\Stp W (f.setCell ⟨tb,2,none⟩ c) (TbS tb mb rv) (TbS tb mb c):=by
 obtain⟨B,C,G⟩:=h.apart u;have J:Fr W W1 (λx=>x=mb):=(A_ W _).gw K (λk e _=>by simpa using e.symm);have j:Fr W i (λx=>x=mb):=J.trans E v_;have o:Fr i f (λx=>rv.ownBlock=some x):=(A_ i _).gw L (λk e _=>e);have t:Fr f (f.setCell ⟨tb,2,none⟩ c) (λx=>x=tb):=Y_ _ _ _;have H:=o.bl (j.bl h.b B) C;have U:=j.size;have V:=h.b.lt;have O:c.ownBlock≠some tb:=λe=>by
  rcases hv with hv|⟨x,hv,hx⟩
  .exact C (hv▸e)
  .rw[hv]at e;simp only[ah_]at e;omega
 refine⟨⟨H.set 2 c,?_,⟨_,?_,N.put u hm F.1 hl hn⟩,h.ft,h.fm,?_,λx hx=>?_⟩,?_,λx hx e=>?_⟩
 .rw[ai_,av_,be_];simpa using zj M t (λx e k=>O (by rw[e,k]))
 .rw[ai_,av_];exact vK (vK (vK h1 E id) o G) t (λe=>B e.symm)
 .rw[bj_,List.nodup_append];refine⟨h.nd,by simp,λx hx y hy e=>?_⟩;simp only[aw_,bd_,a1_]at hy;obtain⟨z,hz,rfl⟩:=ay_.1 hx;exact hn z hz (e.trans hy)
 .rcases a2_.1 hx with hx|hx
  .exact h.q x hx
  .simp only[a1_]at hx;subst hx;exact F
 .refine((j.mono (T:=TbS tb mb rv) (λx _ e=>.inr (.inl e))).trans o (λx _ e=>.inr (.inr e))).trans t (λx _ e=>.inl e)
 .rcases e with e|e|e
  .exact .inl e
  .exact .inr (.inl e)
  .rcases hv with hv|⟨y,hv,hy⟩
   .exact .inr (.inr (hv▸e))
   .rw[hv]at e;simp only[ah_]at e;omega
end
def Stb(Cl:List (Rw α)->α->Nat->Prop)(T:List (Rw α))(r:Rw α):Prop:=∃v,Cl T r.a v/\btr v r.n=false
def Grw(Cl:List (Rw α)->α->Nat->Prop)(T T':List (Rw α))(g g':Bool):Prop:=
 ∃R,T'=T++R/\(g=true->g'=true)/\(g'=true->g=true\/R≠[])/\(g'=false->∀r∈R,Stb Cl T' r)
def Vl(Cl:List (Rw α)->α->Nat->Prop):Prop:=∀T R a v,Cl T a v->Cl (T++R) a v
section
variable {Cl:List (Rw α)->α->Nat->Prop} {T T' T'':List (Rw α)} {g g' g'':Bool}
def Stb.more(M:Vl Cl){r:Rw α}(h:Stb Cl T r)(R:List (Rw α)):Stb Cl (T++R) r:=by
 obtain⟨v,h1,a⟩:=h;exact⟨v,M _ _ _ _ h1,a⟩
def Grw.refl(T:List (Rw α))(g:Bool):Grw Cl T T g g:=⟨[],by simp,id,.inl,λ_ r h=>by simp at h⟩
def Grw.trans(M:Vl Cl)(h:Grw Cl T T' g g')(k:Grw Cl T' T'' g' g''):Grw Cl T T'' g g'':=by
 obtain⟨R,rfl,h1,d,f⟩:=h;obtain⟨a,rfl,c,i,j⟩:=k;refine⟨R++a,by simp,λe=>c (h1 e),λe=>?_,λe r hr=>?_⟩
 .rcases i e with e|e
  .rcases d e with e|e
   .exact .inl e
   .exact .inr (by simp[e])
  .exact .inr (by simp[e])
 .have e':g'=false:=by
   cases g' with
   |false=>rfl
   |true=>rw[c rfl]at e;cases e
  rcases a2_.1 hr with hr|hr
  .exact(f e' r hr).more M a
  .exact j e r hr
def phi(N:Nat)(T:List (Rw α)):Nat:=303*(N-T.length)+(T.map λr=>if r.n=0 then 302 else r.n).sum
def sP{N:Nat}{T:List (Rw α)}:∀{R:List (Rw α)},(T++R).length<=N->(∀r∈R,r.n<=301)->phi N (T++R)+R.length<=phi N T:=by
 intro R hl c;have a:∀l:List (Rw α),(∀r∈l,r.n<=301)->(l.map λr=>if r.n=0 then 302 else r.n).sum<=302*l.length:=by
  intro l;induction l with
  |nil=>intro _;simp
  |cons x l ih=>
   intro h;have h0:=h x (by simp);have:=ih (λr hr=>h r (by simp[hr]));simp only[aw_,List.sum_cons,a6_];split<;>omega
 have d:=a R c;unfold phi;rw[ai_]at hl⊢;rw[bj_,List.sum_append];omega
def KQ{N:Nat}:∀{T:List (Rw α)}{i:Nat}{r r':Rw α},T[i]?=some r->r.n<=301->btr r'.n r.n=true->r'.n<=301->phi N (T.set i r')+1<=phi N T:=by
 intro T i r r' hr h1 hb a;have d:=Yx hb;have:∀(T:List (Rw α)) (i:Nat),T[i]?=some r->((T.set i r').map λr=>if r.n=0 then 302 else r.n).sum+1<=(T.map λr=>if r.n=0 then 302 else r.n).sum:=by
  intro T;induction T with
  |nil=>intro i h;simp at h
  |cons x l ih=>
   intro i h;cases i with
   |zero=>
    simp only[aa_,ah_]at h;subst h;simp only[am_,aw_,List.sum_cons];split<;>split<;>omega
   |succ i=>
    have:=ih i (by simpa using h);simp only[an_,aw_,List.sum_cons];omega
 have c:=this T i hr;unfold phi;rw[bh_];omega
def Jc:∀(N:Nat) (l:List Nat),l.Nodup->(∀x∈l,x<N)->l.length<=N
 | 0,l,_,h=>by
  cases l with
  |nil=>simp
  |cons x r=>exact absurd (h x (by simp)) M_
 | N+1,l,hd,h=>by
  have h1:=Jc N (l.filter λx=>decide (x<N)) (hd.sublist List.filter_sublist) (λx hx=>by simpa using(List.mem_filter.1 hx).2);have a:l.length<=(l.filter λx=>decide (x<N)).length+1:=by
   clear h1;induction l with
   |nil=>simp
   |cons x r ih=>
    rw[List.nodup_cons]at hd;have h0:=h x (by simp);by_cases hx:x<N
    .have:=ih hd.2 (λy hy=>h y (by simp[hy]));rw[List.filter_cons,i_ (by simpa using hx)];simp only[a6_];omega
    .have he:r.filter (λx=>decide (x<N))=r:=List.filter_eq_self.2 (λy hy=>by
      have c:=h y (by simp[hy])
      have:y≠x:=λe=>hd.1 (e▸hy)
      simp only[decide_eq_true_eq]
      omega)
     rw[List.filter_cons,n_ (by simpa using hx),he];simp
  omega
end
def kS(d:I.OK){T:List (Rw α)}(hd:(T.map Rw.a).Nodup)(c:∀r∈T,I.Q r.a):T.length<=I.N:=by
 have h:=Jc I.N (T.map λr=>I.num r.a) (by
  have:(T.map λr=>I.num r.a)=(T.map Rw.a).map I.num:=by simp
  rw[this]
  refine List.Pairwise.map I.num (R:=λa b=>a≠b/\I.Q a/\I.Q b) (λa b h e=>h.1 (d.inj a b h.2.1 h.2.2 e)) ?_
  refine List.Pairwise.imp_of_mem (R:=(·≠·)) (λ{a b} ha hb hne=>⟨hne,?_,?_⟩) hd
  .obtain⟨r,hr,rfl⟩:=ay_.1 ha
   exact c r hr
  .obtain⟨r,hr,rfl⟩:=ay_.1 hb
   exact c r hr) (λx hx=>by
  obtain⟨r,hr,rfl⟩:=ay_.1 hx
  exact d.lt _ (c r hr))
 simpa using h
def uD(c:I.OK){T:List (Rw α)}{a:α}(hd:(T.map Rw.a).Nodup)(d:∀r∈T,I.Q r.a)(ha:I.Q a)(hn:∀r∈T,r.a≠a):T.length<I.N:=by
 have:=kS c (T:=⟨a,[],0,.nilIface⟩::T) (by
  rw[aw_,List.nodup_cons]
  exact⟨λh=>by obtain⟨r,hr,e⟩:=ay_.1 h;exact hn r hr e,hd⟩) (λr hr=>by
  rcases ao_.1 hr with rfl|hr
  .exact ha
  .exact d r hr)
 have h:T.length+1<=I.N:=by simpa using this
 omega
end
def jJ{w:World}:Calls prog 136 #[.agg #[I_ n,dv],.agg #[I_ m,kv]] w λe w'=>e=.returned (.bool (btr n m))/\Fr w w' N_:=by
 refine hq_ λk c=>?_;have a:=zy (λo j=>((A_ w N_).alloc o).alloc j);by_cases h0:0<n
 .have d:(n:Int) > 0:=M_;by_cases h1:m=0
  .have f:((m:Int)==0)=true:=by rw[beq_iff_eq];omega
   have hb:=zy (show btr n m=true by unfold btr;simp[h0,h1]);go_in;go_wp2;try go_ret
   rw[c.o,hb.o];exact⟨rfl,a.o _ _⟩
  .have f:((m:Int)==0)=false:=by rw[beq_eq_false_iff_ne];omega
   by_cases h:n<m
   .have i:(n:Int)<(m:Int):=M_;have hb:=zy (show btr n m=true by unfold btr;simp[h0,h]);go_in;go_wp2;try go_ret
    rw[c.o,hb.o];exact⟨rfl,a.o _ _⟩
   .have i:¬((n:Int)<(m:Int)):=M_;have hb:=zy (show btr n m=false by unfold btr;simp[h1];omega);go_in;go_wp2;try go_ret
    rw[c.o,hb.o];exact⟨rfl,a.o _ _⟩
 .have d:¬((n:Int) > 0):=M_;have hb:=zy (show btr n m=false by unfold btr;simp[h0]);go_in;go_wp2;try go_ret
  rw[c.o,hb.o];exact⟨rfl,a.o _ _⟩
def gC{w:World}(hd:IfV dv)(hk:IfV kv):Calls prog 111 #[.agg #[I_ n,dv],.agg #[I_ m,kv]] w λe w'=>e=.returned (if btr m n=true then .agg #[I_ m,kv] else .agg #[I_ n,dv])/\Fr w w' N_:=by
 refine hq_ λB k=>?_;have hB:=zy (λW=>jJ (w:=W) (n:=m) (m:=n) (dv:=kv) (kv:=dv));have f:Blk (((w.alloc (.cells #[I_ n,dv] 88)).alloc (.cells #[I_ m,kv] 88)).alloc (.cells #[O_,.nilIface] 88)) w.heap.size [I_ n,dv] 88:=((B_ w #[I_ n,dv] 88).alloc _).alloc _;have i:Blk (((w.alloc (.cells #[I_ n,dv] 88)).alloc (.cells #[I_ m,kv] 88)).alloc (.cells #[O_,.nilIface] 88)) (w.heap.size+1) [I_ m,kv] 88:=by
  have h:=(B_ (w.alloc (.cells #[I_ n,dv] 88)) #[I_ m,kv] 88).alloc (.cells #[O_,.nilIface] 88);rw[zi]at h;exact h
 have j:Blk (((w.alloc (.cells #[I_ n,dv] 88)).alloc (.cells #[I_ m,kv] 88)).alloc (.cells #[O_,.nilIface] 88)) (w.heap.size+1+1) [O_,.nilIface] 88:=by
  have h:=B_ ((w.alloc (.cells #[I_ n,dv] 88)).alloc (.cells #[I_ m,kv] 88)) #[O_,.nilIface] 88;rw[zi,zi]at h;exact h
 have u:=zy (λo y z=>(((A_ w N_).alloc o).alloc y).alloc z);revert f i j;refine h_ λf i j=>?_;have fin:H_ (∀(w1:World) (a b:Value),Fr w w1 N_->Fr w ((w1.setCell ⟨w.heap.size+1+1,0,none⟩ a).setCell ⟨w.heap.size+1+1,1,none⟩ b) N_):=zy (λw1 a b h=>h.trans (Z_ w1 (w.heap.size+1+1) a b) (λx hx e=>M_));have F:=λW a m=>run_store prog W a dv m hd.one;have G:=λW a m=>run_store prog W a kv m hk.one;cases hb:btr m n;all_goals
  rw[hb]at k hB;go_in;go_wp2_with (go_at_call 136;apply(hB.o _).mono;rintro e w1 ⟨rfl,d⟩;have C:=(d.bl f id).c0;have E:=(d.bl f id).c1;have b0:=(d.bl i id).c0;have b1:=(d.bl i id).c1;have c:=d.bl j id;have r0:=c.c0;have r1:=c.c1;have H:=c.th 0;have J:=c.th 1;have t:=zy ((u.o _ _ _).trans d u_);have c:=zy c)
 .have P:=X_ c (I_ n) dv;have l:=P.c0;have r:=P.c1;refine bodyPost_ret (v:=.agg #[I_ n,dv]) (by simp[results,results111,go_sem,l,r]) rfl ?_;rw[k.o];exact⟨rfl,fin.o _ _ _ t⟩
 .have P:=X_ c (I_ m) kv;have l:=P.c0;have r:=P.c1;refine bodyPost_ret (v:=.agg #[I_ m,kv]) (by simp[results,results111,go_sem,l,r]) rfl ?_;rw[k.o];exact⟨rfl,fin.o _ _ _ t⟩
def qI(w:World)(lv:Value)(ns:List Nat)(D:Nat->Value):Prop:=
 w.ownsRow 0 88 2 lv ns.length ((List.range ns.length).flatMap λi=>[z_ ((ns.getD i 0:Nat):Int),D i])
def qI.cells{w:World}{g c:Nat}(h:qI w (S_ g ns.length c) ns D)(a:ns[q]?=some n):w.cell? ⟨g,q*2,none⟩=some (I_ n)/\w.cell? ⟨g,q*2+1,none⟩=some (D q):=by
 have j:=(ae_.1 a).1;have hg:∀(m:Nat) (k:Nat),k<m->((List.range m).flatMap λi=>[Value.int .i64 ((ns.getD i 0:Nat):Int),D i])[k*2]?=some (Value.int .i64 ((ns.getD k 0:Nat):Int))/\((List.range m).flatMap λi=>[Value.int .i64 ((ns.getD i 0:Nat):Int),D i])[k*2+1]?=some (D k):=by
  intro m;induction m with
  |zero=>intro k h;omega
  |succ m ih=>
   intro k hk;have hl:((List.range m).flatMap λi=>[Value.int .i64 ((ns.getD i 0:Nat):Int),D i]).length=m*2:=by
    clear ih hk;induction m with
    |zero=>rfl
    |succ m ih=>rw[bp_,be_,ai_,ih];simp;omega
   rw[bp_,be_];by_cases f:k<m
   .rw[ar_ M_,ar_ M_];exact ih k f
   .obtain rfl:k=m:=M_;rw[as_ M_,as_ M_,hl];simp[show k*2+1-k*2=1 by omega]
 obtain⟨h1,d⟩:=hg ns.length q j;have e:ns.getD q 0=n:=by rw[ap_,a];rfl
 rw[e]at h1;exact⟨zr h rfl h1,zr h rfl d⟩
def cM(h:ns[q]?=some n):(ns.take (q+1)).sum=(ns.take q).sum+n:=by
 rw[bf_,h];simp
def VG:Tryz.prog.underlying 141=some (.slice 59):=K_
structure JnM(w:World)(ns:List Nat)(D:Nat->Value)(q:Nat)(pv:Value)(W:World):Prop where
 fr:Fr w W N_
 b:Blk W w.heap.size [O_,.nilIface] 88
 bB:w.heap.size+1<=W.heap.size
 nz:0∉ns.take q
 row:W.ownsRow (w.heap.size+1) 59 1 pv q ((List.range q).flatMap λi=>[D i])
def JnM.call{w W W':World}(h:JnM w ns D q pv W)(hf:Fr W W' N_):JnM w ns D q pv W':=
 ⟨h.fr.trans hf u_,hf.bl h.b id,ak_ h.bB hf.size,h.nz,zj h.row hf u_⟩
def JnM.item{w W a:World}{f:Value}{o:Obj}(h:JnM w ns D q pv W)(j:ns[q]?=some n)(hn:n≠0)(hg:(W.alloc o).grownBy a pv.ownBlock)(ho:a.ownsRow (w.heap.size+1) 59 1 f (q+1) (((List.range q).flatMap λi=>[D i])++[D q])):JnM w ns D (q+1) f a:=by
 have c:Fr W a (λg=>pv.ownBlock=some g):=((A_ W _).alloc o).gw hg (λk e _=>e);have d:∀g,pv.ownBlock=some g->w.heap.size+1<=g:=λg e=>(h.row.lt g e).1;refine⟨h.fr.trans c (λx hx e=>absurd (d x e) M_),c.bl h.b (λe=>by have:=d _ e;omega),ak_ h.bB c.size,?_,?_⟩
 .rw[bf_,j];simp only[Option.toList_some,a2_,a1_,not_or];exact⟨h.nz,λe=>hn e.symm⟩
 .rw[bp_,be_];simpa using ho
def kY{w:World}{lv:Value}{fn:FuncId}{caps:Array Value}{R:Value->World->Prop}(ho:qI w lv ns D)(z:∀i,IfV (D i))(hn:∀n∈ns,n<=301)(hl:ns.length<=300)(a9:∀G W,(callFunc fn G).run prog W=.ok (.enter fn G) W)(hB:∀W pv,Fr w W N_->W.ownsRow (w.heap.size+1) 59 1 pv ns.length ((List.range ns.length).flatMap λi=>[D i])->Calls prog fn (#[pv]++caps) W (λe w'=>∃v,e=.returned v/\IfV v/\Fr W w' N_/\R v w'))(u:∀v W W',R v W->Fr W W' (λg=>g=w.heap.size)->R v W'):Calls prog 109 #[lv,.func (.func fn) #[] caps] w λe w'=>∃v,e=.returned (.agg #[z_ (jnN ns:Int),v])/\IfV v/\Fr w w' N_/\(jnN ns=0\/jnN ns=301->v=.nilIface)/\(1<=jnN ns->jnN ns<=300->R v w'):=by
 refine hq_ λa7 t=>?_;obtain⟨la,lc,rfl⟩:=zl ho;have start:JnM w ns D 0 (L_) (w.alloc (.cells #[O_,.nilIface] 88)):=⟨(A_ w _).alloc _,B_ w _ _,by rw[zi];exact l_,by simp,World.ownsRow_nil _ _ _ _⟩;replace start:=zy start;replace ho:=zy ho;replace hB:=zy hB;replace u:=zy u;replace z:=zy z;replace hn:=zy hn;go_in;go_wp2;go_loopg [5,6,11] (ns.length+1) (λm N v6 v W=>∃q:Nat,N=z_ ((1+(ns.take q).sum:Nat):Int)/\v=I_ q/\q<=ns.length/\ns.length+1-q<=m/\(ns.take q).sum<=301*q/\H_ (JnM w ns D q v6 W));case atStart=>exact⟨0,by simp,rfl,al_ _,M_,by simp,start⟩
 case round=>
  obtain⟨q,rfl,rfl,hq,hm,E,hQ⟩:=hrel;obtain⟨pa,M,rfl⟩:=zl hQ.o.row;by_cases L:q<ns.length
  .have B:(q:Int)<(ns.length:Int):=M_;have f:ns[q]?=some ns[q]:=af_ L;generalize ns[q]=n at f;have b4:=hn.o n (aj_ f);have r:=cM f;obtain⟨g,cap,X⟩:=zm ho M_;cases X;obtain⟨H,O⟩:=qI.cells (zj ho hQ.o.fr u_) f;have J:=z.o q;have sD:=λW a m=>run_store prog W a (D q) m J.one;have b0:=hQ.o.b.c0;have b1:=hQ.o.b.c1;have t0:=hQ.o.b.th 0;have t1:=hQ.o.b.th 1;have V:=hQ.o.bB;have F:=(A_ wr N_).alloc (.cells #[I_ n,D q] 88);have c:=zy (hQ.o.call F);have a3:=zy (aj_ f);obtain⟨S,d⟩:=x_ ((ns.take q).sum);rw[d]at r E;rw[d];replace f:=zy f;replace r:=zy r;replace d:=zy d;by_cases hz:n=0
   .subst hz;have hr:=zy (show jnN ns=0 by unfold jnN;rw[i_ a3.o]);replace c:H_ (JnM w ns D q (.slice pa q M) (wr.alloc (.cells #[O_,D q] 88))):=c;replace H:wr.cell? ⟨g,q*2,none⟩=some (O_):=H;have c0:=c.o.b.c0;have c1:=c.o.b.c1;have u0:=c.o.b.th 0;have u1:=c.o.b.th 1;go_wp2;have P:=X_ c.o.b (O_) .nilIface;have j:=P.c0;have k:=P.c1;refine bodyPost_ret (v:=.agg #[O_,.nilIface]) (by simp[results,results109,go_sem,j,k]) rfl ?_;rw[t.o,hr.o];exact⟨_,rfl,.inl rfl,c.o.fr.trans (Z_ _ _ _ _) (λx hx e=>M_),λ_=>rfl,λh=>M_⟩
   .have b6:((n:Int)==0)=false:=by rw[beq_eq_false_iff_ne];omega
    obtain⟨ti,Y,Z,a0,a1⟩:=info_parts mC;have a6:=zy hz;rcases J with hv|⟨dT,dx,hv⟩;all_goals
     rw[hv]at O c;have hv:=zy hv;have a5:=zy c.o.row
     go_wp2_with (at_builtin;go_must (refine wpList_append_own_at _ rfl _ _ 141 rfl (w.heap.size+1) 59 ti _ 1 16 VG Y Z a0 a1 rfl D_ (.slice pa q M) q ((List.range q).flatMap λi=>[D i]) rfl ?hown _ 1 1 [_] rfl rfl (zN _ #[_] _ _ ?nn) ?one ?b1 ?b2 ?b3 ?_)
                  case hown=>exact World.ownsRow.alloc a5 _
                  case nn=>simp
                  case one=>simp[Value.oneCell']
                  case b1=>unfold maxLen;omega
                  case b2=>omega
                  case b3=>simp;omega
                  intro N w5 C K a4 a2
                  have y:=c.o.item f a6 K (by rw[hv.o];exact C)
                  obtain⟨g5,a8,rfl⟩:=zm C M_
                  replace y:=zy y)
     go_roundg (ns.length+1-(q+1));case measure=>omega
     case rel=>exact⟨q+1,by rw[r.o];simp;omega,by simp,L,l_,by rw[r.o];omega,y⟩
  .have B:¬((q:Int)<(ns.length:Int)):=M_;obtain rfl:q=ns.length:=M_;have l:=hQ.o.nz;rw[List.take_length]at l E⊢;obtain⟨S,d⟩:=x_ (1+ns.sum);rw[d];have d:=zy d;have b0:=hQ.o.b.c0;have b1:=hQ.o.b.c1;have t0:=hQ.o.b.th 0;have t1:=hQ.o.b.th 1;by_cases hb:300<S
   .have U:(S:Int) > 300:=M_;have hr:=zy (show jnN ns=301 by unfold jnN;rw[n_ l,d.o,i_ hb]);go_wp2;have P:=X_ hQ.o.b (z_ 301) .nilIface;have j:=P.c0;have k:=P.c1;refine bodyPost_ret (v:=.agg #[z_ 301,.nilIface]) (by simp[results,results109,go_sem,j,k]) rfl ?_;rw[t.o,hr.o];exact⟨_,rfl,.inl rfl,hQ.o.fr.trans (Z_ _ _ _ _) (λx hx e=>M_),λ_=>rfl,λ_ h=>M_⟩
   .have U:¬((S:Int) > 300):=M_;have hr:=zy (show jnN ns=S by unfold jnN;rw[n_ l,d.o,n_ hb]);have F:=zy (hB.o wr _ hQ.o.fr hQ.o.row);go_wp2_with (apply F.o.mono;rintro e Y ⟨X,rfl,H,f,c⟩;have P2:=f.bl hQ.o.b id;have J:=P2.c0;have K:=P2.c1;have O:=P2.th 0;have l1:=P2.th 1;have y:=zy (hQ.o.fr.trans f u_);have P2:=zy P2;have c:=zy c;rcases H with rfl|⟨r,C,rfl⟩)
    .have P:=X_ P2 (I_ S) .nilIface;have j:=P.c0;have k:=P.c1;refine bodyPost_ret (v:=.agg #[I_ S,.nilIface]) (by simp[results,results109,go_sem,j,k]) rfl ?_;rw[t.o,hr.o];exact⟨_,rfl,.inl rfl,y.o.trans (Z_ _ _ _ _) (λx hx e=>M_),λ_=>rfl,λ_ _=>u.o _ _ _ c (Z_ _ _ _ _)⟩
    .have P:=X_ P2 (I_ S) (.iface r C);have j:=P.c0;have k:=P.c1;refine bodyPost_ret (v:=.agg #[I_ S,.iface r C]) (by simp[results,results109,go_sem,j,k]) rfl ?_;rw[t.o,hr.o];exact⟨_,rfl,.inr ⟨_,_,rfl⟩,y.o.trans (Z_ _ _ _ _) (λx hx e=>M_),λh=>M_,λ_ _=>u.o _ _ _ c (Z_ _ _ _ _)⟩
def jA{f:FuncId}{fn:Func}{c:Code}(hf:Tryz.prog.funcs[f]?=some fn)(d:(fn.name == "runtime.NumGoroutine")=false)(hb:fn.body=some c):∀a W,(callFunc f a).run prog W=.ok (.enter f a) W:=by
 intro a w
 have h1:fn.name≠ "runtime.NumGoroutine":=by simpa using d
 simp[callFunc,hf,h1,hb,mark]
def ui{w:World}{B g k:Nat}{e:TypeId}{cs:List Value}(h:Blk w g cs e)(hb:B<=g)(hl:cs.length=n*k)(hn:n<=maxLen):w.ownsRow B e k (S_ g n n) n cs:=
 ⟨hl,.inr ⟨g,n,cs.toArray,rfl,hb,h,l_,hn,by simp[hl],by simp[<- hl]⟩⟩
def Zq{w:World}{T:TypeId}(h:Blk w b [dv] T):Calls prog 110 #[pv,P_ b] w λe w'=>e=.returned dv/\Fr w w' N_:=by
 refine hq_ λc a=>?_;have c0:=h.c0;go_in;go_wp2;try go_ret
 rw[a.o];exact⟨rfl,A_ _ _⟩
def rL{w:World}{T:TypeId}{x:Value}:Calls prog 76 #[.iface T x] w λe w'=>e=.returned (.agg #[z_ 1,.iface T x])/\Fr w w' N_:=by
 refine hq_ λy j=>?_;obtain⟨w1,a⟩:=e_ ((w.alloc (.cells #[.iface T x] 59)).alloc (.cells #[O_,.nilIface] 88));have d:Fr w w1 N_:=by rw[a];exact((A_ w _).alloc _).alloc _
 have i:Blk w1 w.heap.size [.iface T x] 59:=by rw[a];exact(B_ w #[.iface T x] 59).alloc _
 have c:Blk w1 (w.heap.size+1) [O_,.nilIface] 88:=by
  rw[a];have h:=B_ (w.alloc (.cells #[.iface T x] 59)) #[O_,.nilIface] 88;rw[zi]at h;exact h
 have hz:w1.heap.size=w.heap.size+2:=by rw[a,zi,zi]
 have k:=zy (kY (w:=w1) (lv:=L_) (ns:=[]) (D:=λ_=>.iface T x) (fn:=110) (caps:=#[P_ w.heap.size]) (R:=λv _=>v=.iface T x) (World.ownsRow_nil _ _ _ _) (λ_=>.inr ⟨_,_,rfl⟩) (λn h=>by cases h) (by simp) (jA func110 K_ rfl)
  (λW pv r _=>(Zq (pv:=pv) (r.bl i id)).mono (λe w' q=>⟨_,q.1,.inr ⟨_,_,rfl⟩,q.2,rfl⟩)) (λv W W' h _=>h))
 replace a:=zy a;replace d:=zy d;replace c:=zy c;go_in;go_wp2_with (go_at_call 109;rw[<- a.o];apply k.o.mono;rintro e E ⟨v,rfl,_,f,_,hv⟩;obtain rfl:=hv D_ D_;rw[show((jnN []:Nat):Int)=1 from rfl];have P2:=f.bl c id;have z:=P2.c0;have B:=P2.c1;have C:=P2.th 0;have l1:=P2.th 1;have l:=zy (d.o.trans f u_);have P2:=zy P2);have P:=X_ P2 (z_ 1) (.iface T x);have t:=P.c0;have u:=P.c1;refine bodyPost_ret (v:=.agg #[z_ 1,.iface T x]) (by simp[results,results76,go_sem,t,u]) rfl ?_;rw[j.o];exact⟨rfl,l.o.trans (Z_ _ _ _ _) (λx hx e=>M_)⟩
def lu{w:World}{dT:Value}{T:TypeId}{B:Nat}(a:IfV (D 0))(h:Blk w b [I_ n] T)(ho:w.ownsRow B 59 1 pv 1 ((List.range 1).flatMap λi=>[D i]))(c:dT=D 0):Calls prog 137 #[pv,P_ b] w λe w'=>e=.returned (.iface 148 (.agg #[I_ n,dT]))/\Fr w w' N_:=by
 refine hq_ λj d=>?_;have c0:=h.c0;obtain⟨g,cap,rfl⟩:=zm ho M_;have f:w.cell? ⟨g,0,none⟩=some (D 0):=sY (zS ho) (Nat.lt_add_one 0);rw[<- c]at f a;clear h ho c;rcases a with rfl|⟨dT,dx,rfl⟩;all_goals
  go_in;go_wp2;go_quiet (fail);go_wp2;try go_ret
  rw[d.o];exact⟨rfl,(A_ _ _).si (zq.drewN _ _)⟩
def BrR(n:Nat)(kv v:Value):Prop:=v=.iface 148 (.agg #[I_ n,kv])
def bC{w:World}(hk:IfV kv)(hm:m<=301):Calls prog 112 #[I_ n,.agg #[I_ m,kv]] w λe w'=>∃v,e=.returned (.agg #[z_ (jnN [m]:Int),v])/\IfV v/\Fr w w' N_/\(jnN [m]=0\/jnN [m]=301->v=.nilIface)/\(1<=jnN [m]->jnN [m]<=300->BrR n kv v):=by
 refine hq_ λF u=>?_;obtain⟨w1,c⟩:=e_ ((((w.alloc (.cells #[I_ n] 3)).alloc (.cells #[I_ m,kv] 88)).alloc (.cells #[O_,.nilIface] 88)).alloc (.cells #[I_ m,kv] 88));have i:Fr w w1 N_:=by rw[c];exact((((A_ w _).alloc _).alloc _).alloc _).alloc _
 have t:Blk w1 w.heap.size [I_ n] 3:=by rw[c];exact(((B_ w #[I_ n] 3).alloc _).alloc _).alloc _
 have f:Blk w1 (w.heap.size+1+1) [O_,.nilIface] 88:=by
  rw[c];have h:=(B_ ((w.alloc (.cells #[I_ n] 3)).alloc (.cells #[I_ m,kv] 88)) #[O_,.nilIface] 88).alloc (.cells #[I_ m,kv] 88);rw[zi,zi]at h;exact h
 have ho:qI w1 (S_ (w.heap.size+1+1+1) 1 1) [m] (λ_=>kv):=by
  have h:=B_ (((w.alloc (.cells #[I_ n] 3)).alloc (.cells #[I_ m,kv] 88)).alloc (.cells #[O_,.nilIface] 88)) #[I_ m,kv] 88;rw[zi,zi,zi,<- c]at h;exact ui h o_ rfl (by unfold maxLen;omega)
 have y:=zy (kY (w:=w1) (ns:=[m]) (D:=λ_=>kv) (fn:=137) (caps:=#[P_ w.heap.size]) (R:=λv _=>BrR n kv v) ho (λ_=>hk) (λn h=>by simp only[a1_]at h;omega) (by simp) (jA func137 K_ rfl)
  (λW pv B hr=>(lu (D:=λ_=>kv) hk (B.bl t id) hr rfl).mono (λe w' q=>⟨_,q.1,.inr ⟨_,_,rfl⟩,q.2,rfl⟩)) (λv W W' h _=>h))
 replace c:=zy c;replace i:=zy i;replace f:=zy f;generalize jnN [m]=j at y u;go_in;go_wp2_with (go_at_call 109;rw[<- c.o];apply y.o.mono;rintro e M ⟨v,rfl,d,k,l,r⟩;have P2:=k.bl f id;have G:=P2.c0;have H:=P2.c1;have J:=P2.th 0;have l1:=P2.th 1;have z:=zy (i.o.trans k u_);have P2:=zy P2;have L:=λW a m=>run_store prog W a v m d.one;replace l:=zy l;replace r:=zy r;have d:=zy d);have P:=X_ P2 (I_ j) v;have C:=P.c0;have E:=P.c1;refine bodyPost_ret (v:=.agg #[I_ j,v]) (by simp[results,results112,go_sem,C,E]) rfl ?_;rw[u.o];exact⟨_,rfl,d,z.o.trans (Z_ _ _ _ _) (λx hx e=>M_),l,r⟩
def lp{w:World}{la:Option Addr}{a lc:Nat}:Calls prog 138 #[.slice la a lc] w λe w'=>e=.returned (.iface 150 (.slice la a lc))/\Fr w w' N_:=by
 refine hq_ λd c=>?_;go_in;go_wp2;try go_ret
 rw[c.o];exact⟨rfl,A_ _ _⟩
def RcR(B n:Nat)(D:Nat->Value)(v:Value)(W:World):Prop:=∃pv,v=.iface 150 pv/\W.ownsRow B 59 1 pv n ((List.range n).flatMap λi=>[D i])
def fC{w:World}{lv:Value}(ho:qI w lv ns D)(C:∀i,IfV (D i))(hn:∀n∈ns,n<=301)(hl:ns.length<=300):Calls prog 114 #[lv] w λe w'=>∃v,e=.returned (.agg #[z_ (jnN ns:Int),v])/\IfV v/\Fr w w' N_/\(jnN ns=0\/jnN ns=301->v=.nilIface)/\(1<=jnN ns->jnN ns<=300->RcR (w.heap.size+2) ns.length D v w'):=by
 refine hq_ λJ B=>?_;obtain⟨w1,c⟩:=e_ (w.alloc (.cells #[O_,.nilIface] 88));have k:Fr w w1 N_:=by rw[c];exact(A_ w _).alloc _
 have t:Blk w1 w.heap.size [O_,.nilIface] 88:=by rw[c];exact B_ w #[O_,.nilIface] 88
 have hz:w1.heap.size=w.heap.size+1:=by rw[c,zi]
 obtain⟨la,lc,rfl⟩:=zl ho;have l:=kY (w:=w1) (ns:=ns) (D:=D) (fn:=138) (caps:=#[]) (R:=λv W=>RcR (w.heap.size+2) ns.length D v W) (zj ho k u_) C hn hl (jA func138 K_ rfl)
  (λW pv K hr=>by
   obtain⟨pa,O,rfl⟩:=zl hr
   refine lp.mono (λe w' q=>⟨_,q.1,.inr ⟨_,_,rfl⟩,q.2,_,rfl,zj (by rw[hz]at hr;exact hr) q.2 u_⟩))
  (λv W W' h hf=>by
   obtain⟨pv,h1,d⟩:=h
   exact⟨pv,h1,zj d hf (λg e h=>by have:=(d.lt g e).1;omega)⟩)
 replace l:=zy l;replace c:=zy c;replace k:=zy k;replace t:=zy t;have F:H_ (∀v (f:World) a b,RcR (w.heap.size+2) ns.length D v f->RcR (w.heap.size+2) ns.length D v ((f.setCell ⟨w.heap.size,0,none⟩ a).setCell ⟨w.heap.size,1,none⟩ b)):=zy (λv f a b h=>by
  obtain⟨pv,h1,d⟩:=h
  exact⟨pv,h1,zj d (Z_ f w.heap.size a b) (λg e h=>by have:=(d.lt g e).1;omega)⟩)
 generalize jnN ns=j at l B;go_in;go_wp2_with (go_at_call 109;rw[<- c.o];apply l.o.mono;rintro e f ⟨v,rfl,r,u,y,z⟩;have P2:=u.bl t id;have L:=P2.c0;have M:=P2.c1;have N:=P2.th 0;have l1:=P2.th 1;have E:=zy (k.o.trans u u_);have P2:=zy P2;have U:=λW a m=>run_store prog W a v m r.one;replace y:=zy y;replace z:=zy z;have r:=zy r);have P:=X_ P2 (I_ j) v;have G:=P.c0;have H:=P.c1;refine bodyPost_ret (v:=.agg #[I_ j,v]) (by simp[results,results114,go_sem,G,H]) rfl ?_;rw[B.o];exact⟨_,rfl,r,E.o.trans (Z_ _ _ _ _) (λx hx e=>M_),y,λa b=>F.o _ _ _ _ (z.o a b)⟩
end Go.Proofs.YtjkiencmjggakaaGreatDoor
