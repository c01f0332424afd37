import Derived.Test.YtamhgejdkclmdaaGreatDoorW21
set_option maxHeartbeats 16000000
set_option maxRecDepth 100000
set_option linter.defProp false
set_option linter.unusedSimpArgs false
set_option linter.unusedVariables false
open Go.Proofs.Tryz
namespace Go.Proofs.YtamhgejdkclmdaaGreatDoor
open Go.RowKit
variable {lo f n:Nat}{w':Aw}{rv b v5 v a lv0:Ax}{α β:Type}{Y0:Ah}
def jx.frS{E:cJ}{w:Aw}{j:Ax}{a:Int×Int}{S:Az}(h:jx E w lo j a)(hf:Fr w w' S)(i:∀g,lo<=g->¬S g):jx E w' lo j a:=by
 rcases h with h|h|⟨h1,c⟩|⟨h1,c⟩|⟨h1,c⟩|⟨h1,k,c,m⟩
 .exact .inl h
 .exact .inr (.inl h)
 .exact .inr (.inr (.inl ⟨h1,c.fr hf i⟩))
 .exact .inr (.inr (.inr (.inl ⟨h1,c.fr hf i⟩)))
 .exact .inr (.inr (.inr (.inr (.inl ⟨h1,c.fr hf i⟩))))
 .exact .inr (.inr (.inr (.inr (.inr ⟨h1,k,c.fr hf i,m.fr hf i⟩))))
def wo.frS{w:Aw}{s:BA}{sv:Ax}{S:Az}(h:wo lo w s sv rv)(hf:Fr w w' S)(c:∀g,lo<=g->¬S g):wo lo w' s sv rv:=by
 obtain⟨ds,t,xs,hs,hp,hn,hu,D,T,F⟩:=h;have hz:=hf.size;exact⟨ds,t,xs,hs,hp,hn,hu,(D.fr hf (λg hg=>c g hg.1)).mono (λg _ hg=>⟨hg.1,M_⟩),(T.fr hf (λg hg=>c g hg.1)).mono (λg _ hg=>⟨hg.1,M_⟩),(F.fr D hf (λg hg=>c g hg.1) c).mono l_ (λg hg=>⟨hg.1,M_⟩)⟩
def wo.ls{c:Nat}{w:Aw}{s:BA}{sv:Ax}(h:wo lo w s sv rv)(hl:c<=lo):wo c w s sv rv:=by
 obtain⟨ds,t,xs,hs,hp,hn,hu,D,T,F⟩:=h;exact⟨ds,t,xs,hs,hp,hn,hu,D.mono (λg _ hg=>⟨M_,hg.2⟩),T.mono (λg _ hg=>⟨M_,hg.2⟩),F.mono hl (λg hg=>⟨M_,hg.2⟩)⟩
def wo.forms{w:Aw}{s:BA}{sv:Ax}(h:wo lo w s sv rv):∃sa sn sc rT rx,sv=.slice sa sn sc/\rv=.iface rT rx:=by
 obtain⟨ds,t,xs,hs,hp,hn,hu,D,T,F⟩:=h;obtain⟨sa,sc,rfl⟩:=zw D.row;obtain⟨rT,rx,rfl⟩:=T.iface;exact⟨_,_,_,_,_,rfl,rfl⟩
def pW(w:Aw)(sw sr:BA)(e:Ak)(w':Aw):Prop:=
 ∃sv rv sv' rv' ev,e=.returned (.tuple #[.agg #[sv,rv],.agg #[sv',rv'],ev])/\Fr w w' N_/\
  (((zu sw).1=0/\(zu sr).1=0/\ev=.nilIface/\wo w.heap.size w' sw sv rv/\wo w.heap.size w' sr sv' rv')\/
   (¬((zu sw).1=0/\(zu sr).1=0)/\sv=L_/\rv=.nilIface/\sv'=L_/\rv'=.nilIface/\(∃T x,ev=.iface T x)/\gM w' ev (if (zu sw).1=0 then (zu sr).1 else (zu sw).1)))
def st2{w:Aw}{m:Nat}{u0 k c h:Ax}{T T':Av}(B:Blk w n [u0,k] T)(i:Blk w m [c,h] T')(j:m≠n):Blk ((w.setCell ⟨n,0,none⟩ a).setCell ⟨n,1,none⟩ b) n [a,b] T/\Blk ((w.setCell ⟨n,0,none⟩ a).setCell ⟨n,1,none⟩ b) m [c,h] T'/\Fr w ((w.setCell ⟨n,0,none⟩ a).setCell ⟨n,1,none⟩ b) (λg=>g=n):=
 ⟨V_ B a b,(Fr.pa w n a b).bl i (λe=>j e),Fr.pa w n a b⟩
section
variable {A:Bb} {w:Aw} {sw sr:BA}
def qU(S:yF A w)(j:yg w)(m:yk w)(k:xW w)(s:BA):∀W,Fr w W N_->Calls prog 27 #[.string s] W (eh W s (uS A)):=λW h=>by
 have hz:=h.size;have i:∀V,yy W V->yy w V:=λV c g hg=>(c g M_).trans (h.block g hg id);exact XQ (S.fr h).errs (λV c=>j V (i V c)) (λV c=>m V (i V c)) (XF (λV c=>k V (i V c)))
def pZ(w:Aw):∃c,c=(w.alloc (.cells #[L_,.nilIface] 60)).alloc (.cells #[L_,.nilIface] 60)/\Fr w c N_/\c.heap.size=w.heap.size+2/\Blk c w.heap.size [L_,.nilIface] 60/\Blk c (w.heap.size+1) [L_,.nilIface] 60:=by
 refine⟨_,rfl,((A_ w N_).alloc _).alloc _,by rw[zc,zc],(B_ w #[L_,.nilIface] 60).alloc _,?_⟩;have h:=B_ (w.alloc (.cells #[L_,.nilIface] 60)) #[L_,.nilIface] 60;rw[zc]at h;exact h
def cwZX1_{p:Prop}(h:p:=by
 (first|(have:=cc1;have s1:=st2 (a:=.slice sa sn sc) (b:=.iface rT rx) hbb.o.1 hbb.o.2 M_)|(have s1:=st2 (a:=.slice sa sn sc) (b:=.nilIface) hbb.o.1 hbb.o.2 M_));have s2:=st2 (a:=L_) (b:=.nilIface) s1.1 s1.2.1 M_;have s3:=st2 (a:=L_) (b:=.nilIface) s2.2.1 s2.1 M_;have q0:=s3.2.1.c0;have q1:=s3.2.1.c1;have q2:=s3.1.c0;have q3:=s3.1.c1;refine bodyPost_ret (v:=.tuple #[.agg #[L_,.nilIface],.agg #[L_,.nilIface],.iface T x]) xp_ rfl ?_;rw[Q_.o];have F3:Fr w1 _ (λg=>g=w.heap.size\/g=w.heap.size+1):=((s1.2.2.mono (λ_ _ e=>.inl e)).trans s2.2.2 (λ_ _ e=>.inl e)).trans s3.2.2 (λ_ _ e=>.inr e);have F4:=(Fz.o.trans hf1.o u_).trans F3 (λx hx e=>M_);refine⟨_,_,_,_,_,rfl,F4,.inr ⟨λh=>h0.o h.1,rfl,rfl,rfl,rfl,⟨_,_,rfl⟩,?_⟩⟩;rw[n_ h0.o];exact(hEr.o.frS F3 (λg hg e=>by have:=hz2.o;omega)).numIs (S.o.fr F4) h0.o):p:=h
def ZX(S:yF A w)(p:yg w)(r:yk w)(q:xW w)(h0:(zu sw).1≠0):Calls prog 16 #[.string sw,.string sr] w (pW w sw sr):=by
 refine hq_ λC Q_=>?_;obtain⟨B,m,Fz,hz2,j,k⟩:=pZ w;have u:=zy (qU S p r q sw B Fz);revert S h0 m Fz hz2 j;refine m_ λS h0 m Fz hz2 j=>?_;replace k:=zy k;clear p r q;go_in;go_wp2_with (go_at_call 27;rw[<- m.o];apply u.o.mono;rintro e w1 ⟨sv,rv,D,rfl,⟨sa,sn,sc,rfl⟩,z,hf1,hEr,-⟩;obtain⟨T,x,rfl,_⟩:=hEr.num (S.o.fr (Fz.o.trans hf1 u_)) h0;have c:=hf1.bl j id;have i:=hf1.bl k id;have I:w.heap.size<w1.heap.size:=c.lt;have J:w.heap.size+1<w1.heap.size:=i.lt;have r0:=c.c0;have r1:=c.c1;have E:=c.th 0;have F:=c.th 1;have K:=i.c0;have L:=i.c1;have G:=i.th 0;have H:=i.th 1;have hbb:=zy (And.intro c i);replace hf1:=zy hf1;replace hEr:=zy hEr;clear c i u;rcases z with rfl|⟨rT,rx,rfl⟩)
 .exact cwZX1_
 .have cc1:=Nat;exact cwZX1_
def cwZY1_{p:Prop}(h:p:=by
 (first|(have:=cc1;have s2:=st2 (a:=.slice sa' sn' sc') (b:=.iface rT' rx') hbb.o.2 hbb.o.1 M_)|(have s2:=st2 (a:=.slice sa' sn' sc') (b:=.nilIface) hbb.o.2 hbb.o.1 M_));have s3:=st2 (a:=L_) (b:=.nilIface) s2.2.1 s2.1 M_;have s4:=st2 (a:=L_) (b:=.nilIface) s3.2.1 s3.1 M_;have q0:=s4.2.1.c0;have q1:=s4.2.1.c1;have q2:=s4.1.c0;have q3:=s4.1.c1;refine bodyPost_ret (v:=.tuple #[.agg #[L_,.nilIface],.agg #[L_,.nilIface],.iface T x]) xp_ rfl ?_;rw[Q_.o];have F3:Fr w2 _ (λg=>g=w.heap.size\/g=w.heap.size+1):=((s2.2.2.mono (λ_ _ e=>.inr e)).trans s3.2.2 (λ_ _ e=>.inl e)).trans s4.2.2 (λ_ _ e=>.inr e);have F4:=F2.o.trans F3 (λx hx e=>M_);refine⟨_,_,_,_,_,rfl,F4,.inr ⟨λh=>h1.o h.2,rfl,rfl,rfl,rfl,⟨_,_,rfl⟩,?_⟩⟩;rw[i_ h0.o];exact(hEr.o.frS F3 (λg hg e=>by have:=hlo.o;omega)).numIs (S.o.fr F4) h1.o):p:=h
def ZY(S:yF A w)(u:yg w)(B:yk w)(z:xW w)(h0:(zu sw).1=0)(h1:(zu sr).1≠0):Calls prog 16 #[.string sw,.string sr] w (pW w sw sr):=by
 refine hq_ λV Q_=>?_;obtain⟨U,C,k,H,q,r⟩:=pZ w;have F:=zy (qU S u B z sw U k);have G:=zy (qU S u B z sr);revert S h0 h1 C k;refine k_ λS h0 h1 C k=>?_;revert H q r;refine h_ λH q r=>?_;clear u B z;go_in;go_wp2_with (first
  |(go_at_call 27;rw[<- C.o];apply F.o.mono;rintro e w1 ⟨sv,rv,I,rfl,-,-,m,hEr,E⟩;obtain⟨_,rfl⟩:=hEr.zero h0;obtain⟨sa,sn,sc,rT,rx,rfl,rfl⟩:=(E h0).forms;have c:=m.bl q id;have i:=m.bl r id;have X:w.heap.size<w1.heap.size:=c.lt;have Y:w.heap.size+1<w1.heap.size:=i.lt;have r0:=c.c0;have r1:=c.c1;have J:=c.th 0;have K:=c.th 1;have O:=i.c0;have R:=i.c1;have L:=i.th 0;have M:=i.th 1;have j:=zy (st2 (a:=.slice sa sn sc) (b:=.iface rT rx) c i M_);have D:=zy (k.o.trans m u_);clear c i F m hEr E)
  |(go_at_call 27;apply(G.o _ (D.o.trans j.o.2.2 (λx hx e=>M_))).mono;rintro e w2 ⟨sv',rv',I,rfl,⟨sa',sn',sc',rfl⟩,N,p,hEr,-⟩;have hlo:=zy j.o.2.2.size;have F2:=zy ((D.o.trans j.o.2.2 (λx hx e=>M_)).trans p u_);obtain⟨T,x,rfl,_⟩:=hEr.num (S.o.fr F2) h1;have c:=p.bl j.o.1 id;have i:=p.bl j.o.2.1 id;have Z:w.heap.size<w2.heap.size:=c.lt;have a0:w.heap.size+1<w2.heap.size:=i.lt;have r0:=c.c0;have r1:=c.c1;have J:=c.th 0;have K:=c.th 1;have O:=i.c0;have R:=i.c1;have L:=i.th 0;have M:=i.th 1;have hbb:=zy (And.intro c i);replace hEr:=zy hEr;clear c i G p;rcases N with rfl|⟨rT',rx',rfl⟩))
 .exact cwZY1_
 .have cc1:=Nat;exact cwZY1_
def ZZ(S:yF A w)(K:yg w)(M:yk w)(L:xW w)(h0:(zu sw).1=0)(h1:(zu sr).1=0):Calls prog 16 #[.string sw,.string sr] w (pW w sw sr):=by
 refine hq_ λa3 Q_=>?_;obtain⟨wz,O,z,j,I,J⟩:=pZ w;have hR:=zy (qU S K M L sw wz z);have a0:=zy (qU S K M L sr);revert S h0 h1 O z;refine k_ λS h0 h1 O z=>?_;revert j I J;refine h_ λj I J=>?_;clear K M L;go_in;go_wp2_with (first
  |(go_at_call 27;rw[<- O.o];apply hR.o.mono;rintro e w1 ⟨sv,rv,ev,rfl,-,-,B,p,q⟩;obtain⟨_,rfl⟩:=p.zero h0;have hX:=zy (q h0);obtain⟨sa,sn,sc,rT,rx,rfl,rfl⟩:=hX.o.forms;have c:=B.bl I id;have h:=B.bl J id;have a4:w.heap.size<w1.heap.size:=c.lt;have a5:w.heap.size+1<w1.heap.size:=h.lt;have r0:=c.c0;have r1:=c.c1;have Y:=c.th 0;have Z:=c.th 1;have r2:=h.c0;have r3:=h.c1;have g2:=h.th 0;have g3:=h.th 1;have i:=zy (st2 (a:=.slice sa sn sc) (b:=.iface rT rx) c h M_);have X:=zy (z.o.trans B u_);clear c h hR B p q)
  |(go_at_call 27;apply(a0.o _ (X.o.trans i.o.2.2 (λx hx e=>M_))).mono;rintro e V ⟨sv',rv',ev,rfl,-,-,r,p,q⟩;obtain⟨_,rfl⟩:=p.zero h1;have N:=zy (q h1);obtain⟨F,H,G,C,D,rfl,rfl⟩:=N.o.forms;have u:=zy i.o.2.2.size;have a2:=zy ((hX.o.frS i.o.2.2 (λg hg e=>by have:=j.o;omega)).frS r u_);have c:=r.bl i.o.1 id;have h:=r.bl i.o.2.1 id;have a6:w.heap.size<V.heap.size:=c.lt;have a7:w.heap.size+1<V.heap.size:=h.lt;have r0:=c.c0;have r1:=c.c1;have Y:=c.th 0;have Z:=c.th 1;have r2:=h.c0;have r3:=h.c1;have g2:=h.th 0;have g3:=h.th 1;have s2:=zy (st2 (a:=.slice F H G) (b:=.iface C D) h c M_);have F2:=zy ((X.o.trans i.o.2.2 (λx hx e=>M_)).trans r u_);clear c h a0 r p q hX))
 have s3:=s2.o;obtain⟨W3,a1⟩:=e_ ((V.setCell ⟨w.heap.size+1,0,none⟩ (.slice F H G)).setCell ⟨w.heap.size+1,1,none⟩ (.iface C D));rw[<- a1]at s3⊢;obtain⟨b1,b0,f3⟩:=s3;have F3:=zy (F2.o.trans f3 (λx hx e=>M_));have Y1:=zy (a2.o.frS f3 (λg hg e=>by have:=j.o;omega));have Y2:=zy (N.o.frS f3 (λg hg e=>by have:=u.o;omega));have c0:=b0.c0;have c1:=b0.c1;have c2:=b1.c0;have c3:=b1.c1;have t0:=b0.th 0;have t1:=b0.th 1;have t2:=b1.th 0;have t3:=b1.th 1;have E:=st2 (a:=.slice sa sn sc) (b:=.iface rT rx) b0 b1 M_;have k:=st2 (a:=.slice F H G) (b:=.iface C D) E.2.1 E.1 M_;have R:=k.2.1.drew.c0;have T:=k.2.1.drew.c1;have U:=k.1.drew.c0;have q3:=k.1.drew.c1;have m:Fr W3 _ (λg=>g=w.heap.size\/g=w.heap.size+1):=((E.2.2.mono (λ_ _ e=>.inl e)).trans k.2.2 (λ_ _ e=>.inr e)).drew;revert R T U q3 m;refine k_ λR T U q3 m=>?_;replace u:=zy (show w.heap.size+2<=((w1.setCell ⟨w.heap.size,0,none⟩ (.slice sa sn sc)).setCell ⟨w.heap.size,1,none⟩ (.iface rT rx)).heap.size by have:=u.o;omega);clear b0 b1 f3 a1 s2 i r0 r1 r2 r3 Y Z g2 g3 E k a2 N;go_region;go_wp2;refine bodyPost_ret (v:=.tuple #[.agg #[.slice sa sn sc,.iface rT rx],.agg #[.slice F H G,.iface C D],.nilIface]) (by simp[results,results16,go_sem,R.o,T.o,U.o,q3.o]) rfl ?_;rw[Q_.o];refine⟨_,_,_,_,_,rfl,F3.o.trans m (λx hx e=>M_),.inl ⟨h0,h1,rfl,?_,?_⟩⟩
 .exact(Y1.o.frS m (λg hg e=>by have:=j.o;omega)).ls (by have:=j.o;omega)
 .exact(Y2.o.frS m (λg hg e=>by have:=u.o;omega)).ls (by have:=u.o;omega)
def pI(S:yF A w)(c:yg w)(h:yk w)(g:xW w):Calls prog 16 #[.string sw,.string sr] w (pW w sw sr):=by
 by_cases h0:(zu sw).1=0
 .by_cases h1:(zu sr).1=0
  .exact ZZ S c h g h0 h1
  .exact ZY S c h g h0 h1
 .exact ZX S c h g h0
end
def DfM(k0:Nat)(Q:Az)(W:Aw)(s:BA)(ds:Aq)(xs:Ay):Prop:=
 ∃blk,pK (sp blk) W ds xs/\Zp Q ds blk/\∀f∈zk ds,∀a e,f.dflt=some (a,e)->∃x d,yI (zx ds) true f.ty (s.extract a e)=some d/\Blk W (blk a) [I_ a,.string (s.extract a e),x] 199/\DaV (zx ds) W (λg=>g<k0) d f.ty x
def DfM.fr{k0:Nat}{Q:Az}{w:Aw}{s:BA}{ds:Aq}{sv:Ax}{xs:Ay}(h:DfM k0 Q w s ds xs)(D:yC w Q s ds sv xs)(hf:Fr w w' N_):DfM k0 Q w' s ds xs:=by
 obtain⟨blk,h1,c,g⟩:=h;refine⟨blk,h1.to D (λfv n zs hP ho=>zj ho hf u_),c,λf hm a e he=>?_⟩;obtain⟨x,d,r1,c,i⟩:=g f hm a e he;exact⟨x,d,r1,hf.bl c id,i.fr hf u_⟩
def Dfs.dfm{Q:Az}{w:Aw}{s:BA}{ds:Aq}{xs:Ay}(h:Dfs lo Q w s ds xs):DfM w.heap.size Q w s ds xs:=by
 obtain⟨blk,h1,c,i⟩:=h;refine⟨blk,h1,c,λf hm a e he=>?_⟩;obtain⟨x,d,r1,c,j⟩:=i f hm a e he;exact⟨x,d,r1,c,j.mono (λg hg _=>hg)⟩
structure MC(P Q:Az)(s s':BA)(ds ds':Aq)(sv sv':Ax)(xs xs':Ay)(k0:Nat)(W:Aw):Prop where
 D:yC W P s ds sv xs
 E:yC W Q s' ds' sv' xs'
 F:DfM k0 Q W s' ds' xs'
 k:k0<=W.heap.size
structure MS(ds ds':Aq):Prop where
 g:vb ds
 g':vb ds'
 f:JH (zx ds)
 f':JH (zx ds')
def yh(er:Au)(y:PT)(k0:Nat)(w:Aw)(d:DT)(e:Ak)(w':Aw):Prop:=
 ∃v,e=.returned (.tuple #[v,.nilIface])/\Fr w w' N_/\DaV er w' (λg=>g<k0\/w.heap.size<=g) d y v
section
variable {w w1 W W':Aw} {P Q:Az} {s s':BA} {ds ds':Aq} {sv sv':Ax} {xs xs':Ay} {k0:Nat} {er:Au} {y:PT} {d:DT} {e:Ak}
def MC.new(M:MC P Q s s' ds ds' sv sv' xs xs' k0 W)(hf:Fr W W' N_):MC P Q s s' ds ds' sv sv' xs xs' k0 W':=
 ⟨M.D.fr hf u_,M.E.fr hf u_,M.F.fr M.E hf,aj_ M.k hf.size⟩
def yh.pre(hf:Fr w w1 N_)(h:yh er y k0 w1 d e W):yh er y k0 w d e W:=by
 obtain⟨v,he,c,hm⟩:=h;have hz:=hf.size;exact⟨v,he,hf.trans c u_,hm.mono (λg _ hg=>M_)⟩
def yh.two(hf:Fr w w1 N_)(h:yh er y k0 w1 d e W):Fr w1 W N_/\yh er y k0 w d e W:=
 ⟨by obtain⟨_,_,h,_⟩:=h;exact h,h.pre hf⟩
def yh.tup(h:yh er y k0 w d e W):∃v c,e=.returned (.tuple #[v,c])/\yh er y k0 w d (.returned (.tuple #[v,c])) W:=by
 have c:=h;obtain⟨v,he,_⟩:=c;exact⟨v,_,he,he▸h⟩
end
def Xc(P Q:Az)(s s':BA)(ds ds':Aq)(sv sv':Ax)(xs xs':Ay)(k0:Nat)(sT:Av)(sx:Ax)(rT:Av)(rx:Ax)(f:Nat):Prop:=
 ∀(w:World) (x y:PT) (d z:DT) (a b v:Value),MC P Q s s' ds ds' sv sv' xs xs' k0 w->TyV w P x a->TyV w Q y b->okT (zx ds) x->okT (zx ds') y->xA y->Dat (zx ds) d x->DaV (zx ds) w (λg=>g<k0) d x v->ndT d<=300->ndT d<=f->mkP (zx ds) (zx ds') (yE (zx ds') s') f x y d=some z->
  Calls prog 46 #[.agg #[sv,.iface sT sx,sv',.iface rT rx],a,b,v] w (yh (zx ds') y k0 w z)
def jX.growJ{env:Au}{w1 c:Aw}{B:Nat}{J:Az}{t:PT}{ds:Ae}{lv:Ax}{d:DT}{Y:Ah}(j:∀i d,ds[i]?=some d->DaV env w1 (λg=>J g/\lv.ownBlock≠some g) d (zD env t 0 i) (Y i))(hd:DaV env w1 (λg=>J g/\lv.ownBlock≠some g) d (zD env t 0 ds.length) v)(hf:Fr w1 c (λg=>lv.ownBlock=some g))(hl:v5.ownBlock=lv.ownBlock\/∃h,v5.ownBlock=some h/\w1.heap.size<=h)(ho:c.ownsRow B 64 1 v5 (ds.length+1) (((List.range ds.length).flatMap λi=>[Y i])++[v])):jX env c B (λg=>J g/\v5.ownBlock≠some g) t v5 (ds++[d]):=by
 have up:∀{d u v},DaV env w1 (λg=>J g/\lv.ownBlock≠some g) d u v->DaV env c (λg=>J g/\v5.ownBlock≠some g) d u v:=λh=>by
  have h1:DaV env w1 (λg=>(J g/\lv.ownBlock≠some g)/\g<w1.heap.size) _ _ _:=h.mono (λg h1 c=>⟨c,h1⟩);refine(h1.fr hf (λg hg e=>hg.1.2 e)).mono (λg _ hg=>⟨hg.1.1,λe=>?_⟩);rcases hl with h|⟨q,h,c⟩
  .exact hg.1.2 (h▸e)
  .rw[h]at e;have:=hg.2;simp only[af_]at e;omega
 refine⟨λi=>if i<ds.length then Y i else v,?_,λi e he=>?_⟩
 .rw[ah_,ap_,br_,a9_,xf ds.length _ (λi=>[Y i]) (λi hi=>by simp[hi])];simpa using ho
 .rcases gi he with⟨hi,he⟩|⟨rfl,rfl⟩
  .simp only[hi,if_true];exact up (j i e he)
  .simp only[a5_,if_false];exact up hd
def qn.growJ{env:Au}{w1 c:Aw}{J:Az}{t:PT}{es:Af}{ys:Ay}{lv:Ax}{key:BA}{d:DT}(h:qn env w1 (λg=>J g/\lv.ownBlock≠some g) t es ys)(hd:DaV env w1 (λg=>J g/\lv.ownBlock≠some g) d (zD env t 0 es.length) v)(hk:key.size<=4000)(hf:Fr w1 c (λg=>lv.ownBlock=some g))(hl:v5.ownBlock=lv.ownBlock\/∃h,v5.ownBlock=some h/\w1.heap.size<=h):qn env c (λg=>J g/\v5.ownBlock≠some g) t (es++[(key,d)]) (ys++[.string key,v]):=by
 obtain⟨Y,a,b,k⟩:=h;have up:∀{d u v},DaV env w1 (λg=>J g/\lv.ownBlock≠some g) d u v->DaV env c (λg=>J g/\v5.ownBlock≠some g) d u v:=λh=>by
  have h1:DaV env w1 (λg=>(J g/\lv.ownBlock≠some g)/\g<w1.heap.size) _ _ _:=h.mono (λg h1 c=>⟨c,h1⟩);refine(h1.fr hf (λg hg e=>hg.1.2 e)).mono (λg _ hg=>⟨hg.1.1,λe=>?_⟩);rcases hl with h|⟨q,h,c⟩
  .exact hg.1.2 (h▸e)
  .rw[h]at e;have:=hg.2;simp only[af_]at e;omega
 refine⟨λi=>if i<es.length then Y i else v,?_,λi e he=>?_,λe he=>?_⟩
 .have c:=xf es.length (λi=>[Value.string (((es++[(key,d)]).map Prod.fst).getD i noB),if i<es.length then Y i else v]) (λi=>[Value.string ((es.map Prod.fst).getD i noB),Y i]) (λi hi=>by
   simp only[bb_,aw_]
   rw[aq_ (by simpa using hi),i_ hi])
  rw[a,ah_,ap_,br_,a9_,c];simp[aw_]
 .rcases gi he with⟨hi,he⟩|⟨rfl,rfl⟩
  .simp only[hi,if_true];exact up (b i e he)
  .simp only[a5_,if_false];exact up hd
 .rcases a4_.1 he with h|h
  .exact k e h
  .simp only[a2_]at h;subst h;exact hk
section
variable {w:Aw} {sa ra:Al} {sn sc rn rc:Nat} {sT rT aT bT dT:Av} {sx rx ax bx dx:Ax}
def Wu{R:Co}{N:Da}(z:∀W,Fr w W N_->Calls prog 85 #[.agg #[.slice sa sn sc,.iface sT sx,.slice ra rn rc,.iface rT rx],.iface aT ax,.iface bT bx] W (λe w'=>∃T u,e=.returned (.iface T u)/\Fr W w' N_/\N (.iface T u) w'))(hB:∀W T u,Fr w W N_->N (.iface T u) W->Calls prog 84 #[.agg #[.slice sa sn sc,.iface sT sx,.slice ra rn rc,.iface rT rx],.iface T u,.iface dT dx] W (λe w'=>∃v p,e=.returned (.tuple #[v,p])/\Fr W w' N_/\R (.returned (.tuple #[v,p])) w')):Calls prog 46 #[.agg #[.slice sa sn sc,.iface sT sx,.slice ra rn rc,.iface rT rx],.iface aT ax,.iface bT bx,.iface dT dx] w R:=by
 refine hq_ λp D=>?_;replace z:=zy z;replace hB:=zy hB;obtain⟨k,j⟩:=e_ (w.alloc (.cells #[.slice sa sn sc,.iface sT sx,.slice ra rn rc,.iface rT rx] 91));have m:Fr w k N_:=by rw[j];exact(A_ w N_).alloc _
 have g:Blk k w.heap.size [.slice sa sn sc,.iface sT sx,.slice ra rn rc,.iface rT rx] 91:=by
  rw[j];exact B_ w #[.slice sa sn sc,.iface sT sx,.slice ra rn rc,.iface rT rx] 91
 obtain⟨B,c⟩:∃C:World->Prop,C=λW=>W.cell? ⟨w.heap.size,0,none⟩=some (.slice sa sn sc)/\W.cell? ⟨w.heap.size,1,none⟩=some (.iface sT sx)/\W.cell? ⟨w.heap.size,2,none⟩=some (.slice ra rn rc)/\W.cell? ⟨w.heap.size,3,none⟩=some (.iface rT rx):=⟨_,rfl⟩;have x:=zy (λW (p:Fr k W N_)=>show B W by
  rw[c]
  exact⟨(p.bl g id).cell 0,(p.bl g id).cell 1,(p.bl g id).cell 2,(p.bl g id).cell 3⟩)
 replace m:=zy m;replace j:=zy j;replace c:=zy c;go_in;go_wp2;rw[<- j.o];refine tR_ B ?_;refine zg 0 ?v0 rfl K_ (λ_ _ _ h=>h) K_ ?yv0 ?_;case yv0=>(intro W h;rw[c.o]at h;obtain⟨c0,c1,c2,c3⟩:=h;go_simp<;>rfl)
 refine zg 1 ?v1 rfl K_ (λ_ _ _ h=>h) K_ ?yv1 ?_;case yv1=>(intro W h;rw[c.o]at h;obtain⟨c0,c1,c2,c3⟩:=h;go_simp<;>rfl)
 refine zg 2 ?v2 rfl K_ (λ_ _ _ h=>h) K_ ?yv2 ?_;case yv2=>(intro W h;rw[c.o]at h;obtain⟨c0,c1,c2,c3⟩:=h;go_simp<;>rfl)
 refine zg 3 ?v3 rfl K_ (λ_ _ _ h=>h) K_ ?yv3 ?_;case yv3=>(intro W h;rw[c.o]at h;obtain⟨c0,c1,c2,c3⟩:=h;go_simp<;>rfl)
 refine zg 5 ?v5 rfl K_ (λ_ _ _ h=>h) K_ ?yv5 ?_;case yv5=>(intro W h;rw[c.o]at h;obtain⟨c0,c1,c2,c3⟩:=h;go_simp<;>rfl)
 refine zV 4 rfl K_ (x.o _ (A_ k _).drew) (λr i=>?_);go_simp;apply(z.o _ m.o.drew).mono;rintro e w1 ⟨c,c,rfl,g,c⟩;have q:=zy ((A_ k N_).drew.trans g u_);replace c:=zy c;refine i _ _ ?_;refine zV 6 rfl K_ (x.o _ q) (λr i=>?_);go_simp;apply(hB.o _ _ _ (m.o.trans q u_) c).mono;rintro e c ⟨v2,E,rfl,g,c⟩;have j:=zy (q.o.trans g u_);replace c:=zy c;refine i _ _ ?_;refine tY_ 7 ?_;refine tY_ 8 ?_;refine tY_ 9 ?_;refine tY_ 10 ?_;refine zO K_ (x.o _ j) ?_ _;go_wp2;refine bodyPost_ret (v:=.tuple #[v2,E]) (by simp[results,results46,go_sem];try rfl) rfl ?_;rw[D.o];exact c
def io{j y:PT}{k0:Nat}{er:Au}{x:DT}(hn:n<=4000)(hy:zD er y n 0=j)(h:∀W,Fr w W N_->Calls prog 84 #[.agg #[.slice sa sn sc,.iface sT sx,.slice ra rn rc,.iface rT rx],.iface bT bx,.iface dT dx] W (yh er j k0 W x)):Calls prog 119 #[.agg #[.slice sa sn sc,.iface sT sx,.slice ra rn rc,.iface rT rx],.agg #[I_ n,.iface bT bx],.iface dT dx] w (yh er y k0 w (.mk 40 (n:Int) noB [] [x])):=by
 refine hq_ λj p=>?_;have m:=zy (λo j=>((A_ w N_).alloc o).alloc j);have g:Blk ((w.alloc (.cells #[.slice sa sn sc,.iface sT sx,.slice ra rn rc,.iface rT rx] 91)).alloc (.cells #[I_ n,.iface bT bx] 270)) (w.heap.size+1) [I_ n,.iface bT bx] 270:=by
  have h:=B_ (w.alloc (.cells #[.slice sa sn sc,.iface sT sx,.slice ra rn rc,.iface rT rx] 91)) #[I_ n,.iface bT bx] 270;rw[zc]at h;exact h
 replace g:=zy g;replace h:=zy (λW j=>(h W j).mono (λe w' q=>yh.two j q));go_in;go_wp2_with (go_at_call 84;apply(h.o _ (m.o _ _)).mono;rintro e w1 ⟨k,j,rfl,i,c⟩;obtain⟨j,j,rfl⟩:=c.iface;have j:=(k.bl g id).c0;replace i:=zy i;replace c:=zy c);try go_ret
 rw[p.o];refine⟨_,rfl,i,?_⟩;refine .branch n hn ?_;rw[hy];exact c
end
def dA{w:Aw}{P Q:Az}{s s':BA}{ds ds':Aq}{sv sv':Ax}{xs xs':Ay}{k0:Nat}{sT rT:Av}{sx rx:Ax}{ws:Ad}{y m:PT}{d1:DT}{X:Ah}{uv N:Ax}(Y:Xc P Q s s' ds ds' sv sv' xs xs' k0 sT sx rT rx f)(M:MC P Q s s' ds ds' sv sv' xs xs' k0 w)(ho:w.ownsRow 0 58 1 uv ws.length ((List.range ws.length).map X))(hX:∀i t,ws[i]?=some t->TyV w P t (X i))(hb:TyV w Q y b)(hn:ws[n]?=some m)(Z:okT (zx ds) m)(a0:okT (zx ds') y)(fy:xA y)(hd:Dat (zx ds) d1 m)(hv:DaV (zx ds) w (λg=>g<k0) d1 m N)(h1:ndT d1<=300)(h2:ndT d1<=f){z:DT}(hk:mkP (zx ds) (zx ds') (yE (zx ds') s') f m y d1=some z):Calls prog 118 #[.agg #[sv,.iface sT sx,sv',.iface rT rx],.agg #[uv,b],.iface 153 (.agg #[I_ n,N])] w (yh (zx ds') y k0 w z):=by
 obtain⟨K,S⟩:=y_ (yh (zx ds') y k0 w z);rw[<- S.o];have a1:n<ws.length:=(ai_.1 hn).1;obtain⟨g,u,rfl⟩:=zp ho M_;obtain⟨sa,sc,rfl⟩:=zw M.D.row;obtain⟨ra,rc,rfl⟩:=zw M.E.row;obtain⟨bT,bx,rfl⟩:=hb.iface;obtain⟨dT,dx,rfl⟩:=hv.iface;obtain⟨tT,tx,K⟩:=(hX n m hn).iface;have G:=λW (c:Fr w W N_)=>(Y W m y d1 z (X n) _ _ (M.new c) ((hX n m hn).fr c u_) (hb.fr c u_) Z a0 fy hd (hv.fr c u_) h1 h2 hk).mono (λe w' q=>yh.two c q);rw[K]at G;have V:∀W,Fr w W N_->W.cell? ⟨g,n,none⟩=some (.iface tT tx):=λW c=>by
  have:=zt (zj ho c u_) rfl (k:=n) (x:=X n) (by rw[as_,ce_ a1];rfl);rw[K]at this;exact this
 have m:(n:Int)<(ws.length:Int):=M_;have m:¬((n:Int)<0):=M_;obtain⟨p,hwz⟩:=e_ (((w.alloc (.cells #[.slice sa ds.length sc,.iface sT sx,.slice ra ds'.length rc,.iface rT rx] 91)).alloc (.cells #[S_ g ws.length u,.iface bT bx] 267)).alloc (.cells #[I_ n,.iface dT dx] 153));have B:Fr w p N_:=xl_
 have r:Blk p w.heap.size [.slice sa ds.length sc,.iface sT sx,.slice ra ds'.length rc,.iface rT rx] 91:=by
  rw[hwz];exact((B_ w #[.slice sa ds.length sc,.iface sT sx,.slice ra ds'.length rc,.iface rT rx] 91).alloc _).alloc _
 have H:Blk p (w.heap.size+1) [S_ g ws.length u,.iface bT bx] 267:=by
  rw[hwz];have h:=(B_ (w.alloc (.cells #[.slice sa ds.length sc,.iface sT sx,.slice ra ds'.length rc,.iface rT rx] 91)) #[S_ g ws.length u,.iface bT bx] 267).alloc (.cells #[I_ n,.iface dT dx] 153);rw[zc]at h;exact h
 have I:Blk p (w.heap.size+1+1) [I_ n,.iface dT dx] 153:=by
  rw[hwz];have h:=B_ ((w.alloc (.cells #[.slice sa ds.length sc,.iface sT sx,.slice ra ds'.length rc,.iface rT rx] 91)).alloc (.cells #[S_ g ws.length u,.iface bT bx] 267)) #[I_ n,.iface dT dx] 153;rw[zc,zc]at h;exact h
 obtain⟨O,j⟩:∃C:World->Prop,C=λW=>W.cell? ⟨w.heap.size,0,none⟩=some (.slice sa ds.length sc)/\W.cell? ⟨w.heap.size,1,none⟩=some (.iface sT sx)/\W.cell? ⟨w.heap.size,2,none⟩=some (.slice ra ds'.length rc)/\W.cell? ⟨w.heap.size,3,none⟩=some (.iface rT rx)/\W.cell? ⟨w.heap.size+1,0,none⟩=some (S_ g ws.length u)/\W.cell? ⟨w.heap.size+1,1,none⟩=some (.iface bT bx)/\W.cell? ⟨w.heap.size+1+1,0,none⟩=some (I_ n)/\W.cell? ⟨w.heap.size+1+1,1,none⟩=some (.iface dT dx)/\W.cell? ⟨g,n,none⟩=some (.iface tT tx):=⟨_,rfl⟩;have T:=zy (λW (c:Fr p W N_)=>show O W by
  rw[j]
  exact⟨(c.bl r id).cell 0,(c.bl r id).cell 1,(c.bl r id).cell 2,(c.bl r id).cell 3,(c.bl H id).cell 0,(c.bl H id).cell 1,(c.bl I id).cell 0,(c.bl I id).cell 1,V W (B.trans c u_)⟩)
 replace B:=zy B;replace hwz:=zy hwz;replace j:=zy j;replace G:=zy G;go_in;go_wp2;rw[<- hwz.o];refine tR_ O ?_;refine zg 0 ?z0 rfl K_ (λ_ _ _ h=>h) K_ ?yz0 ?_;case yz0=>(intro W h;rw[j.o]at h;obtain⟨c0,c1,c2,c3,c4,c5,c6,c7,c8⟩:=h;go_simp<;>rfl)
 refine zg 1 ?z1 rfl K_ (λ_ _ _ h=>h) K_ ?yz1 ?_;case yz1=>(intro W h;rw[j.o]at h;obtain⟨c0,c1,c2,c3,c4,c5,c6,c7,c8⟩:=h;go_simp<;>rfl)
 refine zg 2 ?z2 rfl K_ (λ_ _ _ h=>h) K_ ?yz2 ?_;case yz2=>(intro W h;rw[j.o]at h;obtain⟨c0,c1,c2,c3,c4,c5,c6,c7,c8⟩:=h;go_simp<;>rfl)
 refine zg 3 ?z3 rfl K_ (λ_ _ _ h=>h) K_ ?yz3 ?_;case yz3=>(intro W h;rw[j.o]at h;obtain⟨c0,c1,c2,c3,c4,c5,c6,c7,c8⟩:=h;go_simp<;>rfl)
 refine zg 4 ?z4 rfl K_ (λ_ _ _ h=>h) K_ ?yz4 ?_;case yz4=>(intro W h;rw[j.o]at h;obtain⟨c0,c1,c2,c3,c4,c5,c6,c7,c8⟩:=h;go_simp<;>rfl)
 refine zg 5 ?z5 rfl K_ (λ_ _ _ h=>h) K_ ?yz5 ?_;case yz5=>(intro W h;rw[j.o]at h;obtain⟨c0,c1,c2,c3,c4,c5,c6,c7,c8⟩:=h;go_simp<;>rfl)
 refine zg 6 ?z6 rfl K_ (λ_ _ _ h=>h) K_ ?yz6 ?_;case yz6=>(intro W h;rw[j.o]at h;obtain⟨c0,c1,c2,c3,c4,c5,c6,c7,c8⟩:=h;go_simp<;>rfl)
 refine zg 7 ?z7 rfl K_ (λ_ _ _ h=>h) K_ ?yz7 ?_;case yz7=>(intro W h;rw[j.o]at h;obtain⟨c0,c1,c2,c3,c4,c5,c6,c7,c8⟩:=h;go_simp<;>rfl)
 refine zg 8 ?z8 rfl K_ (λ_ _ _ h=>h) K_ ?yz8 ?_;case yz8=>(intro W h;rw[j.o]at h;obtain⟨c0,c1,c2,c3,c4,c5,c6,c7,c8⟩:=h;go_simp<;>rfl)
 refine zg 9 ?z9 rfl K_ (λ_ _ _ h=>h) K_ ?yz9 ?_;case yz9=>(intro W h;rw[j.o]at h;obtain⟨c0,c1,c2,c3,c4,c5,c6,c7,c8⟩:=h;go_simp<;>rfl)
 refine zg 10 ?z10 rfl K_ (λ_ _ _ h=>h) K_ ?yz10 ?_;case yz10=>(intro W h;rw[j.o]at h;obtain⟨c0,c1,c2,c3,c4,c5,c6,c7,c8⟩:=h;go_simp<;>rfl)
 refine zV 11 rfl K_ (T.o _ (A_ p _).drew) (λK1 U=>?_);go_simp;apply(G.o _ B.o.drew).mono;rintro e w1 ⟨L,N,rfl,J,F⟩;obtain⟨c,c,rfl⟩:=F.iface;replace L:=zy L;replace J:=zy J;replace F:=zy F;refine U _ _ ?_;refine tY_ 12 ?_;refine tY_ 13 ?_;refine tY_ 14 ?_;refine tY_ 15 ?_;refine tY_ 16 ?_;refine zO K_ (T.o _ ((A_ p N_).drew.trans L u_)) ?_ _;go_wp2;try go_ret
 rw[S.o];exact⟨_,rfl,J,F⟩
def fu{α β:Type}{g:α->Option β}{a:α}{b:β}(hb:g a=some b):∀{l:List α}{m:List β},xo g l=some m->xo g (l++[a])=some (m++[b])
 | [],m,h=>by simp only[xo,af_]at h;subst h;simp[xo,hb]
 |x::r,m,h=>by
  unfold xo at h;split at h
  .cases h
  .rename_i c hc;split at h
   .cases h
   .rename_i i hl;simp only[af_]at h;subst h;rw[bf_];unfold xo;rw[hc,fu hb hl];rfl
def xe{g:α->Option β}:∀{l:List α}{m:List β},xo g l=some m->∀a∈l,∃b,g a=some b
 | [],_,_,a,h=>by cases h
 |x::r,m,h,a,ha=>by
  unfold xo at h;split at h
  .cases h
  .rename_i c hc;split at h
   .cases h
   .rename_i i hl;rcases an_.1 ha with rfl|ha
    .exact⟨c,hc⟩
    .exact xe hl a ha
def rq{g:α->Option β}{l:List α}{m:List β}(h:xo g l=some m):m.length=l.length:=(ou h).1
structure ML(er:Au)(k0:Nat)(cs0:Ay)(ct0:Av)(cs1:Ay)(ct1:Av)(t:PT)(w:Aw)(lv:Ax)(l:Ae)(W:Aw):Prop where
 fr:Fr w W N_
 b0:Blk W w.heap.size cs0 ct0
 b1:Blk W (w.heap.size+1) cs1 ct1
 bB:w.heap.size+2<=W.heap.size
 row:jX er W (w.heap.size+2) (λg=>(g<k0\/w.heap.size+2<=g)/\lv.ownBlock≠some g) t lv l
section
variable {er:Au} {k0:Nat} {cs0 cs1:Ay} {ct0 ct1:Av} {t:PT} {w W W':Aw} {lv:Ax} {l:Ae}
def ML.call(Q:ML er k0 cs0 ct0 cs1 ct1 t w lv l W)(hf:Fr W W' N_):ML er k0 cs0 ct0 cs1 ct1 t w lv l W':=
 ⟨Q.fr.trans hf u_,hf.bl Q.b0 id,hf.bl Q.b1 id,aj_ Q.bB hf.size,Q.row.fr hf u_ u_⟩
def cq25_{p:Prop}(h:p:=by
 have j:=Q.bB;have m:(W.alloc o).heap.size=W.heap.size+1:=by simp
 (first|(have:=cc1)|(obtain⟨Y0,a,_⟩:=Q.row));have c:Fr W w5 (λg=>lv.ownBlock=some g):=((A_ W _).alloc o).gw hg (λk e _=>e);have i:∀g,lv.ownBlock=some g->w.heap.size+2<=g:=λg e=>(a.lt g e).1;(first|(have:=cc1;refine⟨Q.fr.trans c (λx hx e=>absurd (i x e) M_),c.bl Q.b0 (λe=>by have:=i _ e;omega),c.bl Q.b1 (λe=>by have:=i _ e;omega),aj_ j c.size,_,by rw[ah_,ap_];exact ho,qn.growJ hY hd hk c ?_⟩)|(refine⟨Q.fr.trans c (λx hx e=>absurd (i x e) M_),c.bl Q.b0 (λe=>by have:=i _ e;omega),c.bl Q.b1 (λe=>by have:=i _ e;omega),aj_ j c.size,jX.growJ hY hd c ?_ ho⟩));rcases hl with e|e
 .exact .inl e
 .exact .inr ⟨_,e,M_⟩):p:=h
def ML.item(Q:ML er k0 cs0 ct0 cs1 ct1 t w lv l W){o:Obj}{w5:Aw}{d:DT}{Y:Ah}(hY:∀i d,l[i]?=some d->DaV er W (λg=>(g<k0\/w.heap.size+2<=g)/\lv.ownBlock≠some g) d (zD er t 0 i) (Y i))(hd:DaV er W (λg=>(g<k0\/w.heap.size+2<=g)/\lv.ownBlock≠some g) d (zD er t 0 l.length) v)(hg:(W.alloc o).grownBy w5 lv.ownBlock)(ho:w5.ownsRow (w.heap.size+2) 64 1 v5 (l.length+1) (((List.range l.length).flatMap λi=>[Y i])++[v]))(hl:v5.ownBlock=lv.ownBlock\/v5.ownBlock=some (W.alloc o).heap.size):ML er k0 cs0 ct0 cs1 ct1 t w v5 (l++[d]) w5:=by
 exact cq25_
def ML.done(Q:ML er k0 cs0 ct0 cs1 ct1 t w lv l W){c:Nat}{T:Av}(hc:(c=91/\T=147)\/(c=114/\T=155)):DaV er W (λg=>g<k0\/w.heap.size<=g) (.mk c 0 noB [] l) t (.iface T lv):=
 Q.row.dat (λg _ hg=>M_) (λg e=>by obtain⟨_,a,_⟩:=Q.row;have:=(a.lt g e).1;show g<k0\/w.heap.size<=g;omega) hc
end
def rk{w:Aw}{P Q:Az}{s s':BA}{ds ds':Aq}{sv sv':Ax}{xs xs':Ay}{k0:Nat}{sT rT:Av}{sx rx:Ax}{u u':PT}{p':Nat}{c:Ae}(V:Xc P Q s s' ds ds' sv sv' xs xs' k0 sT sx rT rx f)(M:MC P Q s s' ds ds' sv sv' xs xs' k0 w)(ha:TyV w P u a)(hb:TyV w Q u' b)(a0:okT (zx ds) u)(a1:okT (zx ds') u')(fy:xA u')(ho:w.ownsRow 0 64 1 lv0 c.length ((List.range c.length).flatMap λi=>[Y0 i]))(hd:∀d∈c,Dat (zx ds) d u)(hv:∀i d,c[i]?=some d->DaV (zx ds) w (λg=>g<k0) d u (Y0 i))(h1:zY c<=299)(h2:zY c<=f){m0:Ae}(hk:xo (mkP (zx ds) (zx ds') (yE (zx ds') s') f u u') c=some m0):Calls prog 159 #[.agg #[sv,.iface sT sx,sv',.iface rT rx],.agg #[a,b],lv0] w (yh (zx ds') (.wrap 91 p' u') k0 w (.mk 91 0 noB [] m0)):=by
 obtain⟨B,K⟩:=y_ (yh (zx ds') (.wrap 91 p' u') k0 w (.mk 91 0 noB [] m0));rw[<- K.o];obtain⟨sa,sc,rfl⟩:=zw M.D.row;obtain⟨ra,rc,rfl⟩:=zw M.E.row;obtain⟨B,B,rfl⟩:=zw ho;obtain⟨aT,ax,rfl⟩:=ha.iface;obtain⟨bT,bx,rfl⟩:=hb.iface;have N:=zy (λW (B:Fr w W N_) i d v z (hi:c[i]?=some d) (b4:Y0 i=v)=>V W u u' d z _ _ v (M.new B) (ha.fr B u_) (hb.fr B u_) a0 a1 fy (hd d (ag_ hi)) (b4▸(hv i d hi).fr B u_) yw_ yw_);have a6:=zy M.k;have B:c.length<=300:=by have:=jS c;omega
 generalize hR:mkP (zx ds) (zx ds') (yE (zx ds') s') f u u'=R at N hk;obtain⟨wz,I⟩:=e_ ((w.alloc (.cells #[.slice sa ds.length sc,.iface sT sx,.slice ra ds'.length rc,.iface rT rx] 91)).alloc (.cells #[.iface aT ax,.iface bT bx] 272));have start:ML (zx ds') k0 [.slice sa ds.length sc,.iface sT sx,.slice ra ds'.length rc,.iface rT rx] 91 [.iface aT ax,.iface bT bx] 272 (.wrap 91 p' u') w (L_) [] wz:=by
  rw[I];refine⟨((A_ w N_).alloc _).alloc _,(B_ w #[.slice sa ds.length sc,.iface sT sx,.slice ra ds'.length rc,.iface rT rx] 91).alloc _,?_,by rw[zc,zc];omega,jX.nil _ _ _ _ _⟩;have h:=B_ (w.alloc (.cells #[.slice sa ds.length sc,.iface sT sx,.slice ra ds'.length rc,.iface rT rx] 91)) #[.iface aT ax,.iface bT bx] 272;rw[zc]at h;exact h
 have O:∀i d,(hi:c[i]?=some d)->∃T x,Y0 i=.iface T x:=λi d hi=>(hv i d hi).iface;replace start:=zy start;replace I:=zy I;replace ho:=zy ho;replace O:=zy O;replace hk:=zy hk;have H:∀i,zD (zx ds') (.wrap 91 p' u') 0 i=u':=λi=>rfl;generalize zx ds'=er at N K start H;replace H:=zy H;go_in;go_wp2;rw[<- I.o];go_loopg [8,15] (c.length+1) (λm B v W=>∃(q:Nat) (l:List DT),v=I_ q/\q<=c.length/\c.length+1-q<=m/\H_ (xo R (c.take q)=some l)/\H_ (ML er k0 [.slice sa ds.length sc,.iface sT sx,.slice ra ds'.length rc,.iface rT rx] 91 [.iface aT ax,.iface bT bx] 272 (.wrap 91 p' u') w B l W));case atStart=>exact⟨0,[],rfl,al_ _,M_,zy rfl,zy start⟩
 case round=>
  obtain⟨q,l,rfl,B,hm,G,j⟩:=hrel;have hll:l.length=q:=by have:=rq G;rw[ca_]at this;omega
  obtain⟨Y,r,C⟩:=j.o.row;rw[hll]at r;obtain⟨X,Z,rfl⟩:=zw r;by_cases S:q<c.length
  .have a7:(q:Int)<(c.length:Int):=M_;have p:c[q]?=some c[q]:=ak_ S;generalize c[q]=d at p;obtain⟨g,B,B⟩:=zp ho M_;cases B;obtain⟨T,x,hx⟩:=O.o q d p;have B:wr.cell? ⟨g,q,none⟩=some (.iface T x):=by
    rw[<- hx];exact kX (zj ho j.o.fr u_) S
   obtain⟨B,B,B,B⟩:=j.o.b0.d4;have B:=j.o.b1.c0;have B:=j.o.b1.c1;obtain⟨J,I⟩:=xe hk d (ag_ p);have B:=N.o wr j.o.fr q d _ J p hx I;have N:=j.o.bB;replace p:=zy p;have a8:=zy (show xo R (c.take (q+1))=some (l++[J]) by rw[a6_,p.o];exact fu I G);replace B:=zy B;replace C:=zy C;replace r:=zy r;obtain⟨ti,a2,a3,a4,a5⟩:=info_parts qP;go_wp2_with (first
    |(go_at_call 46;apply B.o.mono;rintro e w1 ⟨p,rfl,F,L⟩;obtain⟨dT,dx,rfl⟩:=L.iface;have p:=j.o.call F;have B:=p.bB;have N:=zy (zj r F u_);have B:=zy (L.mono (Q:=λg=>(g<k0\/w.heap.size+2<=g)/\(Value.slice X q Z).ownBlock≠some g) (λg _ hg=>⟨M_,λe=>by have:=r.o.lt g e;have:=a6.o;omega⟩));have I:=zy (λi d (e:l[i]?=some d)=>(C.o i d e).fr F u_);replace p:=zy p)
    |(at_builtin;go_must (refine wpList_append_own_at _ rfl _ _ 147 rfl (w.heap.size+2) 64 ti _ 1 16 sP a2 a3 a4 a5 rfl D_ (.slice X q Z) q ((List.range q).flatMap λi=>[Y i]) rfl ?hown _ 1 1 [.iface dT dx] rfl rfl (zF _ #[.iface dT dx] _ _ ?nn) ?one ?b1 ?b2 ?b3 ?_)
      case hown=>exact World.ownsRow.alloc N _
      case nn=>simp
      case one=>simp[Value.oneCell']
      case b1=>unfold maxLen;omega
      case b2=>omega
      case b3=>simp;omega
      intro v5 N ho5 L a9 U
      have F:=p.o.item (d:=J) I (by rw[H.o];exact B) L zb_ U
      obtain⟨p,p,rfl⟩:=zp ho5 M_
      replace F:=zy F))
   go_roundg (c.length+1-(q+1));case measure=>omega
   case rel=>exact⟨q+1,l++[J],by simp,S,l_,a8,F⟩
  .have a7:¬((q:Int)<(c.length:Int)):=M_;obtain rfl:m0=l:=by have:=G.o;rw[bc_ M_,hk.o]at this;cases this;rfl
   go_wp2;try go_ret
   rw[K.o];exact⟨_,rfl,j.o.fr,j.o.done (.inl ⟨rfl,rfl⟩)⟩
structure MLm(er:Au)(k0:Nat)(cs0:Ay)(ct0:Av)(cs1:Ay)(ct1:Av)(t:PT)(w:Aw)(lv:Ax)(l:Af)(W:Aw):Prop where
 fr:Fr w W N_
 b0:Blk W w.heap.size cs0 ct0
 b1:Blk W (w.heap.size+1) cs1 ct1
 bB:w.heap.size+2<=W.heap.size
 row:∃ys,W.ownsRow (w.heap.size+2) 206 2 lv l.length ys/\qn er W (λg=>(g<k0\/w.heap.size+2<=g)/\lv.ownBlock≠some g) t l ys
section
variable {er:Au} {k0:Nat} {cs0 cs1:Ay} {ct0 ct1:Av} {t:PT} {w W W':Aw} {lv:Ax} {l:Af}
def MLm.call(Q:MLm er k0 cs0 ct0 cs1 ct1 t w lv l W)(hf:Fr W W' N_):MLm er k0 cs0 ct0 cs1 ct1 t w lv l W':=
 ⟨Q.fr.trans hf u_,hf.bl Q.b0 id,hf.bl Q.b1 id,aj_ Q.bB hf.size,by obtain⟨ys,a,b⟩:=Q.row;exact⟨ys,zj a hf u_,b.fr hf u_⟩⟩
def MLm.item(Q:MLm er k0 cs0 ct0 cs1 ct1 t w lv l W){o:Obj}{w5:Aw}{d:DT}{key:BA}{ys:Ay}(a:W.ownsRow (w.heap.size+2) 206 2 lv l.length ys)(hY:qn er W (λg=>(g<k0\/w.heap.size+2<=g)/\lv.ownBlock≠some g) t l ys)(hk:key.size<=4000)(hd:DaV er W (λg=>(g<k0\/w.heap.size+2<=g)/\lv.ownBlock≠some g) d (zD er t 0 l.length) v)(hg:(W.alloc o).grownBy w5 lv.ownBlock)(ho:w5.ownsRow (w.heap.size+2) 206 2 v5 (l.length+1) (ys++[.string key,v]))(hl:v5.ownBlock=lv.ownBlock\/v5.ownBlock=some (W.alloc o).heap.size):MLm er k0 cs0 ct0 cs1 ct1 t w v5 (l++[(key,d)]) w5:=by
 have cc1:=Nat
 exact cq25_
def MLm.done(Q:MLm er k0 cs0 ct0 cs1 ct1 t w lv l W):DaV er W (λg=>g<k0\/w.heap.size<=g) (.mk 123 0 noB (l.map Prod.fst) (l.map Prod.snd)) t (.iface 150 lv):=by
 obtain⟨ys,a,b⟩:=Q.row;exact b.dat a (λg _ hg=>M_) (λg e=>by have:=(a.lt g e).1;show g<k0\/w.heap.size<=g;omega)
end
def cwdO1_{p:Prop}(h:p:=by
 (first|(have:=cc1;have hlt':(q:Int)<(fr.length:Int):=M_)|(have hlt':(q:Int)<(l0.length:Int):=M_));(first|(have:=cc1;have c:fr[q]?=some fr[q]:=ak_ hlt)|(have c:l0[q]?=some l0[q]:=ak_ hlt));(first|(have:=cc1;generalize fr[q]=g at c)|(generalize l0[q]=d at c));(first|(have:=cc1;obtain⟨S,a0,S⟩:=zp hrG.o M_)|(obtain⟨g,a0,S⟩:=zp ho.o M_));cases S;(first|(have:=cc1;obtain⟨T,x,dp,hT,X,q1,q2,q3⟩:=hcell.o wr hQ.o.fr q g c)|(obtain⟨T,x,hx⟩:=hfix.o q d c));(first|(have:=cc1;have m:=zj hrG.o hQ.o.fr u_)|(obtain⟨m,E⟩:=ry (K:=λi=>ks.getD i noB) (zj ho.o hQ.o.fr u_) hlt));(first|(have:=cc1;have r0:=zt m rfl X)|(rw[hx]at E));(first|(have:=cc1;have r1:=zt m rfl q1)|(have r:ks[q]?=some (ks.getD q noB):=by rw[aw_,ak_ M_];rfl))
 (first|(have:=cc1;have r2:=zt m rfl q2)|(have U:=hks.o _ (ag_ r)));(first|(have:=cc1;have E:=zt m rfl q3)|(generalize ks.getD q noB=key at m r U));(first|(have:=cc1;rw[bi_]at r0 r1 r2 E)|(have k:=(A_ wr N_).alloc (.cells #[.string key,.iface T x] 206)));(first|(have:=cc1;have r:=hsub.o q g c;have k:=(A_ wr N_).alloc (.cells #[I_ g.place,U_ g.letter,.iface T x,.pointer dp] 195))|(have Z:=zy (B_ wr #[.string key,.iface T x] 206)));have u:=zy (hQ.o.call k);obtain⟨E,E,E,E⟩:=u.o.b0.d4;(first|(have:=cc1;obtain⟨E,S,a2,a3⟩:=u.o.b1.d4)|(have E:=u.o.b1.c0));(first|(have:=cc1;obtain⟨j,B⟩:=xe hk.o g (ag_ c))|(have S:=u.o.b1.c1));(first|(have:=cc1;have D:=hMd.o _ (hQ.o.fr.trans k u_) q g g.place T x dp c (hT.fr k u_) q3 j B)|(obtain⟨j,B⟩:=xe hk.o d (ag_ c);have D:=hMd.o _ (hQ.o.fr.trans k u_) q d _ j c hx B));have E:=hQ.o.bB;replace c:=zy c;replace r:=zy r;(first|(have:=cc1;clear m hT X q1 q2 q3)|(clear hx))
 first
  |have:=cc1
   have O:=zy (show xo R (fr.take (q+1))=some (l++[j]) by rw[a6_,c.o];exact fu B hmp.o)
  |have O:=zy (show xo R (l0.take (q+1))=some ((l++[(key,j)]).map Prod.snd)/\(l++[(key,j)]).map Prod.fst=ks.take (q+1) by
    rw[a6_,c.o,a6_,r.o,bb_,bb_,hmp.o.2]
    exact⟨fu B hmp.o.1,rfl⟩)
 replace D:=zy D;(first|(have:=cc1;have G:=zy (λi d (e:l[i]?=some d)=>(hY i d e).fr k u_))|(have G:=zy (hY.fr k u_)));have V:=zy (zj hrow k u_);(first|(have:=cc1;obtain⟨ti,I,J,L,M⟩:=info_parts qP)|(obtain⟨ti,I,J,L,M⟩:=info_parts bM));clear B hY hrow k;go_wp2_with (first
  |((first|go_at_call 46|go_at_call 162);apply D.o.mono;rintro e w1 ⟨c,rfl,z,F⟩;obtain⟨dT,dx,rfl⟩:=F.iface;have c:=u.o.call z;have k:=c.bB;(first|(have:=cc1)|(have k:=(z.bl Z.o id).c0));have B:=zy (zj V.o z u_);have m:=zy (F.mono (Q:=λg=>(g<k0\/w.heap.size+2<=g)/\(Value.slice la q lc).ownBlock≠some g) (λg _ hg=>⟨by have:=u.o.bB;omega,λe=>by have:=V.o.lt g e;have:=hk0.o;omega⟩));(first|(have:=cc1;have k:=zy (λi d (e:l[i]?=some d)=>(G.o i d e).fr z u_))|(have k:=zy (G.o.fr z u_)));replace c:=zy c;clear F z)
  |(at_builtin;go_must ((first|(have:=cc1;refine wpList_append_own_at _ rfl _ _ 155 rfl (w.heap.size+2) 64 ti _ 1 16 Zn I J L M rfl D_ (.slice la q lc) q ((List.range q).flatMap λi=>[Y i]) rfl ?hown _ 1 1 [.iface dT dx] rfl rfl (zF _ #[.iface dT dx] _ _ ?nn) ?one ?b1 ?b2 ?b3 ?_)|(refine wpList_append_own_at _ rfl _ _ 150 rfl (w.heap.size+2) 206 ti _ 2 32 lj I J L M rfl D_ (.slice la q lc) q ys rfl ?hown _ 1 1 [.string key,.iface dT dx] rfl rfl (zF _ #[.string key,.iface dT dx] _ _ ?nn) ?one ?b1 ?b2 ?b3 ?_)))
    case hown=>exact World.ownsRow.alloc B.o _
    case nn=>simp
    case one=>simp[Value.oneCell']
    case b1=>unfold maxLen;omega
    case b2=>omega
    case b3=>simp;omega
    intro v5 u ho5 H a1 N
    (first|(have:=cc1;have C:=c.o.item (d:=j) k.o (by rw[hll,r.o];exact m.o) H zb_ N)|(have C:=c.o.item (d:=j) (by rw[hll];exact B.o) k.o U (by rw[hsub.o];exact m.o) H zb_ N))
    obtain⟨c,c,rfl⟩:=zp ho5 M_
    clear H N a1 ho5
    replace C:=zy C))
 (first|(have:=cc1;go_roundg (fr.length+1-(q+1)))|(go_roundg (l0.length+1-(q+1))));case measure=>omega
 case rel=>(first|(have:=cc1;exact⟨q+1,l++[j],by simp,hlt,l_,O,C⟩)|(exact⟨q+1,l++[(key,j)],by simp,hlt,l_,O,C⟩))):p:=h
def dO{w:Aw}{P Q:Az}{s s':BA}{ds ds':Aq}{sv sv':Ax}{xs xs':Ay}{k0:Nat}{sT rT:Av}{sx rx:Ax}{u u':PT}{p':Nat}{l0:Ae}{ks:Dx}(B:Xc P Q s s' ds ds' sv sv' xs xs' k0 sT sx rT rx f)(M:MC P Q s s' ds ds' sv sv' xs xs' k0 w)(ha:TyV w P u a)(hb:TyV w Q u' b)(C:okT (zx ds) u)(F:okT (zx ds') u')(fy:xA u')(c:ks.length=l0.length)(hks:∀k∈ks,k.size<=4000)(ho:w.ownsRow 0 206 2 lv0 l0.length ((List.range l0.length).flatMap λi=>[.string (ks.getD i noB),Y0 i]))(hd:∀d∈l0,Dat (zx ds) d u)(hv:∀i d,l0[i]?=some d->DaV (zx ds) w (λg=>g<k0) d u (Y0 i))(h1:zY l0<=299)(r:zY l0<=f){m0:Ae}(hk:xo (mkP (zx ds) (zx ds') (yE (zx ds') s') f u u') l0=some m0):Calls prog 160 #[.agg #[sv,.iface sT sx,sv',.iface rT rx],.agg #[a,b],lv0] w (yh (zx ds') (.wrap 123 p' u') k0 w (.mk 123 0 noB ks m0)):=by
 obtain⟨c,p⟩:=y_ (yh (zx ds') (.wrap 123 p' u') k0 w (.mk 123 0 noB ks m0));rw[<- p.o];obtain⟨sa,sc,rfl⟩:=zw M.D.row;obtain⟨ra,rc,rfl⟩:=zw M.E.row;obtain⟨c,c,rfl⟩:=zw ho;obtain⟨aT,ax,rfl⟩:=ha.iface;obtain⟨bT,bx,rfl⟩:=hb.iface;have hMd:=zy (λW (c:Fr w W N_) i d v z (hi:l0[i]?=some d) (H:Y0 i=v)=>B W u u' d z _ _ v (M.new c) (ha.fr c u_) (hb.fr c u_) C F fy (hd d (ag_ hi)) (H▸(hv i d hi).fr c u_) yw_ yw_);have hk0:=zy M.k;have c:l0.length<=300:=by have:=jS l0;omega
 generalize G:mkP (zx ds) (zx ds') (yE (zx ds') s') f u u'=R at hMd hk;obtain⟨I,j⟩:=e_ ((w.alloc (.cells #[.slice sa ds.length sc,.iface sT sx,.slice ra ds'.length rc,.iface rT rx] 91)).alloc (.cells #[.iface aT ax,.iface bT bx] 272));have start:MLm (zx ds') k0 [.slice sa ds.length sc,.iface sT sx,.slice ra ds'.length rc,.iface rT rx] 91 [.iface aT ax,.iface bT bx] 272 (.wrap 123 p' u') w (L_) [] I:=by
  rw[j];refine⟨((A_ w N_).alloc _).alloc _,(B_ w #[.slice sa ds.length sc,.iface sT sx,.slice ra ds'.length rc,.iface rT rx] 91).alloc _,?_,by rw[zc,zc];omega,[],World.ownsRow_nil _ _ _ _,qn.nil _ _ _ _⟩;have h:=B_ (w.alloc (.cells #[.slice sa ds.length sc,.iface sT sx,.slice ra ds'.length rc,.iface rT rx] 91)) #[.iface aT ax,.iface bT bx] 272;rw[zc]at h;exact h
 have hfix:∀i d,(hi:l0[i]?=some d)->∃T x,Y0 i=.iface T x:=λi d hi=>(hv i d hi).iface;replace start:=zy start;replace j:=zy j;replace ho:=zy ho;replace hfix:=zy hfix;replace hks:=zy hks;replace hk:=zy hk;have hsub:∀i,zD (zx ds') (.wrap 123 p' u') 0 i=u':=λi=>rfl;generalize zx ds'=er at hMd p start hsub;replace hsub:=zy hsub;go_in;go_wp2;rw[<- j.o];go_loopg [8,15] (l0.length+1) (λm c v W=>∃(q:Nat) (l:List (BA×DT)),v=I_ q/\q<=l0.length/\l0.length+1-q<=m/\H_ (xo R (l0.take q)=some (l.map Prod.snd)/\l.map Prod.fst=ks.take q)/\H_ (MLm er k0 [.slice sa ds.length sc,.iface sT sx,.slice ra ds'.length rc,.iface rT rx] 91 [.iface aT ax,.iface bT bx] 272 (.wrap 123 p' u') w c l W));case atStart=>exact⟨0,[],rfl,al_ _,M_,zy ⟨rfl,rfl⟩,zy start⟩
 case round=>
  obtain⟨q,l,rfl,c,hm,hmp,hQ⟩:=hrel;have hll:l.length=q:=by have:=rq hmp.o.1;rw[ca_,bq_]at this;omega
  obtain⟨ys,hrow,hY⟩:=hQ.o.row;rw[hll]at hrow;obtain⟨la,lc,rfl⟩:=zw hrow;by_cases hlt:q<l0.length
  .exact cwdO1_
  .have hlt':¬((q:Int)<(l0.length:Int)):=M_;have hr:=zy (show l.map Prod.snd=m0/\l.map Prod.fst=ks by have:=hmp.o;rw[bc_ M_,bc_ M_,hk.o]at this;obtain⟨h1,r⟩:=this;cases h1;exact⟨rfl,r⟩);go_wp2;try go_ret
   rw[p.o];refine⟨_,rfl,hQ.o.fr,?_⟩;have:=hQ.o.done;rw[hr.o.1,hr.o.2]at this;exact this
def XS:∀{fw:List PF}{c i:Nat},vu fw c=some i->∃h,fw[i]?=some h
 | [],c,i,h=>by simp[vu]at h
 |f::fw,c,i,h=>by
  unfold vu at h;rw[av_,List.findIdx?_cons]at h;split at h
  .simp only[af_]at h;subst h;exact⟨f,rfl⟩
  .cases g:(fw.map PF.letter).findIdx? (λx=>x==c) with
   |none=>rw[g]at h;cases h
   |some q=>
    rw[g]at h;simp only[bh_,af_]at h;subst h;obtain⟨h,j⟩:=XS (fw:=fw) g;exact⟨h,by simpa using j⟩
def DvM(k0:Nat)(w:Aw)(er:Au)(s:BA)(g:PF)(dv:Ax):Prop:=
 match g.dflt with
 |none=>dv=.pointer none
 |some (a,e)=>∃gb x d,dv=P_ gb/\Blk w gb [I_ a,.string (s.extract a e),x] 199/\yI er true g.ty (s.extract a e)=some d/\DaV er w (λb=>b<k0) d g.ty x
def DvM.fr{k0:Nat}{w:Aw}{er:Au}{s:BA}{g:PF}{dv:Ax}(h:DvM k0 w er s g dv)(hf:Fr w w' N_):DvM k0 w' er s g dv:=by
 unfold DvM at h⊢;split
 .rename_i hd;rw[hd]at h;exact h
 .rename_i hd;rw[hd]at h;obtain⟨c,x,d,h1,i,j,k⟩:=h;exact⟨c,x,d,h1,hf.bl i id,j,k.fr hf u_⟩
def MC.dvm{w:Aw}{P Q:Az}{s s':BA}{ds ds':Aq}{sv sv':Ax}{xs xs':Ay}{k0:Nat}(M:MC P Q s s' ds ds' sv sv' xs xs' k0 w){fr:An}{q:Nat}{zs:Ay}(hz:ZV ds' xs' (.recd fr) (.iface 228 (.agg #[I_ q,rv])))(ho:w.ownsRow 0 195 4 rv fr.length zs)(B:xX w Q s' fr zs):∀i g dd,fr[i]?=some g->zs[4*i+3]?=some dd->DvM k0 w (zx ds') s' g dd:=λi g dd hi o=>by
 obtain⟨blk,h1,E,r⟩:=M.F;obtain⟨k,d,hk,hb,hx⟩:=hz;have u:=h1 k d q fr rv zs hk hb hx ho i g dd hi o;have hm:g∈zk ds':=by
  unfold zk;refine cb_.2 ⟨d,ag_ hk,?_⟩;rw[hb];exact ag_ hi
 unfold DvM;split
 .rename_i h;obtain⟨a,b,c,j,G,H,q3,p,z⟩:=B i g hi;have m:=z.2.2.2;rw[h]at m;rw[o]at p;cases p;exact m
 .rename_i a e h;obtain⟨x,j,r1,C,D⟩:=r g hm a e h;exact⟨blk a,x,j,u a e h,C,r1,D⟩
def tz{w:Aw}{P Q:Az}{s s':BA}{ds ds':Aq}{sv sv':Ax}{xs xs':Ay}{k0:Nat}{sT rT:Av}{sx rx:Ax}{fw:An}{g:PF}{dl:Ae}{zs:Ay}{a5:Ax}{p:Int}{pl:Nat}{G:Av}{tx:Ax}{F:Al}(ih:Xc P Q s s' ds ds' sv sv' xs xs' k0 sT sx rT rx f)(M:MC P Q s s' ds ds' sv sv' xs xs' k0 w)(J:xu w P s fw a5 zs)(hl:fw.length<=300)(b6:dl.length=fw.length)(ht:TyV w Q g.ty (.iface G tx))(Y:DvM k0 w (zx ds') s' g (.pointer F))(a3:∀h∈fw,okT (zx ds) h.ty)(a4:okT (zx ds') g.ty)(fy:xA g.ty)(ho:w.ownsRow 0 64 1 lv0 dl.length ((List.range dl.length).flatMap λi=>[Y0 i]))(hd:∀(i:Nat) (d:DT) (h:PF),dl[i]?=some d->fw[i]?=some h->Dat (zx ds) d h.ty/\DaV (zx ds) w (λg=>g<k0) d h.ty (Y0 i))(h1:zY dl<=299)(h2:zY dl<=f){z:DT}(hk:mkF (mkP (zx ds) (zx ds') (yE (zx ds') s') f) (yE (zx ds') s') fw dl g=some z):Calls prog 162 #[.agg #[sv,.iface sT sx,sv',.iface rT rx],.agg #[Z_ p,a5],.agg #[I_ pl,U_ g.letter,.iface G tx,.pointer F],lv0] w (yh (zx ds') g.ty k0 w z):=by
 obtain⟨b5,N⟩:=y_ (yh (zx ds') g.ty k0 w z);rw[<- N.o];obtain⟨sa,sc,rfl⟩:=zw M.D.row;obtain⟨ra,rc,rfl⟩:=zw M.E.row;obtain⟨b7,b8,rfl⟩:=zw ho;obtain⟨u,O,rfl⟩:=zw J.row;have X:=zy (λW (j:Fr w W N_)=>eI (p:=p) (c:=g.letter) (J.fr j u_) hl);obtain⟨V,hwz⟩:=e_ (((w.alloc (.cells #[.slice sa ds.length sc,.iface sT sx,.slice ra ds'.length rc,.iface rT rx] 91)).alloc (.cells #[Z_ p,.slice u fw.length O] 228)).alloc (.cells #[I_ pl,U_ g.letter,.iface G tx,.pointer F] 195));have r:Fr w V N_:=xl_
 have H:Blk V w.heap.size [.slice sa ds.length sc,.iface sT sx,.slice ra ds'.length rc,.iface rT rx] 91:=by
  rw[hwz];exact((B_ w #[.slice sa ds.length sc,.iface sT sx,.slice ra ds'.length rc,.iface rT rx] 91).alloc _).alloc _
 have Z:Blk V (w.heap.size+1) [Z_ p,.slice u fw.length O] 228:=by
  rw[hwz];have h:=(B_ (w.alloc (.cells #[.slice sa ds.length sc,.iface sT sx,.slice ra ds'.length rc,.iface rT rx] 91)) #[Z_ p,.slice u fw.length O] 228).alloc (.cells #[I_ pl,U_ g.letter,.iface G tx,.pointer F] 195);rw[zc]at h;exact h
 have I:Blk V (w.heap.size+1+1) [I_ pl,U_ g.letter,.iface G tx,.pointer F] 195:=by
  rw[hwz];have h:=B_ ((w.alloc (.cells #[.slice sa ds.length sc,.iface sT sx,.slice ra ds'.length rc,.iface rT rx] 91)).alloc (.cells #[Z_ p,.slice u fw.length O] 228)) #[I_ pl,U_ g.letter,.iface G tx,.pointer F] 195;rw[zc,zc]at h;exact h
 cases m:vu fw g.letter with
 |some i=>
  obtain⟨h,L⟩:=XS m;have u:i<fw.length:=(ai_.1 L).1;obtain⟨d,T⟩:∃d,dl[i]?=some d:=⟨_,ak_ M_⟩;obtain⟨e1,e2⟩:=hd i d h T L;have U:mkF (mkP (zx ds) (zx ds') (yE (zx ds') s') f) (yE (zx ds') s') fw dl g=mkP (zx ds) (zx ds') (yE (zx ds') s') f h.ty g.ty d:=by
   unfold mkF;rw[m];simp only[L,T]
  rw[U]at hk;obtain⟨u,cf,a9⟩:=zp J.row M_;cases a9;obtain⟨gr,cr,b4⟩:=zp ho M_;cases b4;obtain⟨uT,ux,dq,_,_,a1,_,a7,_⟩:=J.cells L;obtain⟨vT,vx,a2⟩:=e2.iface;have hu:=zy (λW (j:Fr w W N_)=>show W.cell? ⟨u,i*4+2,none⟩=some (.iface uT ux) from by
   have e:W.cell? ⟨u,i*4+2,none⟩=w.cell? ⟨u,i*4+2,none⟩:=World.cell?_of_block (a:=⟨u,i*4+2,none⟩) (j.block u (World.block_lt_of_cell? w ⟨u,i*4+2,none⟩ a1) id)
   rw[e,a1])
  have hr:=zy (λW (j:Fr w W N_)=>show W.cell? ⟨gr,i,none⟩=some (.iface vT vx) from by
   rw[<- a2]
   exact kX (zj ho j u_) M_)
  have S:=λW (j:Fr w W N_)=>(ih W h.ty g.ty d z _ _ _ (M.new j) (a7.fr j u_) (ht.fr j u_) (a3 h (ag_ L)) a4 fy e1 (e2.fr j u_) (by have:=(xM T).2;omega) (by have:=(xM T).2;omega) hk).mono (λe w' q=>And.intro (yh.two j q).1 (yh.two j q).2.tup);rw[a2]at S;replace S:=zy S;obtain⟨CL,k⟩:∃C:World->Prop,C=λW=>W.cell? ⟨w.heap.size,0,none⟩=some (.slice sa ds.length sc)/\W.cell? ⟨w.heap.size,1,none⟩=some (.iface sT sx)/\W.cell? ⟨w.heap.size,2,none⟩=some (.slice ra ds'.length rc)/\W.cell? ⟨w.heap.size,3,none⟩=some (.iface rT rx)/\W.cell? ⟨w.heap.size+1,1,none⟩=some (S_ u fw.length O)/\W.cell? ⟨w.heap.size+1+1,2,none⟩=some (.iface G tx)/\W.cell? ⟨u,i*4+2,none⟩=some (.iface uT ux)/\W.cell? ⟨gr,i,none⟩=some (.iface vT vx):=⟨_,rfl⟩;have hC:=zy (λW (j:Fr V W N_)=>show CL W by
   rw[k]
   exact⟨(j.bl H id).cell 0,(j.bl H id).cell 1,(j.bl H id).cell 2,(j.bl H id).cell 3,(j.bl Z id).cell 1,(j.bl I id).cell 2,hu.o W (r.trans j u_),hr.o W (r.trans j u_)⟩)
  have u:(i:Int)<(fw.length:Int):=M_;have u:(i:Int)<(dl.length:Int):=M_;have u:¬((i:Int)<0):=M_;replace m:=zy m;replace r:=zy r;replace hwz:=zy hwz;replace k:=zy k;generalize g.letter=gl at X hwz m⊢;generalize g.ty=gt at S N;go_in;go_wp2_with (go_at_call 183;rw[<- hwz.o];apply(X.o _ r).mono;rintro e w1 ⟨rfl,K⟩;rw[m.o];simp only[wj,b8_,Option.isSome_some];have B:=zy K);refine tR_ CL ?_;refine zg 0 ?v0 rfl K_ (λ_ _ _ h=>h) K_ ?yv0 ?_;case yv0=>(intro W h;rw[k.o]at h;obtain⟨c0,c1,c2,c3,c4,c5,c6,c7⟩:=h;go_simp<;>rfl)
  refine zg 1 ?v1 rfl K_ (λ_ _ _ h=>h) K_ ?yv1 ?_;case yv1=>(intro W h;rw[k.o]at h;obtain⟨c0,c1,c2,c3,c4,c5,c6,c7⟩:=h;go_simp<;>rfl)
  refine zg 2 ?v2 rfl K_ (λ_ _ _ h=>h) K_ ?yv2 ?_;case yv2=>(intro W h;rw[k.o]at h;obtain⟨c0,c1,c2,c3,c4,c5,c6,c7⟩:=h;go_simp<;>rfl)
  refine zg 3 ?v3 rfl K_ (λ_ _ _ h=>h) K_ ?yv3 ?_;case yv3=>(intro W h;rw[k.o]at h;obtain⟨c0,c1,c2,c3,c4,c5,c6,c7⟩:=h;go_simp<;>rfl)
  refine zg 4 ?v4 rfl K_ (λ_ _ _ h=>h) K_ ?yv4 ?_;case yv4=>(intro W h;rw[k.o]at h;obtain⟨c0,c1,c2,c3,c4,c5,c6,c7⟩:=h;go_simp<;>rfl)
  refine zg 5 ?v5 rfl K_ (λ_ _ _ h=>h) K_ ?yv5 ?_;case yv5=>(intro W h;rw[k.o]at h;obtain⟨c0,c1,c2,c3,c4,c5,c6,c7⟩:=h;go_simp<;>rfl)
  refine zg 6 ?v6 rfl K_ (λ_ _ _ h=>h) K_ ?yv6 ?_;case yv6=>(intro W h;rw[k.o]at h;obtain⟨c0,c1,c2,c3,c4,c5,c6,c7⟩:=h;go_simp<;>rfl)
  refine zg 7 ?v7 rfl K_ (λ_ _ _ h=>h) K_ ?yv7 ?_;case yv7=>(intro W h;rw[k.o]at h;obtain⟨c0,c1,c2,c3,c4,c5,c6,c7⟩:=h;go_simp<;>rfl)
  refine zg 8 ?v8 rfl K_ (λ_ _ _ h=>h) K_ ?yv8 ?_;case yv8=>(intro W h;rw[k.o]at h;obtain⟨c0,c1,c2,c3,c4,c5,c6,c7⟩:=h;go_simp<;>rfl)
  refine zg 9 ?v9 rfl K_ (λ_ _ _ h=>h) K_ ?yv9 ?_;case yv9=>(intro W h;rw[k.o]at h;obtain⟨c0,c1,c2,c3,c4,c5,c6,c7⟩:=h;go_simp<;>rfl)
  refine zg 10 ?v10 rfl K_ (λ_ _ _ h=>h) K_ ?yv10 ?_;case yv10=>(intro W h;rw[k.o]at h;obtain⟨c0,c1,c2,c3,c4,c5,c6,c7⟩:=h;go_simp<;>rfl)
  refine zg 11 ?v11 rfl K_ (λ_ _ _ h=>h) K_ ?yv11 ?_;case yv11=>(intro W h;rw[k.o]at h;obtain⟨c0,c1,c2,c3,c4,c5,c6,c7⟩:=h;go_simp<;>rfl)
  refine zg 12 ?v12 rfl K_ (λ_ _ _ h=>h) K_ ?yv12 ?_;case yv12=>(intro W h;rw[k.o]at h;obtain⟨c0,c1,c2,c3,c4,c5,c6,c7⟩:=h;go_simp<;>rfl)
  refine zV 13 rfl K_ (hC.o _ B.o.drew) (λK1 a6=>?_);go_simp;apply(S.o _ (r.o.trans B.o.drew u_)).mono;rintro e k ⟨a0,v2,a8,rfl,k⟩;replace a0:=zy a0;replace k:=zy k;refine a6 _ _ ?_;refine tY_ 14 ?_;refine tY_ 15 ?_;refine tY_ 16 ?_;refine tY_ 17 ?_;refine zO K_ ?cl ?_ _;case cl=>exact hC.o _ (B.o.drew.trans (a0) u_)
  go_wp2;refine bodyPost_ret (v:=.tuple #[v2,a8]) (by simp[results,results162,go_sem];try rfl) rfl ?_;rw[N.o];exact k
 |none=>
  have U:mkF (mkP (zx ds) (zx ds') (yE (zx ds') s') f) (yE (zx ds') s') fw dl g=yE (zx ds') s' g:=by
   unfold mkF;rw[m]
  rw[U]at hk;replace m:=zy m;replace I:=zy I;cases k:g.dflt with
  |none=>unfold yE at hk;rw[k]at hk;cases hk
  |some ae=>
   obtain⟨a,e⟩:=ae;unfold DvM at Y;rw[k]at Y;obtain⟨u,x,d,S,hb,T,hx⟩:=Y;obtain rfl:F=some ⟨u,0,none⟩:=by simpa using S
   obtain rfl:d=z:=by unfold yE at hk;rw[k]at hk;exact Option.some.inj (T.symm.trans hk)
   obtain⟨u,u,rfl⟩:=hx.iface;have L:=zy (λW (j:Fr w W N_)=>hx.fr j u_);replace hb:=zy hb;replace r:=zy r;replace hwz:=zy hwz;generalize g.letter=gl at X hwz m I⊢;generalize g.ty=gt at N L;go_in;go_wp2_with (go_at_call 183;rw[<- hwz.o];apply(X.o _ r).mono;rintro e w1 ⟨rfl,K⟩;rw[m.o];simp only[wj,Option.getD_none,Option.isSome_none];have j:=(K.bl I id).c3;have B:=zy (r.o.trans K u_);have j:=(B.o.bl hb id).c2);try go_ret
   rw[N.o];exact⟨_,rfl,B,(L.o _ B).mono (λb _ hb=>.inl hb)⟩
end Go.Proofs.YtamhgejdkclmdaaGreatDoor
