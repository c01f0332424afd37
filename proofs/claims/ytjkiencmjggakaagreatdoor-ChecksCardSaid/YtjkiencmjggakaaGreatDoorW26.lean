import Derived.Test.YtjkiencmjggakaaGreatDoorW25
set_option maxHeartbeats 16000000
set_option maxRecDepth 100000
set_option linter.unusedVariables false
set_option linter.defProp false
set_option linter.unusedSimpArgs false
open Go.Proofs.Tryz
namespace Go.Proofs.YtjkiencmjggakaaGreatDoor
open Go.RowKit
variable {ts:List TR}{ks:List Nat}{b a c n k:Nat}{env:Nat->Option PB}{ds:List PD}{s:BA}
def fZ{w:World}{k:TypeId}{R:Value->Option (DataW Unit×List MemPlace)}(h:w.heap[b]?=some (.map #[] 0)):w.ownsMap prog k R b 0 (.map []):=
 ⟨#[],0,h,⟨by simp,Go.MapKept.stamped_empty 0,by simp⟩,l_,rfl⟩
def iY{q:PB×Nat}(h:xR b c ds=some q):∃d∈ds,d.letter=c:=by
 induction ds generalizing b with
 |nil=>cases h
 |cons x r ih=>
  simp only[xR]at h;split at h
  .rename_i e;exact⟨x,by simp,by simpa using e⟩
  .obtain⟨d,hd,e⟩:=ih h;exact⟨d,by simp[hd],e⟩
def Qp{t:PT}(hp:ze s=.ok (ds,t)){X:PB}(h:zx ds c=some X):zp c=true:=by
 unfold zx at h;obtain⟨q,hl,_⟩:=b4_.1 h;obtain⟨d,hd,rfl⟩:=iY hl;exact((xA hp).2.2.2.1 d hd).1
def Zt{t:PT}(hp:ze s=.ok (ds,t)):kM s t:=by
 unfold ze at hp;split at hp
 .cases hp
 .split at hp
  .cases hp
  .rename_i t' j d;split at hp
   .cases hp
   .simp only[ag_,ad_]at hp;obtain⟨_,rfl⟩:=hp;exact wG d
structure Few(ew er:Nat->Option PB)(t t':PT)(m:Nat):Prop where
 le:m<=301
 lo:Lo (Un ew er t t') m
 hi:∀d,Un ew er t t' d->kn m (ndT d)
def Few.uniq{ew er:Nat->Option PB}{t t':PT}{m g:Nat}(h:Few ew er t t' m)(f:Few ew er t t' g):m=g:=by
 have key:∀{a b:Nat},Few ew er t t' a->Few ew er t t' b->a≠0->b≠0/\b<=a:=λ{a b} h f ha=>by
  rcases h.lo with e|⟨d,hd,e⟩
  .exact absurd e ha
  .have:=f.hi d hd;unfold kn at this;unfold nd3 at e;split at e<;>omega
 by_cases h0:m=0
 .by_cases h1:g=0
  .omega
  .exact absurd h0 (key f h h1).1
 .have a:=key h f h0;have b:=key f h a.1;omega
def qm(w:World)(ew er:Nat->Option PB)(t t':PT)(et:TypeId)(ex:Value)(e:Ending)(w':World):Prop:=
 ∃(m:Nat),Few ew er t t' m/\Fr w w' N_/\((m=0/\e=.returned (.tuple #[.nilIface,.nilIface]))\/(m=301/\e=.returned (.tuple #[.nilIface,.iface et ex]))\/(1<=m/\m<=300/\∃T v x J,e=.returned (.tuple #[.iface T v,.nilIface])/\ndT x<=300/\DaV ew w' J x t (.iface T v)))
structure UM2(w:World)(ew er:Nat->Option PB)(t t':PT)(q n:Nat)(d:Value)(V:World):Prop where
 few:Few ew er t t' n
 d1:IfV d
 fr:Fr w V N_
 bq:Blk V q [I_ n,d] 88
 d0:n=0\/n=301->d=.nilIface
 dd:n≠0->n<=300->∃x J,ndT x<=300/\DaV ew V J x t d
def eD{w0 w:World}{P Q:Nat->Prop}{s':BA}{ds':List PD}{t t':PT}{z p:Option Addr}{sn sc u rc:Nat}{xs xs':List Value}{sT rT:TypeId}{sx rx:Value}{et:TypeId}{ex:Value}(D:xf w P s ds (.slice z sn sc) xs)(E:xf w Q s' ds' (.slice p u rc) xs')(hT:TyV w P t (.iface sT sx))(b8:TyV w Q t' (.iface rT rx))(G:yg w0 w)(h0:w0.heap.size<=w.heap.size)(hP:∀g,P g->g<w.heap.size)(hQ:∀g,Q g->g<w.heap.size)(hs:s.size<=300)(hs':s'.size<=300)(hp:ze s=.ok (ds,t))(a1:ze s'=.ok (ds',t'))(hn:xY ds t=[])(hu:xZ ds t=[])(d8:xY ds' t'=[])(d9:xZ ds' t'=[])(b7:jM)(hE:ji 5 w et ex):Calls prog 15 #[.agg #[.slice z sn sc,.iface sT sx],.agg #[.slice p u rc,.iface rT rx]] w (qm w (zx ds) (zx ds') t t' et ex):=by
 obtain⟨a9,L⟩:=y_ (qm w (zx ds) (zx ds') t t' et ex);rw[<- L.o];obtain⟨f1,f2,f3,f4,f5⟩:=kN hs hp hn hu;obtain⟨k1,k2,k3,k4,k5⟩:=kN hs' a1 d8 d9;have ft:=qD t (xO hs hp).2.1;have b6:=qD t' (xO hs' a1).2.1;obtain⟨w1,B⟩:=e_ ((w.alloc (.cells #[.slice z sn sc,.iface sT sx] 55)).alloc (.cells #[.slice p u rc,.iface rT rx] 55));have A1:Fr w w1 N_:=by rw[B];exact((A_ w _).alloc _).alloc _
 have Y:Blk w1 w.heap.size [.slice z sn sc,.iface sT sx] 55:=by rw[B];exact(B_ w _ _).alloc _
 have Z:Blk w1 (w.heap.size+1) [.slice p u rc,.iface rT rx] 55:=by
  rw[B];have h:=B_ (w.alloc (.cells #[.slice z sn sc,.iface sT sx] 55)) #[.slice p u rc,.iface rT rx] 55;rw[zi]at h;exact h
 have z1:w1.heap.size=w.heap.size+2:=by rw[B,zi,zi]
 have b4:H_ (∀e i,nK (.slice z sn sc) (.slice p u rc) sT rT sx rx w1 e i->∃fb tu,e=.returned (P_ fb)/\(∀V,Fr i V N_->V.cell? ⟨fb,5,none⟩=some (P_ tu)/\V.cell? ⟨w.heap.size,1,none⟩=some (.iface sT sx)/\V.cell? ⟨w.heap.size+1,1,none⟩=some (.iface rT rx))/\∀V,Fr i V N_->Calls prog 31 #[P_ tu,.agg #[.iface sT sx,.iface rT rx]] V λe j=>∃(n:Nat) (d:Value),e=.returned (.agg #[I_ n,d])/\IfV d/\(∀q cs,i.heap.size<=q->q<V.heap.size->Blk V q cs 88->Blk j q cs 88)/\V.heap.size<=j.heap.size/\∀q N,i.heap.size<=q->Blk N q [I_ n,d] 88->(Fr j N N_\/(∃cs,Blk j q cs 88)/\Fr j N (λx=>x=q))->UM2 w (zx ds) (zx ds') t t' q n d N):=zy (λe i S=>by
  obtain⟨fb,tb,mb,tu,mu,rfl,F2,g3,d2,b9,d6,d7,f6,bF,a6,bT,a7,bU⟩:=S
  have H:=A1.trans F2 u_
  refine⟨fb,tu,rfl,λV l=>⟨(l.bl bF id).cell 5,(l.bl (F2.bl Y id) id).cell 1,(l.bl (F2.bl Z id) id).cell 1⟩,λV l=>?_⟩
  let F:FD:=⟨fb,tb,mb,tu,mu,P,Q,s,s',ds,ds',.slice z sn sc,.slice p u rc,sT,rT,sx,rx,xs,xs',w0⟩
  have a8:F.OK:=⟨hs,hs',f1,k1,f5,k5,λc X h=>Qp hp h,λx hx=>by have:=hP x hx;show x<fb;omega,λx hx=>by have:=hQ x hx;show x<fb;omega,by show w0.heap.size<=fb;omega,f6⟩
  have I:=H.trans l u_
  have fx:FX F V:=⟨l.bl bF id,D.fr I u_,E.fr I u_,G.fr I h0 (λ_ f=>f.elim)⟩
  have f8:V.heap[mb]?=some (.map #[] 0):=by
   have a4:mb<i.heap.size:=(Array.getElem?_eq_some_iff.1 a6).1
   rw[l.block mb a4 id]
   exact a6
  have f9:V.heap[mu]?=some (.map #[] 0):=by
   have a4:mu<i.heap.size:=(Array.getElem?_eq_some_iff.1 a7).1
   rw[l.block mu a4 id]
   exact a7
  have td:TbI (dT F) (dI F) (dL F) V () (L_) false []:=⟨fx,⟨l.bl bT id,World.ownsRow_nil _ _ _ _,⟨.map [],fZ f8,qV.nil⟩,d2,b9,List.nodup_nil,λr hr=>by cases hr⟩,λx hx=>by cases hx⟩
  have g1:TbI (uT F) (uI F) (uL F) V (L_,[]) (L_) false []:=⟨⟨td,λr hr=>by cases hr⟩,⟨l.bl bU id,World.ownsRow_nil _ _ _ _,⟨.map [],fZ f9,qV.nil⟩,d6,d7,List.nodup_nil,λr hr=>by cases hr⟩,λx hx=>by cases hx⟩
  have k:=dN a8 b7 (a:=(t,t')) g1 (λr hr=>by cases hr) (hT.fr I u_) (b8.fr I u_) ⟨⟨Zt hp,f4,ft⟩,Zt a1,k4,b6⟩
  apply k.mono
  rintro e j ⟨r3,g0,T3,x,rfl,hx,e3,ht,a5,hG⟩
  have q:=(ht.t.q x hx).2.2
  have sv:svD F j (λy=>¬TSS (uT F) (uL F) g0 r3 y) (UD F x.a) (UA x.a) x.n x.d:=(ht.v x hx).1
  rw[e3]at sv
  have e9:=sh hG
  have few:Few (zx ds) (zx ds') t t' x.n:=⟨q.1,by
   by_cases e:x.n=0
   .exact .inl e
   .obtain⟨y,C,y2,_⟩:=sv.2 e
    exact .inr ⟨y,C,y2⟩,λd hd=>e9.all (λ_ _ h=>h) hd x.n ⟨x,hx,e3,rfl⟩⟩
  have tl:∀y,TSS (uT F) (uL F) (L_) (L_,[]) y->fb<y/\y<i.heap.size:=λy hy=>by
   have f7:TbI (uT F) (uI F) (uL F) i (L_,[]) (L_) false []:=by
    have a3:=H
    refine⟨⟨⟨⟨bF,D.fr a3 u_,E.fr a3 u_,G.fr a3 h0 (λ_ f=>f.elim)⟩,⟨bT,World.ownsRow_nil _ _ _ _,⟨.map [],fZ a6,qV.nil⟩,d2,b9,List.nodup_nil,λr hr=>by cases hr⟩,λx hx=>by cases hx⟩,λr hr=>by cases hr⟩,⟨bU,World.ownsRow_nil _ _ _ _,⟨.map [],fZ a7,qV.nil⟩,d6,d7,List.nodup_nil,λr hr=>by cases hr⟩,λx hx=>by cases hx⟩
   exact f7.li (vo a8) hy
  have b5:Fr w j N_:=I.trans a5.1 (λy hy e=>by have:=(tl y e).1;omega)
  refine⟨x.n,x.d,rfl,q.2,λqq cs h1 S hb=>a5.1.bl hb (λe=>by have:=(tl _ e).2;omega),a5.1.size,λqq N hq e8 e0=>?_⟩
  refine⟨few,q.2,?_,e8,sv.1,λe1 e2=>?_⟩
  .rcases e0 with h|⟨_,h⟩
   .exact b5.trans h u_
   .exact b5.trans h (λy hy e=>by have:=F2.size;omega)
  .obtain⟨y,_,y2,y3⟩:=sv.2 e1
   have C:ndT y<=300:=by unfold nd3 at y2;split at y2<;>omega
   have yd:=y3 e2 t rfl
   rcases e0 with h|⟨⟨cs,hc⟩,h⟩
   .exact⟨y,_,C,yd.fr h u_⟩
   .exact⟨y,_,C,yd.other hc D_ D_ h⟩)
 have call:H_ (∀V,Calls prog 30 #[.agg #[.slice z sn sc,.iface sT sx,.slice p u rc,.iface rT rx]] V (nK (.slice z sn sc) (.slice p u rc) sT rT sx rx V)):=zy (λV=>cE);have big:H_ (∀V,Fr w V N_->V.cell? ⟨5,0,none⟩=some (.iface et ex)):=zy (λV l=>hE.fr l id);have e4:=Y.c0;have e5:=Y.c1;have e6:=Z.c0;have e7:=Z.c1;replace B:=zy B;go_in;go_upto_region 1 with fail;rw[<- B.o];go_upto_region 2 with(go_at_call 30;apply(call.o _).mono;rintro e i S;obtain⟨fb,tu,rfl,O,st⟩:=b4.o e i S;replace O:=zy O;replace st:=zy st);go_cut [7] (λv V=>∃q n d,v=P_ q/\H_ (UM2 w (zx ds) (zx ds') t t' q n d V));case first=>
  refine tr_ 9 (λV=>f_ V fb 5 (P_ tu)/\f_ V w.heap.size 1 (.iface sT sx)/\f_ V (w.heap.size+1) 1 (.iface rT rx)) ?_;refine tB_ 0 [1,2,3,9] ?_;refine tB_ 1 [2,3,9] ?_;refine tB_ 2 [3,9] ?_;refine tB_ 3 [9] ?_;refine tB_ 4 [5,8,9] ?_;refine tB_ 5 [8,9] ?_;refine tB_ 6 [7,8,9] ?_;refine tB_ 7 [8,9] ?_;refine tB_ 8 [9] ?_;refine jp 9 10 rfl rfl K_ (λ_=>O.o i (A_ _ _)) (λK A=>?_) (λK A=>?_)
  .go_simp;apply(st.o _ (A_ i _).drew).mono;rintro e j ⟨n,d,rfl,hd,a0,a2,U⟩;refine A _ _ ?_;have sD:=λW a m=>run_store prog W a d m hd.one;have fin:=zy (U j.heap.size (j.alloc (.cells #[I_ n,d] 88)) a2 (B_ j #[I_ n,d] 88) (.inl ((A_ _ _).alloc _)));refine t0_ 10 ?_;refine t0_ 11 ?_;refine td_ ?_ _;go_wp2;go_meet;exact⟨_,_,_,rfl,fin⟩
  .go_simp;refine A _ _ ?_;have H:=(A_ i N_).alloc (.cells #[O_,.nilIface] 88);have B3:=B_ i #[O_,.nilIface] 88;refine zw 9 rfl K_ (λ_=>O.o _ H.drew) (λK A=>?_);go_simp;apply(st.o _ H.drew).mono;rintro e j ⟨n,d,rfl,hd,a0,a2,U⟩;refine A _ _ ?_;have sD:=λW a m=>run_store prog W a d m hd.one;have C:=a0 i.heap.size _ l_ (by show i.heap.size<(i.alloc _).heap.size;rw[zi];omega) B3.drew;have fin:=zy (U i.heap.size ((j.setCell ⟨i.heap.size,0,none⟩ (I_ n)).setCell ⟨i.heap.size,1,none⟩ d) l_ ((C.set 0 _).set 1 _) (.inr ⟨⟨_,C⟩,V_ j i.heap.size 0 1 _ _⟩));have k0:=C.c0;have k1:=C.c1;have t0:=C.th 0;have t1:=C.th 1;refine t0_ 11 ?_;refine td_ ?_ _;go_wp2;go_meet;exact⟨_,_,_,rfl,fin⟩
 case rest=>
  obtain⟨q,n,d,rfl,M⟩:=hcut;have q0:=M.o.bq.c0;have q1:=M.o.bq.c1;have eb:=big.o _ M.o.fr;by_cases h3:n=301
  .have g2:(300:Int)<(n:Int):=M_;have fin:H_ (∀V,Fr wc V N_->a9 (.returned (.tuple #[.nilIface,.iface et ex])) V):=zy (λV l=>by
    rw[L.o]
    exact⟨n,M.o.few,M.o.fr.trans l u_,.inr (.inl ⟨h3,rfl⟩)⟩)
   go_wp2;go_quiet (fail);go_wp2;try go_ret
   exact fin.o _ (by first|exact A_ _ _|exact(A_ _ _).si (zq.drewN _ _)|exact(A_ _ _).drew)
  .have f0:=M.o.few.le;have g4:¬((300:Int)<(n:Int)):=M_;have hd:=M.o.d1;have fin:H_ (a9 (.returned (.tuple #[d,.nilIface])) wc):=zy (by
    rw[L.o]
    refine⟨n,M.o.few,M.o.fr,?_⟩
    by_cases C:n=0
    .exact .inl ⟨C,by rw[M.o.d0 (.inl C)]⟩
    .obtain⟨x,J,hx,hv⟩:=M.o.dd C M_
     obtain⟨T,v,rfl⟩:=hv.iface
     exact .inr (.inr ⟨M_,M_,T,v,x,J,rfl,hx,hv⟩))
   rcases hd with rfl|⟨tT,tx,rfl⟩;all_goals
    go_wp2;try go_ret
    exact fin
section
variable {w w':World} {ew er:Nat->Option PB} {t t':PT} {et:TypeId} {ex:Value} {e:Ending} {m:Nat}
def qm.zero(h:qm w ew er t t' et ex e w')(hm:Few ew er t t' 0):e=.returned (.tuple #[.nilIface,.nilIface])/\Fr w w' N_:=by
 obtain⟨m,h1,d,f⟩:=h;have:=h1.uniq hm;rcases f with⟨_,h⟩|⟨h,_⟩|⟨h,_⟩
 .exact⟨h,d⟩
 .omega
 .omega
def qm.big(h:qm w ew er t t' et ex e w')(hm:Few ew er t t' 301):e=.returned (.tuple #[.nilIface,.iface et ex])/\Fr w w' N_:=by
 obtain⟨m,h1,d,f⟩:=h;have:=h1.uniq hm;rcases f with⟨h,_⟩|⟨_,h⟩|⟨_,h,_⟩
 .omega
 .exact⟨h,d⟩
 .omega
def qm.some(h:qm w ew er t t' et ex e w')(hm:Few ew er t t' m)(m1:1<=m)(i:m<=300):∃T v x J,e=.returned (.tuple #[.iface T v,.nilIface])/\Fr w w' N_/\ndT x<=300/\DaV ew w' J x t (.iface T v):=by
 obtain⟨g,h1,d,f⟩:=h;have:=h1.uniq hm;rcases f with⟨h,_⟩|⟨h,_⟩|⟨_,_,T,v,x,J,h,a,b⟩
 .omega
 .omega
 .exact⟨T,v,x,J,h,d,a,b⟩
end
def WS{b:BA}(h:b.size≠0):¬b.toList=[]:=λe=>h (by
 rw[ByteArray.toList_eq]at e
 have:=congrArg List.length e
 rw[Array.length_toList]at this
 exact this)
def CkR(sw sr:BA)(ok:Bool)(tx:BA)(k:Int):Prop:=
 ((zg sw).1=0/\(zg sr).1=0/\∃ds t ds' t' m,ze sw=.ok (ds,t)/\ze sr=.ok (ds',t')/\Few (zx ds) (zx ds') t t' m/\((m=0/\ok=true/\tx=⟨#[]⟩/\k=0)\/(m=301/\ok=false/\tx=⟨#[]⟩/\k=7)\/(1<=m/\m<=300/\ok=false/\0<tx.size/\k=0)))\/
 (¬((zg sw).1=0/\(zg sr).1=0)/\ok=false/\tx=⟨#[]⟩/\k=if (zg sw).1=0 then (zg sr).1 else (zg sw).1)
def Kj(w:World)(sw sr:BA)(e:Ending)(w':World):Prop:=
 ∃tx ev k,e=.returned (.tuple #[.string tx,ev])/\Fr w w' N_/\uj w' ev k/\((ev=.nilIface/\CkR sw sr (tx.size==0) tx k)\/((∃T x,ev=.iface T x)/\CkR sw sr false tx k))
def Vz{A:Nat->Addr}{w:World}{sw sr:BA}(S:xh A w)(N:yO w)(hQ:yA w)(O:vh w)(G:jk w)(P:jM):Calls prog 8 #[.string sw,.string sr] w (Kj w sw sr):=by
 refine hq_ λM r=>?_;have hB:=zy (dG (sw:=sw) (sr:=sr) S N hQ O);by_cases H:(zg sw).1=0/\(zg sr).1=0
 .obtain⟨h0,h1⟩:=H;obtain⟨_,ds,t,hp⟩:=wB h0;obtain⟨_,ds',t',L⟩:=wB h1;have I:H_ (Calls prog 14 #[.string sw,.string sr] w λe w1=>∃z sn C rT rx B F E u y,e=.returned (.tuple #[.agg #[.slice z sn C,.iface rT rx],.agg #[.slice B F E,.iface u y],.nilIface])/\Fr w w1 N_/\∀V,Fr w1 V N_->Calls prog 15 #[.agg #[.slice z sn C,.iface rT rx],.agg #[.slice B F E,.iface u y]] V (qm V (zx ds) (zx ds') t t' 383 (.pointer (some (A 5))))):=zy (hB.o.mono (by
   rintro e w1 ⟨sv,rv,sv',rv',ev,he,hf,hm⟩
   rcases hm with⟨_,_,rfl,hx,X⟩|⟨hn,_⟩
   .obtain⟨z,sn,C,rT,rx,rfl,rfl⟩:=hx.forms
    obtain⟨B,F,E,u,y,rfl,rfl⟩:=X.forms
    refine⟨_,_,_,_,_,_,_,_,_,_,he,hf,λV i=>?_⟩
    obtain⟨a5,t0,xs,hs,p,hn,hu,D,U⟩:=hx
    rw[hp]at p
    cases p
    obtain⟨a6,t1,xs',hs',K,Z,a2,Q,Y⟩:=X
    rw[L]at K
    cases K
    have hz:=i.size
    have a7:=hf.size
    exact eD (w0:=w) (D.fr i u_) (Q.fr i u_) (U.fr i u_) (Y.fr i u_) ((yg.refl w).fr (hf.trans i u_) l_ (λ_ f=>f.elim)) M_ (λg hg=>M_) (λg hg=>M_) hs hs' hp L hn hu Z a2 P ((S.fr (hf.trans i u_)).var 5 D_)
   .exact absurd ⟨h0,h1⟩ hn))
  have q:H_ (∀m ok tx k,Few (zx ds) (zx ds') t t' m->((m=0/\ok=true/\tx=⟨#[]⟩/\k=0)\/(m=301/\ok=false/\tx=⟨#[]⟩/\k=7)\/(1<=m/\m<=300/\ok=false/\0<tx.size/\k=0))->CkR sw sr ok tx k):=zy (λm ok tx k hm h=>.inl ⟨h0,h1,ds,t,ds',t',m,hp,L,hm,h⟩);replace S:=zy S;by_cases R:∃m,Few (zx ds) (zx ds') t t' m
  .obtain⟨m,hm⟩:=R;by_cases Y:m=0
   .subst Y;have fin:H_ (∀V,Fr w V N_->M (.returned (.tuple #[.string ⟨#[]⟩,.nilIface])) V):=zy (λV i=>by
     rw[r.o]
     exact⟨_,_,0,rfl,i,lI (S.o.fr i),.inl ⟨rfl,q.o 0 _ _ _ hm (.inl ⟨rfl,rfl,rfl,rfl⟩)⟩⟩)
    replace hm:=zy hm;go_in;go_wp2_with (first
     |(go_at_call 14;apply I.o.mono;rintro e w1 ⟨z,sn,C,rT,rx,B,F,E,u,y,rfl,d,j⟩;replace j:=zy j;replace d:=zy d)
     |(go_at_call 15;apply(j.o _ (((A_ w1 _).alloc _).alloc _)).mono;intro e l hu;obtain⟨rfl,p⟩:=hu.zero hm;replace p:=zy (((d.o.alloc _).alloc _).trans p u_)))
    try go_ret
    exact fin.o _ p
   .by_cases Z:m=301
    .subst Z;have fin:H_ (∀V,Fr w V N_->M (.returned (.tuple #[.string ⟨#[]⟩,.iface 383 (.pointer (some (A 5)))])) V):=zy (λV i=>by
      rw[r.o]
      exact⟨_,_,7,rfl,i,λW Q=>fV ((S.o.fr i).fr Q) .leaf,.inr ⟨⟨_,_,rfl⟩,q.o 301 _ _ _ hm (.inr (.inl ⟨rfl,rfl,rfl,rfl⟩))⟩⟩)
     replace hm:=zy hm;go_in;go_wp2_with (first
      |(go_at_call 14;apply I.o.mono;rintro e w1 ⟨z,sn,C,rT,rx,B,F,E,u,y,rfl,d,j⟩;replace j:=zy j;replace d:=zy d)
      |(go_at_call 15;apply(j.o _ (((A_ w1 _).alloc _).alloc _)).mono;intro e l hu;obtain⟨rfl,p⟩:=hu.big hm;replace p:=zy (((d.o.alloc _).alloc _).trans p u_)))
     try go_ret
     exact fin.o _ p
    .have a0:=hm.le;have fin:H_ (∀V (tx:BA),0<tx.size->Fr w V N_->M (.returned (.tuple #[.string tx,.nilIface])) V):=zy (λV tx hp i=>by
      rw[r.o]
      refine⟨_,_,0,rfl,i,lI (S.o.fr i),.inl ⟨rfl,?_⟩⟩
      have e:(tx.size==0)=false:=by rw[beq_eq_false_iff_ne];omega
      rw[e]
      exact q.o m _ _ _ hm (.inr (.inr ⟨M_,M_,rfl,hp,rfl⟩)))
     have a3:H_ (∀V e l,qm V (zx ds) (zx ds') t t' 383 (.pointer (some (A 5))) e l->∃T v x J,e=.returned (.tuple #[.iface T v,.nilIface])/\Fr V l N_/\ndT x<=300/\DaV (zx ds) l J x t (.iface T v)):=zy (λV e l hu=>hu.some hm M_ M_);have a4:H_ (∀V J x v,DaV (zx ds) V J x t v->Fr w V N_->ndT x<=300->Calls prog 16 #[v] V λe w'=>∃tx:BA,0<tx.size/\e=.returned (.string tx)/\Fr V w' N_):=zy (λV J x v hv hf hx=>aF (w0:=w) G hv hf.size ((yg.refl w).fr hf l_ (λ_ f=>f.elim)) M_);go_in;go_wp2_with (first
      |(go_at_call 14;apply I.o.mono;rintro e w1 ⟨z,sn,C,rT,rx,B,F,E,u,y,rfl,d,j⟩;replace j:=zy j;replace d:=zy d)
      |(go_at_call 15;apply(j.o _ (((A_ w1 _).alloc _).alloc _)).mono;intro e l hu;obtain⟨T,v,x,J,rfl,p,hx,hv⟩:=a3.o _ _ _ hu;have K:=((d.o.alloc _).alloc _).trans p u_;have Q:=zy (a4.o _ _ _ _ hv K hx);replace K:=zy K)
      |(go_at_call 16;apply Q.o.mono;rintro e w3 ⟨tx,hp,rfl,U⟩;replace U:=zy (K.o.trans U u_);replace hp:=zy hp))
     try go_ret
     exact fin.o _ _ hp U
  .have a1:H_ (∀V e l,¬qm V (zx ds) (zx ds') t t' 383 (.pointer (some (A 5))) e l):=zy (λV e l hu=>R ⟨_,hu.choose_spec.1⟩);go_in;go_wp2_with (first
    |(go_at_call 14;apply I.o.mono;rintro e w1 ⟨z,sn,C,rT,rx,B,F,E,u,y,rfl,d,j⟩;replace j:=zy j;replace d:=zy d)
    |(go_at_call 15;apply(j.o _ (((A_ w1 _).alloc _).alloc _)).mono;intro e l hu;exact absurd hu (a1.o _ _ _)))
 .have q:H_ (CkR sw sr false ⟨#[]⟩ (if (zg sw).1=0 then (zg sr).1 else (zg sw).1)):=zy (.inr ⟨H,rfl,rfl,rfl⟩);replace H:=zy H;go_in;go_wp2_with (go_at_call 14;apply hB.o.mono;rintro e w1 ⟨sv,rv,sv',rv',ev,rfl,d,hm⟩;(rcases hm with⟨h0,h1,_⟩|⟨_,rfl,rfl,rfl,rfl,⟨T,x,rfl⟩,hk⟩;(exact absurd ⟨h0,h1⟩ H));replace hk:=zy hk;replace d:=zy d);try go_ret
  rw[r.o];exact⟨_,_,_,rfl,(d.o.alloc _).alloc _,hk.o.fr (((A_ _ _).alloc _).alloc _),.inr ⟨⟨_,_,rfl⟩,q⟩⟩
def oZ{A:Nat->Addr}{w:World}{sw sr:BA}(S:xh A w)(j:yO w)(hQ:yA w)(p:vh w)(i:jk w)(q:jM):Calls prog 4 #[.string sw,.string sr] w λe w'=>∃ok tx k,e=.returned (.tuple #[.bool ok,.string tx,z_ k])/\Fr w w' N_/\CkR sw sr ok tx k:=by
 refine hq_ λh f=>?_;have u:=zy (Vz (sw:=sw) (sr:=sr) S j hQ p i q);go_in;go_upto_region 2 with(go_at_call 8;apply u.o.mono;rintro e w1 ⟨tx,C,k,rfl,g,l,hw⟩;replace g:=zy g;have hk:=zy (l w1 (A_ _ _));replace hw:=zy hw);rcases hw.o with⟨rfl,d⟩|⟨⟨T,x,rfl⟩,d⟩
 .have fin:H_ (∀b,b=(tx.size==0)->h (.returned (.tuple #[.bool b,.string tx,z_ k])) w1):=zy (λb hb=>by
   rw[f.o]
   exact⟨_,_,_,rfl,g,by rw[hb];exact d⟩)
  by_cases hz:tx.size=0
  .have z:tx=⟨#[]⟩:=ByteArray.ext (by have:tx.data.size=0:=hz;exact Array.eq_empty_of_size_eq_zero this);subst z;go_wp2_with (go_at_call 9;apply hk.o.mono;rintro e r ⟨rfl,rfl⟩);refine bodyPost_ret (v:=.tuple #[.bool true,.string ⟨#[]⟩,z_ k]) (by simp[results,results4,go_sem]) rfl ?_;exact fin.o _ rfl
  .have y:=WS hz;have B:(tx.size==0)=false:=by rw[beq_eq_false_iff_ne];exact hz
   go_wp2_with (go_at_call 9;apply hk.o.mono;rintro e r ⟨rfl,rfl⟩);refine bodyPost_ret (v:=.tuple #[.bool false,.string tx,z_ k]) (by simp[results,results4,go_sem,y]) rfl ?_;exact fin.o _ B.symm
 .have fin:H_ (h (.returned (.tuple #[.bool false,.string tx,z_ k])) w1):=zy (by
   rw[f.o]
   exact⟨_,_,_,rfl,g,d⟩)
  go_wp2_with (go_at_call 9;apply hk.o.mono;rintro e r ⟨rfl,rfl⟩);refine bodyPost_ret (v:=.tuple #[.bool false,.string tx,z_ k]) (by simp[results,results4,go_sem]) rfl ?_;exact fin
def enc(n:Nat):Nat:=if n=0 then 602 else n
def yq(a b:Nat):Nat:=if a=602\/b=602 then 602 else if 301<a+b then 301 else a+b
def kT(a:Nat)(l:List Nat):Nat:=l.foldl yq a
def ke(l:List Nat):Nat:=l.foldl min 602
def lnK(l:List Nat)(k:Nat):Nat:=l.getD k 602
def xp(ts:List TR)(rc:Nat->Option (List Nat))(l:List Nat)(k:Nat):Nat:=
 match ts[k]? with
 |none=>602
 |some t=>if t.kind=40 then yq 1 (ke (t.subs.map (lnK l))) else match rc t.kind with|none=>1|some ns=>kT 1 (ns.map (lnK l))
structure KD where
 so:Int
 n:Int
 o:Int
 sb:List Nat
 fs:List (Nat×Nat×Bool)
def KD0:KD:=⟨0,0,0,[],[]⟩
def zM(kd:Nat->KD)(c:Nat):KD:=if zp c=true then kd c else KD0
def rcK(kd:Nat->KD)(c:Nat):Option (List Nat):=if (zM kd c).so=114 then some ((zM kd c).fs.map λx=>x.2.1) else none
def vO(ka kb:Nat->KD)(x y:Nat):Bool:=
 if x=y then decide ((zM ka x).so=(zM kb y).so)&&(decide ((zM ka x).so≠102)||decide ((zM ka x).n=(zM kb y).n)) else x==105&&y==108
def yD(ka kb:Nat->KD)(tb:List TR)(x:Nat):List Nat->Nat->Option Nat->Option Nat
 | [],_,k=>k
 |j::js,i,k=>yD ka kb tb x js (i+1) (if (vO ka kb x (tb.getD j ⟨0,[]⟩).kind&&(k.isNone||(tb.getD j ⟨0,[]⟩).kind==x))=true then some i else k)
def jT(fs:List (Nat×Nat×Bool))(c:Nat):Option Nat:=(fs.map Prod.fst).findIdx? (λx=>x==c)
def kV(L:Nat->Nat)(F:Nat->Nat->Nat)(w:Nat)(d:List (Nat×Nat×Bool))(n:Nat)(g:Nat×Nat×Bool):Nat:=
 match jT d g.1 with
 |none=>if g.2.2=true then n else min n (L w)
 |some k=>min n (kT (yq 1 (F (d.getD k (0,0,false)).2.1 g.2.1)) (((d.map λx=>x.2.1).eraseIdx k).map L))
def ug(L:Nat->Nat)(F:Nat->Nat->Nat)(w:Nat)(d e:List (Nat×Nat×Bool)):Nat:=e.foldl (kV L F w d) 602
def xl(ka kb:Nat->KD)(ta tb:List TR)(L:Nat->Nat)(F:Nat->Nat->Nat)(w r:Nat):Nat:=
 let x:=ta.getD w ⟨0,[]⟩
 let y:=tb.getD r ⟨0,[]⟩
 if x.kind=40 then yq 1 (ke (x.subs.map λi=>F i r))
 else if y.kind=40 then (match yD ka kb tb x.kind y.subs 0 none with|none=>L w|some k=>F w (y.subs.getD k 0))
 else if vO ka kb x.kind y.kind=false then L w
 else if x.kind=91\/x.kind=123 then yq 1 (F (x.subs.getD 0 0) (y.subs.getD 0 0))
 else if (zM ka x.kind).so=101/\(zM kb y.kind).o<0/\∃c∈(zM ka x.kind).sb,c∉(zM kb y.kind).sb then 1
 else if (zM ka x.kind).so=114 then ug L F w (zM ka x.kind).fs (zM kb y.kind).fs
 else 602
def Gq:enc 0=602:=rfl
def ZO(h:n≠0):enc n=n:=n_ h
def Qb(h:n<=301):enc n<=602/\0<enc n:=by
 by_cases e:n=0
 .subst e;decide
 .rw[ZO e];omega
def Zi(h:a=602\/b=602):yq a b=602:=i_ h
def KJ(h:a≠602)(d:b≠602):yq a b=min 301 (a+b):=by
 unfold yq;rw[n_ M_];by_cases e:301<a+b
 .rw[i_ e];omega
 .rw[n_ e];omega
def jn0(m:Nat)(ks:List Nat):Nat:=if m=0\/0∈ks then 0 else min 301 (m+ks.sum)
def qX{m:Nat}(h:m=0\/0∈ks):jn0 m ks=0:=i_ h
def bR{m:Nat}(h:m≠0)(d:0∉ks):jn0 m ks=min 301 (m+ks.sum):=n_ (λe=>e.elim h d)
def jH(ks:List Nat):jn0 1 ks=jnN ks:=by
 by_cases h:0∈ks
 .rw[qX (.inr h)];exact(i_ h).symm
 .rw[bR M_ h];unfold jnN;rw[n_ h];by_cases e:300<1+ks.sum
  .rw[i_ e];omega
  .rw[n_ e];omega
def jY(ha:a<=301)(hb:b<=301):yq (enc a) (enc b)=enc (jn0 a [b])/\jn0 a [b]<=301:=by
 by_cases h1:a=0
 .subst h1;rw[qX (.inl rfl),Gq,Zi (.inl rfl)];exact⟨rfl,M_⟩
 .by_cases d:b=0
  .subst d;rw[qX (.inr (by simp)),Gq,Zi (.inr rfl)];exact⟨rfl,M_⟩
  .have hs:[b].sum=b:=by simp
   rw[bR h1 (by simp;omega),ZO h1,ZO d,KJ M_ M_,hs,ZO M_];exact⟨rfl,M_⟩
def iU{m:Nat}(hm:m<=301)(hk:k<=301):jn0 m (k::ks)=jn0 (jn0 m [k]) ks:=by
 have hs:[k].sum=k:=by simp
 by_cases h1:m=0
 .rw[qX (.inl h1),qX (.inl h1),qX (.inl rfl)]
 .by_cases f:k=0
  .rw[qX (.inr (by simp[f])),qX (ks:=[k]) (.inr (by simp[f])),qX (.inl rfl)]
  .rw[bR (ks:=[k]) h1 (by simp;omega),hs];by_cases d:0∈ks
   .rw[qX (.inr (by simp[d])),qX (.inr d)]
   .rw[bR h1 (by simp[d];omega),bR M_ d,List.sum_cons];omega
def ur:∀{ks:List Nat}{m:Nat},m<=301->(∀k∈ks,k<=301)->kT (enc m) (ks.map enc)=enc (jn0 m ks)/\jn0 m ks<=301
 | [],m,hm,_=>by
  have:jn0 m []=m:=by
   by_cases h:m=0
   .rw[qX (.inl h),h]
   .rw[bR h (by simp)];simp only[List.sum_nil];omega
  rw[this];exact⟨rfl,hm⟩
 |k::ks,m,hm,h=>by
  have hk:=h k (by simp);obtain⟨h1,d⟩:=jY hm hk;obtain⟨f,g⟩:=ur (ks:=ks) d (λx hx=>h x (by simp[hx]));rw[iU hm hk];refine⟨?_,g⟩;rw[<- f];simp only[aw_,kT,b2_];rw[h1]
def Ww{i:Nat}:i<ks.length->jnN (ks.set i a)=jn0 1 (a::ks.eraseIdx i):=λhi=>by
 have h:∀(ks:List Nat) (i:Nat),i<ks.length->(ks.set i a).sum=a+(ks.eraseIdx i).sum/\(0∈ks.set i a↔0∈a::ks.eraseIdx i):=by
  intro ks;induction ks with
  |nil=>intro i h;simp at h
  |cons x r ih=>
   intro i h;cases i with
   |zero=>simp
   |succ i=>
    obtain⟨h1,d⟩:=ih i (by simpa using h);simp only[an_,List.eraseIdx_cons_succ,List.sum_cons,ao_]at d⊢;refine⟨M_,?_⟩;rw[d];constructor
    .rintro(h|h|h)
     .exact .inr (.inl h)
     .exact .inl h
     .exact .inr (.inr h)
    .rintro(h|h|h)
     .exact .inr (.inl h)
     .exact .inl h
     .exact .inr (.inr h)
 obtain⟨h1,d⟩:=h ks i hi;rw[<- jH];by_cases h0:0∈ks.set i a
 .rw[qX (.inr h0),qX (.inr (d.1 h0))]
 .rw[bR M_ h0,bR M_ (λe=>h0 (d.2 e)),h1,List.sum_cons]
def VT{i:Nat}(hi:i<ks.length)(ha:a<=301)(h:∀k∈ks,k<=301):kT (yq 1 (enc a)) ((ks.eraseIdx i).map enc)=enc (jnN (ks.set i a)):=by
 have h1:=jY (a:=1) (b:=a) M_ ha;have d:enc 1=1:=rfl;rw[d]at h1;rw[h1.1,(ur h1.2 (λk hk=>h k (List.mem_of_mem_eraseIdx hk))).1,Ww hi,iU (m:=1) (k:=a) (ks:=ks.eraseIdx i) M_ ha]
def tQ:∀{l:List Nat}{m:Nat},l.foldl min m<=m/\∀x∈l,l.foldl min m<=x
 | [],m=>⟨l_,λx h=>by simp at h⟩
 |y::r,m=>by
  obtain⟨h1,d⟩:=@tQ r (min m y);simp only[b2_];refine⟨M_,λx hx=>?_⟩;rcases ao_.1 hx with rfl|hx
  .omega
  .exact d x hx
def mX:∀{l:List Nat}{m:Nat},l.foldl min m=m\/l.foldl min m∈l
 | [],m=>.inl rfl
 |y::r,m=>by
  simp only[b2_];rcases @mX r (min m y) with h|h
  .rw[h];by_cases hm:m<=y
   .exact .inl M_
   .exact .inr (by rw[show min m y=y by omega];simp)
  .exact .inr (by simp[h])
structure FE(ts:List TR)(env:Nat->Option PB)(rc:Nat->Option (List Nat)):Prop where
 recd:∀c fs,zp c=true->env c=some (.recd fs)->∃ns,rc c=some ns/\ns.length=fs.length/\∀(q k:Nat) (f:PF),fs[q]?=some f->ns[q]?=some k->isT ts k f.ty
 other:∀c X,zp c=true->env c=some X->(∀fs,X≠.recd fs)->rc c=none
 base:∀c,zp c=false->rc c=none
def SnT(env:Nat->Option PB)(ts:List TR)(k n:Nat):Prop:=∃m,m<=301/\n=enc m/\∀t,isT ts k t->okT env t->vu t->Lo (λd=>Dat env d t) m
structure SnL(env:Nat->Option PB)(ts:List TR)(l:List Nat):Prop where
 len:l.length=ts.length
 sn:∀k,SnT env ts k (lnK l k)
def dQ{G:Nat->Nat}(h:∀k,SnT env ts k (G k))(ns:List Nat):∃ms:List Nat,ns.map G=ms.map enc/\ms.length=ns.length/\(∀m∈ms,m<=301)/\∀(i k m:Nat),ns[i]?=some k->ms[i]?=some m->∀t,isT ts k t->okT env t->vu t->Lo (λd=>Dat env d t) m:=by
 induction ns with
 |nil=>exact⟨[],rfl,rfl,λm hm=>by simp at hm,λi k m e=>by simp at e⟩
 |cons k r ih=>
  obtain⟨ms,h1,f,g,j⟩:=ih;obtain⟨m,p,q,u⟩:=h k;refine⟨m::ms,by simp[h1,q],by simp[f],λx hx=>?_,λi l o e e'=>?_⟩
  .rcases ao_.1 hx with rfl|hx
   .exact p
   .exact g x hx
  .cases i with
   |zero=>simp at e e';subst e e';exact u
   |succ i=>exact j i l o (by simpa using e) (by simpa using e')
def qg:∀{l:List PT}{js:List Nat},jR ts js l->js.length=l.length/\∀(i j:Nat) (t:PT),js[i]?=some j->l[i]?=some t->isT ts j t
 | [],js,h=>by
  unfold jR at h;subst h;exact⟨rfl,λi j t e=>by simp at e⟩
 |t::r,js,h=>by
  unfold jR at h;obtain⟨j,q,rfl,h1,d⟩:=h;obtain⟨f,g⟩:=qg d;refine⟨by simp[f],λi j' t' e e'=>?_⟩;cases i with
  |zero=>simp at e e';subst e e';exact h1
  |succ i=>exact g i j' t' (by simpa using e) (by simpa using e')
def uZ{D:DT->Prop}{x:DT}(h:ndT x=1)(hx:D x):Lo D 1:=.inr ⟨x,hx,by unfold nd3;rw[h];rfl⟩
def Wv{D:Nat->DT->Prop}:∀{ks:List Nat},0∉ks->(∀(i k:Nat),ks[i]?=some k->Lo (D i) k)->∃ds:List DT,ds.map nd3=ks/\∀(i:Nat) (d:DT),ds[i]?=some d->D i d:=by
 intro ks;induction ks generalizing D with
 |nil=>exact λ_ _=>⟨[],rfl,λi d e=>by simp at e⟩
 |cons k r ih=>
  intro h0 h;simp only[ao_,not_or]at h0;obtain⟨ds,h1,g⟩:=ih (D:=λi=>D (i+1)) h0.2 (λi k e=>h (i+1) k (by simpa using e));rcases h 0 k rfl with e|⟨d,d1,f⟩
  .exact absurd e.symm h0.1
  .refine⟨d::ds,by simp[h1,f],λi x e=>?_⟩;cases i with
   |zero=>simp at e;subst e;exact d1
   |succ i=>exact g i x (by simpa using e)
def iP{D:DT->Prop}{Dj:Nat->DT->Prop}(h:∀(i k:Nat),ks[i]?=some k->Lo (Dj i) k)(j:∀ds:List DT,ds.length=ks.length->(∀(i:Nat) (d:DT),ds[i]?=some d->Dj i d)->∃k n x cs,D (.mk k n x cs ds)):Lo D (jnN ks):=by
 by_cases h0:0∈ks
 .left;unfold jnN;rw[i_ h0]
 .obtain⟨ds,h1,f⟩:=Wv h0 h;obtain⟨k,n,x,cs,g⟩:=j ds (by rw[<- h1];simp) f;exact .inr ⟨_,g,by rw[<- mB,h1]⟩
def Xs{p:Nat}(h:okT env (.leaf c p))(d:∀c l o,env c=some (.enum l o)->l≠[])(hr:∀fs,zp c=true->env c≠some (.recd fs)):∃x,Dat env x (.leaf c p)/\ndT x=1:=by
 unfold okT at h;rcases h with h|⟨h,X,hX⟩
 .simp only[zu,au_,beq_iff_eq]at h;rcases h with(((rfl|rfl)|rfl)|rfl)|rfl;all_goals first
   |exact⟨_,.null,rfl⟩
   |exact⟨_,.bool (n:=0) M_,rfl⟩
   |exact⟨_,.num (n:=0) M_ M_,rfl⟩
   |exact⟨_,.long (n:=0) M_ M_,rfl⟩
   |exact⟨_,.text (x:=⟨#[]⟩) (λk hk=>absurd hk (bt_ k)) (by show(0:Nat)<=_;omega),rfl⟩
 .have hb:zu c=false:=by
   have hc:65<=c/\c<=70:=by simpa[zp] using h
   cases e:zu c with
   |false=>rfl
   |true=>
    simp only[zu,au_,beq_iff_eq]at e;omega
  cases X with
  |recd fs=>exact absurd hX (hr fs h)
  |enum l o=>
   have:=d c l o hX;have hl:0<l.length:=List.length_pos_iff.2 this;exact⟨_,.sym hX hb hl,rfl⟩
  |bytes n=>
   refine⟨.mk 102 0 ⟨(List.replicate n 97).toArray⟩ [] [],.bytes ?_ hb (λk hk=>?_),rfl⟩
   .rw[hX]
    congr 2
    show n=(List.replicate n (97:UInt8)).toArray.size;simp
   .have f:k<n:=by
     have:(⟨(List.replicate n (97:UInt8)).toArray⟩:BA).size=n:=by show(List.replicate n (97:UInt8)).toArray.size=n;simp
     omega
    have:bt ⟨(List.replicate n (97:UInt8)).toArray⟩ k=97:=by
     unfold bt;rw[dif_pos hk];show((List.replicate n (97:UInt8)).toArray[k]'hk).toNat=97;rw[List.getElem_toArray,List.getElem_replicate];rfl
    omega
def Xn{rc:Nat->Option (List Nat)}{l:List Nat}(K:qU env)(N:∀c l o,env c=some (.enum l o)->l≠[])(R:FE ts env rc)(hf:Wc env)(h:SnL env ts l)(k:Nat):SnT env ts k (xp ts rc l k):=by
 unfold xp;cases hk:ts[k]? with
 |none=>
  refine⟨0,M_,rfl,λt g _ _=>.inl rfl⟩
 |some u=>
  dsimp only;by_cases v:u.kind=40
  .rw[i_ v];obtain⟨ms,h1,A,C,D⟩:=dQ h.sn u.subs;rw[h1];have B:enc 1=1:=rfl;rcases @mX (ms.map enc) 602 with hm|hm
   .refine⟨0,M_,?_,λt g _ _=>.inl rfl⟩;unfold ke;rw[hm];rfl
   .obtain⟨m,E,O⟩:=ay_.1 hm;have M:=C m E;have hp:=jY (a:=1) (b:=m) M_ M;refine⟨jn0 1 [m],hp.2,?_,λt g ho hw=>?_⟩
    .unfold ke;rw[<- O,<- hp.1,B]
    .rw[jH];obtain⟨i,hi⟩:=a5_ E;have I:=(ae_.1 hi).1;cases t with
     |leaf c p=>
      unfold isT at g;rw[g]at hk;cases hk;simp at A;subst A;simp at E
     |wrap c p t=>
      unfold isT at g;obtain⟨j,r,y⟩:=g;rw[r]at hk;cases hk;unfold okT at ho;rcases ho.1 with rfl|rfl<;>simp at v
     |alts p ls=>
      unfold isT at g;obtain⟨F,r,y⟩:=g;rw[r]at hk;cases hk;obtain⟨P,H⟩:=qg y;unfold okT at ho;unfold vu at hw;have J:i<F.length:=by rw[<- A];exact I
      have L:i<ls.length:=M_;have G:=af_ J;have hl:=af_ L;refine iP (Dj:=λ_ d=>Dat env d ls[i]) (λq x e=>?_) (λds hd z=>?_)
      .cases q with
       |zero=>
        simp at e;subst e;exact D i _ _ G hi _ (H i _ _ G hl) ((vp ho.2 _ (a0_ _)).2) (qR hw.2 _ (a0_ _))
       |succ q=>simp at e
      .match ds,hd,z with
       | [d],_,z=>exact⟨40,(i:Int),noB,[],.alts (by have:=hw.1;omega) hl (z 0 d rfl)⟩
  .rw[n_ v];cases hr:rc u.kind with
   |none=>
    refine⟨1,M_,rfl,λt g ho hw=>?_⟩;cases t with
    |leaf c p=>
     unfold isT at g;rw[g]at hk;cases hk;obtain⟨x,G,H⟩:=Xs ho N (λfs hn E=>by
      obtain⟨ns,h1,_⟩:=R.recd c fs hn E
      rw[h1]at hr
      cases hr)
     exact uZ H G
    |wrap c p t=>
     unfold okT at ho;rcases ho.1 with rfl|rfl
     .exact uZ (x:=.mk 91 0 noB [] []) rfl (.list (by simp) (λd hd=>by simp at hd))
     .exact uZ (x:=.mk 123 0 noB [] []) rfl (.map (by simp) rfl trivial (λd hd=>by simp at hd))
    |alts p ls=>
     unfold isT at g;obtain⟨F,r,y⟩:=g;rw[r]at hk;cases hk;exact absurd rfl v
   |some ns=>
    dsimp only;obtain⟨ms,h1,A,C,D⟩:=dQ h.sn ns;rw[h1];have B:enc 1=1:=rfl;have hs:=ur (ks:=ms) (m:=1) M_ C;rw[B]at hs;refine⟨jn0 1 ms,hs.2,hs.1,λt g ho hw=>?_⟩;rw[jH];have H:zp u.kind=true:=by
     cases e:zp u.kind with
     |true=>rfl
     |false=>rw[R.base _ e]at hr;cases hr
    cases t with
    |leaf c p=>
     unfold isT at g;rw[g]at hk;cases hk;unfold okT at ho;rcases ho with ho|⟨ho,X,hX⟩
     .have hc:65<=c/\c<=70:=by simpa[zp] using H
      simp only[zu,au_,beq_iff_eq]at ho;omega
     .have hb:zu c=false:=by
       have hc:65<=c/\c<=70:=by simpa[zp] using ho
       cases e:zu c with
       |false=>rfl
       |true=>
        simp only[zu,au_,beq_iff_eq]at e;omega
      cases X with
      |recd fs=>
       obtain⟨M,L,O,n3⟩:=R.recd c fs ho hX;have:some M=some ns:=L.symm.trans hr;cases this;refine iP (Dj:=λi d=>∀f,fs[i]?=some f->Dat env d f.ty) (λi m e=>?_) (λds hd z=>⟨114,0,noB,[],.recd hX hb M_ (λi d t e e'=>?_)⟩)
       .have hi:=(ae_.1 e).1;have I:i<ns.length:=M_;have G:i<fs.length:=M_;have:=D i _ m (af_ I) e _ (n3 i _ _ (af_ G) (af_ I)) (K c _ hX fs[i] (a0_ _)) ((hf c fs hX).2 _ (a0_ _));rcases this with h|⟨d,d1,J⟩
        .exact .inl h
        .exact .inr ⟨d,λf e=>by rw[af_ G]at e;cases e;exact d1,J⟩
       .rw[aq_]at e';cases E:fs[i]? with
        |none=>rw[E]at e';cases e'
        |some f=>
         rw[E]at e';cases e';exact z i d e f E
      |enum l o=>
       have:=R.other c _ ho hX (λfs e=>by cases e);rw[this]at hr;cases hr
      |bytes n=>
       have:=R.other c _ ho hX (λfs e=>by cases e);rw[this]at hr;cases hr
    |wrap c p t=>
     unfold isT at g;obtain⟨j,r,y⟩:=g;rw[r]at hk;cases hk;unfold okT at ho;rcases ho.1 with rfl|rfl<;>simp[zp]at H
    |alts p ls=>
     unfold isT at g;obtain⟨F,r,y⟩:=g;rw[r]at hk;cases hk;exact absurd rfl v
def StL(ts:List TR)(rc:Nat->Option (List Nat))(l:List Nat):Prop:=∀k,k<ts.length->lnK l k<=xp ts rc l k
def jo{v:Nat}(_hn:n<=301)(hv:v<=301)(h:enc n<=enc v):le0 n v:=by unfold enc at h;unfold le0;split at h<;>split at h<;>omega
def KL(env:Nat->Option PB)(ts:List TR)(l:List Nat)(t:PT)(n:Nat):Prop:=okT env t/\n<=301/\∃k,isT ts k t/\lnK l k=enc n
def qp{t:PT}(h:isT ts k t):k<ts.length:=by
 cases t with
 |leaf c p=>unfold isT at h;exact(ae_.1 h).1
 |wrap c p t=>unfold isT at h;obtain⟨j,h,_⟩:=h;exact(ae_.1 h).1
 |alts p l=>unfold isT at h;obtain⟨j,h,_⟩:=h;exact(ae_.1 h).1
def Ye{rc:Nat->Option (List Nat)}{l:List Nat}(F:qU env)(R:FE ts env rc)(hn:∀c,zp c=true->zu c=false)(h:SnL env ts l)(v:StL ts rc l):ClT env (KL env ts l) where
 one:=λt n hk ha hr=>by
  obtain⟨ho,o,k,h1,g⟩:=hk;have hs:=v k (qp h1);rw[g]at hs;refine jo o M_ (ak_ hs (Nat.le_of_eq ?_));unfold xp;cases t with
  |alts p ls=>cases ha
  |wrap c p t=>
   unfold isT at h1;obtain⟨j,h1,_⟩:=h1;rw[h1];unfold okT at ho;dsimp only;rcases ho.1 with rfl|rfl
   .rw[n_ D_,R.base 91 rfl];rfl
   .rw[n_ D_,R.base 123 rfl];rfl
  |leaf c p=>
   unfold isT at h1;rw[h1];dsimp only;unfold okT at ho;rcases ho with ho|⟨ho,X,hX⟩
   .have hc:c≠40/\zp c=false:=by
     refine⟨λe=>by subst e;simp[zu]at ho,?_⟩;cases e:zp c with
     |false=>rfl
     |true=>rw[hn c e]at ho;cases ho
    rw[n_ hc.1,R.base c hc.2];rfl
   .rw[n_ (λe=>by subst e;simp[zp]at ho),R.other c X ho hX (λfs e=>hr c p fs rfl (hn c ho) (e▸hX))];rfl
 recd:=λc p n fs hk hb he=>by
  obtain⟨ho,o,k,h1,g⟩:=hk;have hs:=v k (qp h1);rw[g]at hs;unfold okT at ho;rcases ho with ho|⟨ho,X,hX⟩
  .rw[hb]at ho;cases ho
  .obtain⟨ns,I,Q,n3⟩:=R.recd c fs ho he;obtain⟨ms,d,y,C,P⟩:=dQ h.sn ns;have x:=ur (ks:=ms) (m:=1) M_ C;have u:enc 1=1:=rfl;rw[u,jH]at x;refine⟨ms,M_,λq f m e e'=>⟨F c _ he f (aj_ e),C m (aj_ e'),?_⟩,jo o x.2 (ak_ hs (Nat.le_of_eq ?_))⟩
   .have O:=(ae_.1 e').1;have A:q<ns.length:=M_;refine⟨ns[q],n3 q _ f e (af_ A),?_⟩;have:(ns.map (lnK l))[q]?=(ms.map enc)[q]?:=by rw[d]
    rw[aq_,aq_,e',af_ A]at this;simpa using this
   .unfold xp;unfold isT at h1;rw[h1];dsimp only;rw[n_ (λe=>by subst e;simp[zp]at ho),I];dsimp only;rw[<- x.1,d]
 alts:=λp ls n hk t B=>by
  obtain⟨ho,o,k,h1,g⟩:=hk;have hs:=v k (qp h1);rw[g]at hs;unfold isT at h1;obtain⟨r,z,D⟩:=h1;obtain⟨K,E⟩:=qg D;unfold okT at ho;obtain⟨i,hi⟩:=a5_ B;have L:=(ae_.1 hi).1;have G:i<r.length:=M_;have H:=af_ G;obtain⟨m,d,y,_⟩:=h.sn r[i];have hp:=jY (a:=1) (b:=m) M_ d;have u:enc 1=1:=rfl;rw[jH]at hp;refine⟨m,⟨(vp ho.2 t B).2,d,r[i],E i _ t H hi,y⟩,jo o hp.2 (ak_ hs ?_)⟩;unfold xp;rw[z];dsimp only;rw[i_ rfl,<- hp.1,u];have N:ke (r.map (lnK l))<=enc m:=(@tQ (r.map (lnK l)) 602).2 _ (by rw[<- y];exact ay_.2 ⟨_,a0_ _,rfl⟩);have M:=(Qb d).1;unfold yq;split
  .split
   .omega
   .rename_i J z;omega
  .split
   .split
    .omega
    .split<;>omega
   .split
    .omega
    .split<;>omega
structure nG(ts:List TR)(env:Nat->Option PB)(kd:Nat->KD):Prop where
 recd:∀c fs,zp c=true->env c=some (.recd fs)->(kd c).so=114/\(kd c).fs.length=fs.length/\∀(q:Nat) (f:PF) (x:Nat×Nat×Bool),fs[q]?=some f->(kd c).fs[q]?=some x->x.1=f.letter/\isT ts x.2.1 f.ty/\x.2.2=f.dflt.isSome
 enum:∀c l u,zp c=true->env c=some (.enum l u)->(kd c).so=101/\(kd c).sb=l.map Prod.fst/\((kd c).o<0↔u=none)/\∀x p,u=some (x,p)->x∈l.map Prod.fst
 bytes:∀c k,zp c=true->env c=some (.bytes k)->(kd c).so=102/\(kd c).n=(k:Int)
def WE{kd:Nat->KD}(K:nG ts env kd):FE ts env (rcK kd) where
 recd:=λc fs hn he=>by
  obtain⟨h1,d,g⟩:=K.recd c fs hn he;refine⟨(kd c).fs.map λx=>x.2.1,by unfold rcK zM;rw[i_ hn,i_ h1],by simp[d],λq k f e e'=>?_⟩;rw[aq_]at e';cases hx:(kd c).fs[q]? with
  |none=>rw[hx]at e';cases e'
  |some x=>
   rw[hx]at e';cases e';exact(g q f x e hx).2.1
 other:=λc X hn he hX=>by
  unfold rcK zM;rw[i_ hn];cases X with
  |recd fs=>exact absurd rfl (hX fs)
  |enum l u=>rw[(K.enum c l u hn he).1,n_ D_]
  |bytes k=>rw[(K.bytes c k hn he).1,n_ D_]
 base:=λc hn=>by
  unfold rcK zM;rw[n_ (by simp[hn]:¬zp c=true)];rfl
def je(h:zp c=true):zu c=false:=by
 have hc:65<=c/\c<=70:=by simpa[zp] using h
 cases e:zu c with
 |false=>rfl
 |true=>
  simp only[zu,au_,beq_iff_eq]at e;omega
def wh(ew er:Nat->Option PB)(c p d p':Nat):yW ew er (.leaf c p) (.leaf d p')=if zu c=true then (d==c||(c==105&&d==108)) else c==d&&(match ew c,er d with|some a,some b=>decide (yV a=yV b)|_,_=>false):=rfl
def JB(ew er:Nat->Option PB)(c p d p':Nat)(u u':PT):yW ew er (.wrap c p u) (.wrap d p' u')=(c==d):=rfl
def aS{ta tb:List TR}{ew er:Nat->Option PB}{ka kb:Nat->KD}(A:nG ta ew ka)(B:nG tb er kb){t t':PT}(h:okT ew t)(d:okT er t')(f:t.isAlts=false)(q:t'.isAlts=false):vO ka kb t.kind t'.kind=yW ew er t t':=by
 have j:∀{kd:Nat->KD} {c:Nat},zu c=true->zM kd c=KD0:=λ{kd c} hb=>by
  unfold zM;rw[n_ (λe=>by rw[je e]at hb;cases hb)]
 have o:∀{c:Nat},zu c=true->c=110\/c=116\/c=105\/c=108\/c=115:=λ{c} hb=>by
  simp only[zu,au_,beq_iff_eq]at hb;omega
 have nm:∀{c:Nat},zp c=true->65<=c/\c<=70:=λ{c} hb=>by simpa[zp] using hb
 cases t with
 |alts p l=>cases f
 |leaf c p=>
  cases t' with
  |alts p l=>cases q
  |leaf c' p'=>
   unfold okT at h d;show vO ka kb c c'=_;rw[wh];unfold vO;rcases h with h|⟨h,X,hX⟩
   .rw[i_ h];by_cases e:c=c'
    .subst e;rw[i_ rfl,j h,j h];simp[KD0]
    .rw[n_ e];have:(c'==c)=false:=by simpa using Ne.symm e
     rw[this];rfl
   .rw[n_ (by simp[je h]:¬zu c=true)];by_cases e:c=c'
    .subst e;have e':∃Y,er c=some Y:=by
      rcases d with d|⟨_,Y,g⟩
      .rw[je h]at d;cases d
      .exact⟨Y,g⟩
     obtain⟨Y,g⟩:=e';rw[i_ rfl,hX,g];simp only[beq_self_eq_true,Bool.true_and];unfold zM;rw[i_ h,i_ h];cases X with
     |recd fs=>
      have a:=(A.recd c fs h hX).1;cases Y with
      |recd fs'=>have b:=(B.recd c fs' h g).1;rw[a,b];simp[yV]
      |enum l u=>have b:=(B.enum c l u h g).1;rw[a,b];simp[yV]
      |bytes k=>have b:=(B.bytes c k h g).1;rw[a,b];simp[yV]
     |enum l u=>
      have a:=(A.enum c l u h hX).1;cases Y with
      |recd fs'=>have b:=(B.recd c fs' h g).1;rw[a,b];simp[yV]
      |enum l u=>have b:=(B.enum c l u h g).1;rw[a,b];simp[yV]
      |bytes k=>have b:=(B.bytes c k h g).1;rw[a,b];simp[yV]
     |bytes k=>
      have a:=(A.bytes c k h hX).1;have r:=(A.bytes c k h hX).2;cases Y with
      |recd fs'=>have b:=(B.recd c fs' h g).1;rw[a,b];simp[yV]
      |enum l u=>have b:=(B.enum c l u h g).1;rw[a,b];simp[yV]
      |bytes k'=>
       have b:=(B.bytes c k' h g).1;have b2:=(B.bytes c k' h g).2;rw[a,b,r,b2];simp only[decide_true,Bool.true_and,ne_eq,not_true_eq_false,decide_false,Bool.false_or,yV,ad_,true_and]
       congr 1
       apply propext;constructor<;>intro h<;>omega
    .rw[n_ e];have h1:(c==c')=false:=by simpa using e
     have i:(c==105)=false:=by have:=nm h;simp;omega
     rw[h1,i];rfl
  |wrap c' p' u'=>
   unfold okT at h d;show vO ka kb c c'=false;unfold vO;have:c≠c':=λe=>by
    subst e;rcases h with h|⟨h,_⟩
    .have:=o h;have:=d.1;omega
    .have:=nm h;have:=d.1;omega
   rw[n_ this];have i:(c'==108)=false:=by have:=d.1;simp;omega
   rw[i,Bool.and_false]
 |wrap c p u=>
  unfold okT at h;cases t' with
  |alts p l=>cases q
  |leaf c' p'=>
   unfold okT at d;show vO ka kb c c'=false;unfold vO;have:c≠c':=λe=>by
    subst e;rcases d with d|⟨d,_⟩
    .have:=o d;have:=h.1;omega
    .have:=nm d;have:=h.1;omega
   rw[n_ this];have i:(c==105)=false:=by have:=h.1;simp;omega
   rw[i,Bool.false_and]
  |wrap c' p' u'=>
   show vO ka kb c c'=(c==c');unfold vO;by_cases e:c=c'
   .subst e;have hn:zp c=false:=by rcases h.1 with e|e<;>subst e<;>rfl
    unfold zM;rw[i_ rfl,hn];simp[KD0]
   .rw[n_ e];have h1:(c==c')=false:=by simpa using e
    have i:(c==105)=false:=by have:=h.1;simp;omega
    rw[h1,i,Bool.false_and]
def xX{t:PT}(h:isT ts k t):(ts.getD k ⟨0,[]⟩).kind=t.kind/\∃r,ts[k]?=some r/\r.kind=t.kind:=by
 cases t with
 |leaf c p=>unfold isT at h;rw[ap_,h];exact⟨rfl,_,rfl,rfl⟩
 |wrap c p t=>unfold isT at h;obtain⟨j,h,_⟩:=h;rw[ap_,h];exact⟨rfl,_,rfl,rfl⟩
 |alts p l=>unfold isT at h;obtain⟨j,h,_⟩:=h;rw[ap_,h];exact⟨rfl,_,rfl,rfl⟩
def rq{ew er:Nat->Option PB}{t r:PT}(h:yW ew er t r=true):t.kind=r.kind\/(t.kind=105/\r.kind=108):=by
 cases t with
 |alts p l=>simp[yW]at h
 |leaf c p=>
  cases r with
  |alts p l=>simp[yW]at h
  |wrap c' p' u=>simp[yW]at h
  |leaf c' p'=>
   show c=c'\/(c=105/\c'=108);rw[wh]at h;by_cases hb:zu c=true
   .rw[i_ hb]at h;simp only[au_,beq_iff_eq,ax_]at h;omega
   .rw[n_ hb]at h;simp only[ax_,beq_iff_eq]at h;exact .inl h.1
 |wrap c p u=>
  cases r with
  |alts p l=>simp[yW]at h
  |leaf c' p'=>simp[yW]at h
  |wrap c' p' u'=>
   rw[JB]at h;exact .inl (by simpa[PT.kind] using h)
def wi{ta tb:List TR}{ew er:Nat->Option PB}{ka kb:Nat->KD}(A:nG ta ew ka)(B:nG tb er kb){t:PT}(h:okT ew t)(f:t.isAlts=false):∀(rs:List PT) (o:List Nat) (i:Nat) (k:Option Nat) (d:Nat),jR tb o rs->tm er rs->(rs.map PT.kind).Nodup->(k≠none->d∉rs.map PT.kind/\(d=t.kind\/(t.kind=105/\d=108)))->yD ka kb tb t.kind o i k=xk ew er t rs i k
 | [],o,i,k,d,hj,ho,hd,hk=>by
  unfold jR at hj;subst hj;rfl
 |r::rs,o,i,k,d,hj,ho,hd,hk=>by
  unfold jR at hj;obtain⟨j,q,rfl,h1,p⟩:=hj;unfold tm at ho;rw[aw_,List.nodup_cons]at hd;unfold yD xk;rw[(xX h1).1,aS A B h ho.2.1 f ho.1];have hb:(yW ew er t r&&(k.isNone||r.kind==t.kind))=(yW ew er t r&&(k.isNone||r.kind==105)):=by
   cases hm:yW ew er t r with
   |false=>rfl
   |true=>
    simp only[Bool.true_and];cases k with
    |none=>rfl
    |some k0=>
     obtain⟨g,l⟩:=hk (by simp);simp only[aw_,ao_,not_or]at g;simp only[Option.isNone_some,Bool.false_or];have:=rq hm;by_cases e:r.kind=105
     .rw[e];have:t.kind=105:=M_;rw[this]
     .have x:r.kind≠t.kind:=λe'=>by
       rcases l with l|l
       .exact g.1 M_
       .omega
      have u:(r.kind==t.kind)=false:=by simpa using x
      have v:(r.kind==105)=false:=by simpa using e
      rw[u,v]
  rw[hb];by_cases hc:(yW ew er t r&&(k.isNone||r.kind==105))=true
  .rw[i_ hc];refine wi A B h f rs q (i+1) (some i) r.kind p ho.2.2 hd.2 (λ_=>⟨hd.1,?_⟩);have:=rq (Bool.and_eq_true_iff.1 hc).1;omega
  .rw[n_ hc];refine wi A B h f rs q (i+1) k d p ho.2.2 hd.2 (λu=>?_);obtain⟨g,l⟩:=hk u;simp only[aw_,ao_,not_or]at g;exact⟨g.2,l⟩
end Go.Proofs.YtjkiencmjggakaaGreatDoor
