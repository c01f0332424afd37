import Derived.Test.YtamhgejdkclmdaaGreatDoorW29
import Derived.Stop.LaidErr
import Derived.ProofKit
import Derived.Lay
import Derived.LaidHandle
import Derived.PinnedBridge
import Derived.Lib.LaidPrint
import Derived.Lib.LaidTab
import Derived.Stop.Joined
import Derived.Test.YtamhgejdkclmdaaGreatDoorTie
import Derived.Test.YtamhgejdkclmdaaGreatDoorCards
import Derived.SevenTiedAt
set_option maxHeartbeats 16000000
set_option maxRecDepth 100000
set_option linter.defProp false
set_option linter.unusedSimpArgs false
set_option linter.unusedVariables false
open Go.Proofs.Tryz
namespace Go.Proofs.YtamhgejdkclmdaaGreatDoor
open Go.RowKit
variable {s:BA}{ds:Aq}{n nm:String}{g:Nat}{A:Bb}{P:Ew}{ti tp:Av}{text:Db}
def bi{w:Aw}{k:Av}{R:Value->Option (DataW Unit×List MemPlace)}{b:Nat}(h:w.heap[b]?=some (.map #[] 0)):w.ownsMap prog k R b 0 (.map []):=
 ⟨#[],0,h,⟨by simp,Go.MapKept.stamped_empty 0,by simp⟩,l_,rfl⟩
def oh{c:Nat}{b:Nat}{q:PB×Nat}(h:vf b c ds=some q):∃d∈ds,d.letter=c:=by
 induction ds generalizing b with
 |nil=>cases h
 |cons x r ih=>
  simp only[vf]at h;split at h
  .rename_i e;exact⟨x,by simp,by simpa using e⟩
  .obtain⟨d,hd,e⟩:=ih h;exact⟨d,by simp[hd],e⟩
def WX{t:PT}(hp:zi s=.ok (ds,t)){c:Nat}{X:PB}(h:zx ds c=some X):zo c=true:=by
 unfold zx at h;obtain⟨q,hl,_⟩:=b0_.1 h;obtain⟨d,hd,rfl⟩:=oh hl;exact((jD hp).2.2.2.1 d hd).1
def Xa{t:PT}(hp:zi s=.ok (ds,t)):wG s t:=by
 unfold zi at hp;split at hp
 .cases hp
 .split at hp
  .cases hp
  .rename_i t' j a;split at hp
   .cases hp
   .simp only[ae_,ac_]at hp;obtain⟨_,rfl⟩:=hp;exact gR a
structure Few(ew er:Au)(t t':PT)(m:Nat):Prop where
 le:m<=301
 lo:Lo (Un ew er t t') m
 hi:∀d,Un ew er t t' d->kn m (ndT d)
def Few.uniq{ew er:Au}{t t':PT}{m f:Nat}(h:Few ew er t t' m)(c:Few ew er t t' f):m=f:=by
 have key:∀{a b:Nat},Few ew er t t' a->Few ew er t t' b->a≠0->b≠0/\b<=a:=λ{a b} h c ha=>by
  rcases h.lo with e|⟨d,hd,e⟩
  .exact absurd e ha
  .have:=c.hi d hd;unfold kn at this;unfold nd3 at e;split at e<;>omega
 by_cases h0:m=0
 .by_cases h1:f=0
  .omega
  .exact absurd h0 (key c h h1).1
 .have a:=key h c h0;have b:=key c h a.1;omega
def qM(w:Aw)(ew er:Au)(t t':PT)(et:Av)(ex:Ax)(e:Ak)(w':Aw):Prop:=
 ∃(m:Nat),Few ew er t t' m/\Fr w w' N_/\((m=0/\e=.returned (.tuple #[.nilIface,.nilIface]))\/(m=301/\e=.returned (.tuple #[.nilIface,.iface et ex]))\/(1<=m/\m<=300/\∃T v x J,e=.returned (.tuple #[.iface T v,.nilIface])/\ndT x<=300/\DaV ew w' J x t (.iface T v)))
structure UM2(w:Aw)(ew er:Au)(t t':PT)(q n:Nat)(d:Ax)(V:Aw):Prop where
 few:Few ew er t t' n
 d1:IfV d
 fr:Fr w V N_
 bq:Blk V q [I_ n,d] 93
 d0:n=0\/n=301->d=.nilIface
 dd:n≠0->n<=300->∃x J,ndT x<=300/\DaV ew V J x t d
def Zr{w0 w:Aw}{P Q:Az}{s':BA}{ds':Aq}{t t':PT}{sa ra:Al}{sn sc rn rc:Nat}{xs xs':Ay}{sT rT:Av}{sx rx:Ax}{et:Av}{ex:Ax}(D:yC w P s ds (.slice sa sn sc) xs)(E:yC w Q s' ds' (.slice ra rn rc) xs')(hT:TyV w P t (.iface sT sx))(b6:TyV w Q t' (.iface rT rx))(G:yy w0 w)(h0:w0.heap.size<=w.heap.size)(hP:∀g,P g->g<w.heap.size)(hQ:∀g,Q g->g<w.heap.size)(hs:s.size<=300)(hs':s'.size<=300)(hp:zi s=.ok (ds,t))(Y:zi s'=.ok (ds',t'))(hn:xP ds t=[])(hu:xi ds t=[])(d6:xP ds' t'=[])(d8:xi ds' t'=[])(b5:ql)(hE:vw 5 w et ex):Calls prog 17 #[.agg #[.slice sa sn sc,.iface sT sx],.agg #[.slice ra rn rc,.iface rT rx]] w (qM w (zx ds) (zx ds') t t' et ex):=by
 obtain⟨a7,B⟩:=y_ (qM w (zx ds) (zx ds') t t' et ex);rw[<- B.o];obtain⟨f1,f2,f3,f4,f5⟩:=vi hs hp hn hu;obtain⟨k1,k2,k3,k4,k5⟩:=vi hs' Y d6 d8;have ft:=jt t (xJ hs hp).2.1;have b4:=jt t' (xJ hs' Y).2.1;obtain⟨w1,hw1⟩:=e_ ((w.alloc (.cells #[.slice sa sn sc,.iface sT sx] 60)).alloc (.cells #[.slice ra rn rc,.iface rT rx] 60));have A1:Fr w w1 N_:=xw_
 have N:Blk w1 w.heap.size [.slice sa sn sc,.iface sT sx] 60:=by rw[hw1];exact(B_ w _ _).alloc _
 have O:Blk w1 (w.heap.size+1) [.slice ra rn rc,.iface rT rx] 60:=by
  rw[hw1];have h:=B_ (w.alloc (.cells #[.slice sa sn sc,.iface sT sx] 60)) #[.slice ra rn rc,.iface rT rx] 60;rw[zc]at h;exact h
 have z1:w1.heap.size=w.heap.size+2:=by rw[hw1,zc,zc]
 have a8:H_ (∀e b,ea (.slice sa sn sc) (.slice ra rn rc) sT rT sx rx w1 e b->∃fb tu,e=.returned (P_ fb)/\(∀V,Fr b V N_->V.cell? ⟨fb,5,none⟩=some (P_ tu)/\V.cell? ⟨w.heap.size,1,none⟩=some (.iface sT sx)/\V.cell? ⟨w.heap.size+1,1,none⟩=some (.iface rT rx))/\∀V,Fr b V N_->Calls prog 32 #[P_ tu,.agg #[.iface sT sx,.iface rT rx]] V λe i=>∃(n:Nat) (d:Value),e=.returned (.agg #[I_ n,d])/\IfV d/\(∀q cs,b.heap.size<=q->q<V.heap.size->Blk V q cs 93->Blk i q cs 93)/\V.heap.size<=i.heap.size/\∀q C,b.heap.size<=q->Blk C q [I_ n,d] 93->(Fr i C N_\/(∃cs,Blk i q cs 93)/\Fr i C (λx=>x=q))->UM2 w (zx ds) (zx ds') t t' q n d C):=zy (λe b I=>by
  obtain⟨fb,tb,mb,tu,mu,rfl,S,g2,b8,b7,b9,d2,f0,bF,a4,bT,a5,bU⟩:=I
  have u:=A1.trans S u_
  refine⟨fb,tu,rfl,λV j=>⟨(j.bl bF id).cell 5,(j.bl (S.bl N id) id).cell 1,(j.bl (S.bl O id) id).cell 1⟩,λV j=>?_⟩
  let F:FD:=⟨fb,tb,mb,tu,mu,P,Q,s,s',ds,ds',.slice sa sn sc,.slice ra rn rc,sT,rT,sx,rx,xs,xs',w0⟩
  have a6:F.OK:=⟨hs,hs',f1,k1,f5,k5,λc X h=>WX hp h,λx hx=>by have:=hP x hx;show x<fb;omega,λx hx=>by have:=hQ x hx;show x<fb;omega,by show w0.heap.size<=fb;omega,f0⟩
  have z:=u.trans j u_
  have fx:FX F V:=⟨j.bl bF id,D.fr z u_,E.fr z u_,G.fr z h0 (λ_ f=>f.elim)⟩
  have f7:V.heap[mb]?=some (.map #[] 0):=by
   have a1:mb<b.heap.size:=(Array.getElem?_eq_some_iff.1 a4).1
   rw[j.block mb a1 id]
   exact a4
  have f8:V.heap[mu]?=some (.map #[] 0):=by
   have a1:mu<b.heap.size:=(Array.getElem?_eq_some_iff.1 a5).1
   rw[j.block mu a1 id]
   exact a5
  have td:TbI (dT F) (dI F) (dL F) V () (L_) false []:=⟨fx,⟨j.bl bT id,World.ownsRow_nil _ _ _ _,⟨.map [],bi f7,ky.nil⟩,b8,b7,List.nodup_nil,λr hr=>by cases hr⟩,λx hx=>by cases hx⟩
  have g0:TbI (uT F) (uI F) (uL F) V (L_,[]) (L_) false []:=⟨⟨td,λr hr=>by cases hr⟩,⟨j.bl bU id,World.ownsRow_nil _ _ _ _,⟨.map [],bi f8,ky.nil⟩,b9,d2,List.nodup_nil,λr hr=>by cases hr⟩,λx hx=>by cases hx⟩
  have k:=sA a6 b5 (a:=(t,t')) g0 (λr hr=>by cases hr) (hT.fr z u_) (b6.fr z u_) ⟨⟨Xa hp,f4,ft⟩,Xa Y,k4,b4⟩
  apply k.mono
  rintro e i ⟨r3,f9,T3,x,rfl,hx,e0,ht,a3,hG⟩
  have q:=(ht.t.q x hx).2.2
  have sv:svD F i (λy=>¬TSS (uT F) (uL F) f9 r3 y) (UD F x.a) (UA x.a) x.n x.d:=(ht.v x hx).1
  rw[e0]at sv
  have e8:=ay hG
  have few:Few (zx ds) (zx ds') t t' x.n:=⟨q.1,by
   by_cases e:x.n=0
   .exact .inl e
   .obtain⟨y,y1,y2,_⟩:=sv.2 e
    exact .inr ⟨y,y1,y2⟩,λd hd=>e8.all (λ_ _ h=>h) hd x.n ⟨x,hx,e0,rfl⟩⟩
  have tl:∀y,TSS (uT F) (uL F) (L_) (L_,[]) y->fb<y/\y<b.heap.size:=λy hy=>by
   have f6:TbI (uT F) (uI F) (uL F) b (L_,[]) (L_) false []:=by
    have a0:=u
    refine⟨⟨⟨⟨bF,D.fr a0 u_,E.fr a0 u_,G.fr a0 h0 (λ_ f=>f.elim)⟩,⟨bT,World.ownsRow_nil _ _ _ _,⟨.map [],bi a4,ky.nil⟩,b8,b7,List.nodup_nil,λr hr=>by cases hr⟩,λx hx=>by cases hx⟩,λr hr=>by cases hr⟩,⟨bU,World.ownsRow_nil _ _ _ _,⟨.map [],bi a5,ky.nil⟩,b9,d2,List.nodup_nil,λr hr=>by cases hr⟩,λx hx=>by cases hx⟩
   exact f6.li (vC a6) hy
  have a9:Fr w i N_:=z.trans a3.1 (λy hy e=>by have:=(tl y e).1;omega)
  refine⟨x.n,x.d,rfl,q.2,λqq cs h1 I hb=>a3.1.bl hb (λe=>by have:=(tl _ e).2;omega),a3.1.size,λqq C hq e7 d9=>?_⟩
  refine⟨few,q.2,?_,e7,sv.1,λe1 e2=>?_⟩
  .rcases d9 with h|⟨_,h⟩
   .exact a9.trans h u_
   .exact a9.trans h (λy hy e=>by have e:y=qq:=e;have:=S.size;omega)
  .obtain⟨y,_,y2,y3⟩:=sv.2 e1
   have d7:ndT y<=300:=by unfold nd3 at y2;split at y2<;>omega
   have yd:=y3 e2 t rfl
   rcases d9 with h|⟨⟨cs,hc⟩,h⟩
   .exact⟨y,_,d7,yd.fr h u_⟩
   .exact⟨y,_,d7,yd.ot hc D_ D_ h⟩)
 have call:H_ (∀V,Calls prog 31 #[.agg #[.slice sa sn sc,.iface sT sx,.slice ra rn rc,.iface rT rx]] V (ea (.slice sa sn sc) (.slice ra rn rc) sT rT sx rx V)):=zy (λV=>dR);have big:H_ (∀V,Fr w V N_->V.cell? ⟨5,0,none⟩=some (.iface et ex)):=zy (λV j=>hE.fr j id);have e3:=N.c0;have e4:=N.c1;have e5:=O.c0;have e6:=O.c1;replace hw1:=zy hw1;go_in;go_upto_region 1 with fail;rw[<- hw1.o];go_upto_region 2 with(go_at_call 31;apply(call.o _).mono;rintro e b I;obtain⟨fb,tu,rfl,H,st⟩:=a8.o e b I;replace H:=zy H;replace st:=zy st);go_cut [7] (λv V=>∃q n d,v=P_ q/\H_ (UM2 w (zx ds) (zx ds') t t' q n d V));case first=>
  refine tr_ 9 (λV=>z_ V fb 5 (P_ tu)/\z_ V w.heap.size 1 (.iface sT sx)/\z_ V (w.heap.size+1) 1 (.iface rT rx)) ?_;refine tB_ 0 [1,2,3,9] ?_;refine tB_ 1 [2,3,9] ?_;refine tB_ 2 [3,9] ?_;refine tB_ 3 [9] ?_;refine tB_ 4 [5,8,9] ?_;refine tB_ 5 [8,9] ?_;refine tB_ 6 [7,8,9] ?_;refine tB_ 7 [8,9] ?_;refine tB_ 8 [9] ?_;refine jV 9 10 rfl rfl K_ (λ_=>H.o b (A_ _ _)) (λK l=>?_) (λK l=>?_)
  .go_simp;apply(st.o _ (A_ b _).drew).mono;rintro e i ⟨n,d,rfl,hd,U,Z,L⟩;refine l _ _ ?_;have sD:=λW a m=>run_store prog W a d m hd.one;have fin:=zy (L i.heap.size (i.alloc (.cells #[I_ n,d] 93)) Z (B_ i #[I_ n,d] 93) (.inl ((A_ _ _).alloc _)));refine t0_ 10 ?_;refine t0_ 11 ?_;refine td_ ?_ _;go_wp2;go_meet;exact⟨_,_,_,rfl,fin⟩
  .go_simp;refine l _ _ ?_;have u:=(A_ b N_).alloc (.cells #[O_,.nilIface] 93);have B3:=B_ b #[O_,.nilIface] 93;refine zh 9 rfl K_ (λ_=>H.o _ u.drew) (λK l=>?_);go_simp;apply(st.o _ u.drew).mono;rintro e i ⟨n,d,rfl,hd,U,Z,L⟩;refine l _ _ ?_;have sD:=λW a m=>run_store prog W a d m hd.one;have p:=U b.heap.size _ l_ (by show b.heap.size<(b.alloc _).heap.size;rw[zc];omega) B3.drew;have fin:=zy (L b.heap.size ((i.setCell ⟨b.heap.size,0,none⟩ (I_ n)).setCell ⟨b.heap.size,1,none⟩ d) l_ ((p.set 0 _).set 1 _) (.inr ⟨⟨_,p⟩,J_ i b.heap.size 0 1 _ _⟩));have k0:=p.c0;have k1:=p.c1;have t0:=p.th 0;have t1:=p.th 1;refine t0_ 11 ?_;refine td_ ?_ _;go_wp2;go_meet;exact⟨_,_,_,rfl,fin⟩
 case rest=>
  obtain⟨q,n,d,rfl,M⟩:=hcut;have q0:=M.o.bq.c0;have q1:=M.o.bq.c1;have eb:=big.o _ M.o.fr;by_cases h3:n=301
  .have g1:(300:Int)<(n:Int):=M_;have fin:H_ (∀V,Fr wc V N_->a7 (.returned (.tuple #[.nilIface,.iface et ex])) V):=zy (λV j=>by
    rw[B.o]
    exact⟨n,M.o.few,M.o.fr.trans j u_,.inr (.inl ⟨h3,rfl⟩)⟩)
   go_wp2;go_quiet (fail);go_wp2;try go_ret
   exact fin.o _ (by first|exact A_ _ _|exact(A_ _ _).si (zq.drewN _ _)|exact(A_ _ _).drew)
  .have e9:=M.o.few.le;have g3:¬((300:Int)<(n:Int)):=M_;have hd:=M.o.d1;have fin:H_ (a7 (.returned (.tuple #[d,.nilIface])) wc):=zy (by
    rw[B.o]
    refine⟨n,M.o.few,M.o.fr,?_⟩
    by_cases a2:n=0
    .exact .inl ⟨a2,by rw[M.o.d0 (.inl a2)]⟩
    .obtain⟨x,J,hx,hv⟩:=M.o.dd a2 M_
     obtain⟨T,v,rfl⟩:=hv.iface
     exact .inr (.inr ⟨M_,M_,T,v,x,J,rfl,hx,hv⟩))
   rcases hd with rfl|⟨tT,tx,rfl⟩;all_goals
    go_wp2;try go_ret
    exact fin
def gE(l:Ao)(b:BA)(h:l.length=1):0<(bts l++b).size:=by
 rw[ar_,zU,h];omega
def WC(n:Int):0<(vF n).size:=by
 by_cases hn:n<0
 .obtain⟨u,hu,rfl⟩:∃u:Nat,1<=u/\n = -(u:Int):=⟨n.natAbs,M_,M_⟩;rw[WL hu];exact gE _ _ rfl
 .obtain⟨u,rfl⟩:∃u:Nat,n=(u:Int):=⟨n.natAbs,M_⟩;by_cases h:u<10
  .rw[YT h,zU];simp
  .rw[WR h,ar_,zU];simp
def BW(env:Au)(d:DT)(t:PT):0<(txT env d t).size:=by
 obtain⟨k,n,tx,ks,ds⟩:=d;rw[txT];have hd:=WC n;split
 .rw[zU];simp
 .split
  .split<;>(rw[zU];simp)
  .split
   .exact hd
   .split
    .exact gE _ _ rfl
    .split
     .exact gE _ _ rfl
     .split
      .rw[zU];simp
      .split
       .exact gE _ _ rfl
       .unfold eu;split
        .exact gE _ _ rfl
        .split<;>exact gE _ _ rfl
section
variable {w w':Aw} {ew er:Au} {t t':PT} {et:Av} {ex:Ax} {e:Ak} {m:Nat}
def qM.zero(h:qM w ew er t t' et ex e w')(hm:Few ew er t t' 0):e=.returned (.tuple #[.nilIface,.nilIface])/\Fr w w' N_:=by
 obtain⟨m,h1,a,b⟩:=h;have:=h1.uniq hm;rcases b with⟨_,h⟩|⟨h,_⟩|⟨h,_⟩
 .exact⟨h,a⟩
 .omega
 .omega
def qM.big(h:qM w ew er t t' et ex e w')(hm:Few ew er t t' 301):e=.returned (.tuple #[.nilIface,.iface et ex])/\Fr w w' N_:=by
 obtain⟨m,h1,a,b⟩:=h;have:=h1.uniq hm;rcases b with⟨h,_⟩|⟨_,h⟩|⟨_,h,_⟩
 .omega
 .exact⟨h,a⟩
 .omega
def qM.some(h:qM w ew er t t' et ex e w')(hm:Few ew er t t' m)(m1:1<=m)(i:m<=300):∃T v x J,e=.returned (.tuple #[.iface T v,.nilIface])/\Fr w w' N_/\ndT x<=300/\DaV ew w' J x t (.iface T v):=by
 obtain⟨f,h1,c,d⟩:=h;have:=h1.uniq hm;rcases d with⟨h,_⟩|⟨h,_⟩|⟨_,_,T,v,x,J,h,a,b⟩
 .omega
 .omega
 .exact⟨T,v,x,J,h,c,a,b⟩
end
def Mo{b:BA}(h:b.size≠0):¬b.toList=[]:=λe=>h (by
 rw[ByteArray.toList_eq]at e
 have:=congrArg List.length e
 rw[Array.length_toList]at this
 exact this)
def CkR(sw sr:BA)(ok:Ar)(tx:BA)(k:Int):Prop:=
 ((zu sw).1=0/\(zu sr).1=0/\∃ds t ds' t' m,zi sw=.ok (ds,t)/\zi sr=.ok (ds',t')/\Few (zx ds) (zx ds') t t' m/\((m=0/\ok=true/\tx=⟨#[]⟩/\k=0)\/(m=301/\ok=false/\tx=⟨#[]⟩/\k=7)\/(1<=m/\m<=300/\ok=false/\0<tx.size/\k=0)))\/
 (¬((zu sw).1=0/\(zu sr).1=0)/\ok=false/\tx=⟨#[]⟩/\k=if (zu sw).1=0 then (zu sr).1 else (zu sw).1)
def GF(w:Aw)(sw sr:BA)(e:Ak)(w':Aw):Prop:=
 ∃tx ev k,e=.returned (.tuple #[.string tx,ev])/\Fr w w' N_/\gM w' ev k/\((ev=.nilIface/\CkR sw sr (tx.size==0) tx k)\/((∃T x,ev=.iface T x)/\CkR sw sr false tx k))
def cwQk1_{p:Prop}(h:p:=by
 (first|(have:=cc1;subst m3)|(subst m0))
 first
  |have:=cc1
   have fin:H_ (∀V,Fr w V N_->POST (.returned (.tuple #[.string ⟨#[]⟩,.iface 414 (.pointer (some (A 5)))])) V):=zy (λV hV=>by
    rw[Q_.o]
    exact⟨_,_,7,rfl,hV,λW hW=>jr ((S.o.fr hV).fr hW) .leaf,.inr ⟨⟨_,_,rfl⟩,hans.o 301 _ _ _ hm (.inr (.inl ⟨rfl,rfl,rfl,rfl⟩))⟩⟩)
  |have fin:H_ (∀V,Fr w V N_->POST (.returned (.tuple #[.string ⟨#[]⟩,.nilIface])) V):=zy (λV hV=>by
    rw[Q_.o]
    exact⟨_,_,0,rfl,hV,fk (S.o.fr hV),.inl ⟨rfl,hans.o 0 _ _ _ hm (.inl ⟨rfl,rfl,rfl,rfl⟩)⟩⟩)
 replace hm:=zy hm;clear Q_ S hans hA;go_in;go_wp2_with (first
  |(go_at_call 16;apply hBo.o.mono;rintro e w1 ⟨sa,sn,sc,rT,rx,sa',sn',sc',rT',rx',rfl,hf1,hC⟩;replace hC:=zy hC;replace hf1:=zy hf1)
  |(go_at_call 17;apply(hC.o _ (((A_ w1 _).alloc _).alloc _)).mono;intro e w2 hu;(first|(have:=cc1;obtain⟨rfl,hf2⟩:=hu.big hm.o)|(obtain⟨rfl,hf2⟩:=hu.zero hm.o));replace hf2:=zy (((hf1.o.alloc _).alloc _).trans hf2 u_);clear hu))
 try go_ret
 exact fin.o _ hf2.o):p:=h
def Qk{w:Aw}{sw sr:BA}(S:yF A w)(d:yg w)(j:yk w)(i:xW w)(hA:xC w)(l:ql):Calls prog 9 #[.string sw,.string sr] w (GF w sw sr):=by
 refine hq_ λPOST Q_=>?_;have hB:=zy (pI (sw:=sw) (sr:=sr) S d j i);by_cases a:(zu sw).1=0/\(zu sr).1=0
 .obtain⟨h0,h1⟩:=a;obtain⟨_,ds,t,hp⟩:=kQ h0;obtain⟨_,ds',t',c⟩:=kQ h1;have hBo:H_ (Calls prog 16 #[.string sw,.string sr] w λe w1=>∃sa sn sc rT rx sa' sn' sc' rT' rx',e=.returned (.tuple #[.agg #[.slice sa sn sc,.iface rT rx],.agg #[.slice sa' sn' sc',.iface rT' rx'],.nilIface])/\Fr w w1 N_/\∀V,Fr w1 V N_->Calls prog 17 #[.agg #[.slice sa sn sc,.iface rT rx],.agg #[.slice sa' sn' sc',.iface rT' rx']] V (qM V (zx ds) (zx ds') t t' 414 (.pointer (some (A 5))))):=zy (hB.o.mono (by
   rintro e w1 ⟨sv,rv,sv',rv',B,he,hf,hm⟩
   rcases hm with⟨_,_,rfl,hx,y⟩|⟨hn,_⟩
   .obtain⟨sa,sn,sc,rT,rx,rfl,rfl⟩:=hx.forms
    obtain⟨sa',sn',sc',rT',rx',rfl,rfl⟩:=y.forms
    refine⟨_,_,_,_,_,_,_,_,_,_,he,hf,λV hV=>?_⟩
    obtain⟨M,Q,xs,hs,r,hn,hu,D,C,_⟩:=hx
    rw[hp]at r
    cases r
    obtain⟨N,R,xs',hs',u,G,I,z,E,_⟩:=y
    rw[c]at u
    cases u
    have hz:=hV.size
    have O:=hf.size
    exact Zr (w0:=w) (D.fr hV u_) (z.fr hV u_) (C.fr hV u_) (E.fr hV u_) ((yy.refl w).fr (hf.trans hV u_) l_ (λ_ f=>f.elim)) M_ (λg hg=>M_) (λg hg=>M_) hs hs' hp c hn hu G I l ((S.fr (hf.trans hV u_)).var 5 D_)
   .exact absurd ⟨h0,h1⟩ hn))
  have hans:H_ (∀m ok tx k,Few (zx ds) (zx ds') t t' m->((m=0/\ok=true/\tx=⟨#[]⟩/\k=0)\/(m=301/\ok=false/\tx=⟨#[]⟩/\k=7)\/(1<=m/\m<=300/\ok=false/\0<tx.size/\k=0))->CkR sw sr ok tx k):=zy (λm ok tx k hm h=>.inl ⟨h0,h1,ds,t,ds',t',m,hp,c,hm,h⟩);replace S:=zy S;by_cases p:∃m,Few (zx ds) (zx ds') t t' m
  .obtain⟨m,hm⟩:=p;by_cases m0:m=0
   .exact cwQk1_
   .by_cases m3:m=301
    .have cc1:=Nat;exact cwQk1_
    .have F:=hm.le;have fin:H_ (∀V x,Fr w V N_->POST (.returned (.tuple #[.string (txT (zx ds) x t),.nilIface])) V):=zy (λV x hV=>by
      rw[Q_.o]
      have hp:=BW (zx ds) x t
      refine⟨_,_,0,rfl,hV,fk (S.o.fr hV),.inl ⟨rfl,?_⟩⟩
      have e:((txT (zx ds) x t).size==0)=false:=xg_
      rw[e]
      exact hans.o m _ _ _ hm (.inr (.inr ⟨M_,M_,rfl,hp,rfl⟩)))
     have K:H_ (∀V e w2,qM V (zx ds) (zx ds') t t' 414 (.pointer (some (A 5))) e w2->∃T v x J,e=.returned (.tuple #[.iface T v,.nilIface])/\Fr V w2 N_/\ndT x<=300/\DaV (zx ds) w2 J x t (.iface T v)):=zy (λV e w2 hu=>hu.some hm M_ M_);have L:H_ (∀V J x v,DaV (zx ds) V J x t v->Fr w V N_->ndT x<=300->Calls prog 18 #[v] V λe w'=>e=.returned (.string (txT (zx ds) x t))/\Fr V w' N_):=zy (λV J x v hv hf hx=>fO (w0:=w) hA hv hf.size ((yy.refl w).fr hf l_ (λ_ f=>f.elim)) M_);go_in;go_wp2_with (first
      |(go_at_call 16;apply hBo.o.mono;rintro e w1 ⟨sa,sn,sc,rT,rx,sa',sn',sc',rT',rx',rfl,hf1,hC⟩;replace hC:=zy hC;replace hf1:=zy hf1)
      |(go_at_call 17;apply(hC.o _ (((A_ w1 _).alloc _).alloc _)).mono;intro e w2 hu;obtain⟨T,v,x,J,rfl,hf2,hx,hv⟩:=K.o _ _ _ hu;have b:=((hf1.o.alloc _).alloc _).trans hf2 u_;have hW:=zy (L.o _ _ _ _ hv b hx);replace b:=zy b)
      |(go_at_call 18;apply hW.o.mono;rintro e U ⟨rfl,q⟩;replace q:=zy (b.o.trans q u_)))
     try go_ret
     exact fin.o _ _ q
  .have H:H_ (∀V e w2,¬qM V (zx ds) (zx ds') t t' 414 (.pointer (some (A 5))) e w2):=zy (λV e w2 hu=>p ⟨_,hu.choose_spec.1⟩);go_in;go_wp2_with (first
    |(go_at_call 16;apply hBo.o.mono;rintro e w1 ⟨sa,sn,sc,rT,rx,sa',sn',sc',rT',rx',rfl,hf1,hC⟩;replace hC:=zy hC;replace hf1:=zy hf1)
    |(go_at_call 17;apply(hC.o _ (((A_ w1 _).alloc _).alloc _)).mono;intro e w2 hu;exact absurd hu (H.o _ _ _)))
 .have hans:H_ (CkR sw sr false ⟨#[]⟩ (if (zu sw).1=0 then (zu sr).1 else (zu sw).1)):=zy (.inr ⟨a,rfl,rfl,rfl⟩);replace a:=zy a;go_in;go_wp2_with (go_at_call 16;apply hB.o.mono;rintro e w1 ⟨sv,rv,sv',rv',B,rfl,hf1,hm⟩;(rcases hm with⟨h0,h1,_⟩|⟨_,rfl,rfl,rfl,rfl,⟨T,x,rfl⟩,hk⟩;(exact absurd ⟨h0,h1⟩ a));replace hk:=zy hk;replace hf1:=zy hf1);try go_ret
  rw[Q_.o];exact⟨_,_,_,rfl,(hf1.o.alloc _).alloc _,hk.o.fr (((A_ _ _).alloc _).alloc _),.inr ⟨⟨_,_,rfl⟩,hans⟩⟩
def YZ{w:Aw}{sw sr:BA}(S:yF A w)(i:yg w)(p:yk w)(l:xW w)(h:xC w)(q:ql):Calls prog 4 #[.string sw,.string sr] w λe w'=>∃ok tx k,e=.returned (.tuple #[.bool ok,.string tx,Z_ k])/\Fr w w' N_/\CkR sw sr ok tx k:=by
 refine hq_ λf c=>?_;have u:=zy (Qk (sw:=sw) (sr:=sr) S i p l h q);go_in;go_upto_region 2 with(go_at_call 9;apply u.o.mono;rintro e w1 ⟨tx,C,k,rfl,d,j,hw⟩;replace d:=zy d;have hk:=zy (j w1 (A_ _ _));replace hw:=zy hw);rcases hw.o with⟨rfl,a⟩|⟨⟨T,x,rfl⟩,a⟩
 .have fin:H_ (∀b,b=(tx.size==0)->f (.returned (.tuple #[.bool b,.string tx,Z_ k])) w1):=zy (λb hb=>by
   rw[c.o]
   exact⟨_,_,_,rfl,d,by rw[hb];exact a⟩)
  by_cases hz:tx.size=0
  .have z:tx=⟨#[]⟩:=b5_ (by have:tx.data.size=0:=hz;exact Array.eq_empty_of_size_eq_zero this);subst z;go_wp2_with (go_at_call 10;apply hk.o.mono;rintro e r ⟨rfl,rfl⟩);refine bodyPost_ret (v:=.tuple #[.bool true,.string ⟨#[]⟩,Z_ k]) (by simp[results,results4,go_sem]) rfl ?_;exact fin.o _ rfl
  .have y:=Mo hz;have B:(tx.size==0)=false:=by rw[beq_eq_false_iff_ne];exact hz
   go_wp2_with (go_at_call 10;apply hk.o.mono;rintro e r ⟨rfl,rfl⟩);refine bodyPost_ret (v:=.tuple #[.bool false,.string tx,Z_ k]) (by simp[results,results4,go_sem,y]) rfl ?_;exact fin.o _ B.symm
 .have fin:H_ (f (.returned (.tuple #[.bool false,.string tx,Z_ k])) w1):=zy (by
   rw[c.o]
   exact⟨_,_,_,rfl,d,a⟩)
  go_wp2_with (go_at_call 10;apply hk.o.mono;rintro e r ⟨rfl,rfl⟩);refine bodyPost_ret (v:=.tuple #[.bool false,.string tx,Z_ k]) (by simp[results,results4,go_sem]) rfl ?_;exact fin
def Pl{ok:Ar}{tx:BA}{k:Int}(h:CkR s s ok tx k):ok=decide ((zu s).1=0)/\tx=⟨#[]⟩/\k=(zu s).1:=by
 rcases h with⟨h0,_,ds,t,ds',t',m,hp,a,i,hm⟩|⟨hn,rfl,rfl,rfl⟩
 .rw[hp]at a;cases a;obtain⟨a,b,b,b,f⟩:=sU h0 hp;obtain⟨hs,hn,hu⟩:=cH h0 hp;have j:m=0:=by
   rcases i.lo with e|⟨d,hd,_⟩
   .exact e
   .exact(MQ f (λc fs g=>Vz hu) (λc fs he=>uo hn he) a hd b (ag hu) (.inl rfl)).elim
  rcases hm with⟨_,rfl,rfl,rfl⟩|⟨e,_⟩|⟨e,_⟩
  .exact⟨by rw[h0];rfl,rfl,h0.symm⟩
  .omega
  .omega
 .have h1:¬(zu s).1=0:=λe=>hn ⟨e,e⟩;exact⟨by simp[h1],rfl,by rw[n_ h1]⟩
def cwKf1_{p:Prop}(h:p:=by
 (first|(have:=cc1;have hq0:(q==0)=false:=by simp;exact h0)|(subst h0));(first|(have:=cc1;(have hd0:decide (q=0)=false:=by simp;exact h0);rw[hd0]at hC;clear hd0 h0)|(simp only[eq_self,decide_true]at hC));go_in;go_wp2_with (first
  |(go_at_call 4;apply hC.o.mono;rintro e w1 ⟨rfl,f1⟩;replace f1:=zy f1)
  |(go_at_call 5;apply(hP.o _).mono;intro e w2 h;obtain⟨zv,rfl,f2⟩:=hP'.o _ e w2 h;replace f2:=zy (f1.o.trans f2 u_);clear h)
  |(go_at_call 7;apply(hD.o _ f2.o).mono;rintro e w3 ⟨rfl,f3⟩;replace f3:=zy (f2.o.trans f3 u_))
  |(go_at_call 8;apply(hR.o _ f3.o).mono;rintro e w4 ⟨rfl,f4⟩;have fn:=zy (fin.o _ (f3.o.trans f4 u_));clear f4)
  |go_in)
 exact fn.o):p:=h
def Kf{w:Aw}{bs:BA}(K:Kit A w)(r:ql):Calls prog 3 #[.string s,.string bs] w λe w'=>e=.returned (.bool true)/\Fr w w' N_:=by
 refine hq_ λa c=>?_;have fin:H_ (∀V,Fr w V N_->a (.returned (.bool true)) V):=zy (λV u=>by rw[c.o];exact⟨rfl,u⟩);have hD:=λW (a:Fr w W N_)=>(K.fr a).dec s bs;have hR:=λW (a:Fr w W N_)=>(K.fr a).res s bs;have hP:=zy (λV=>KG (w:=V) (s:=s));obtain⟨S,f,p,i,d⟩:=K;have hC:Calls prog 4 #[.string s,.string s] w λe w'=>e=.returned (.tuple #[.bool (decide ((zu s).1=0)),.string ⟨#[]⟩,Z_ (zu s).1])/\Fr w w' N_:=(YZ S f p i d r).mono (by
  rintro e w' ⟨ok,tx,k,rfl,hf,hk⟩
  obtain⟨rfl,rfl,rfl⟩:=Pl hk
  exact⟨rfl,hf⟩)
 generalize (xz s bs).1=b at hD hR;generalize (xz s bs).2.1=j at hD hR;generalize (xz s bs).2.2=n at hD hR;have a:((j:Int)==(j:Int))=true:=x8_
 have a:(n==n)=true:=x8_
 have hP':H_ (∀V e w2,fJ V s e w2->∃zv,e=.returned (.tuple #[zv,Z_ (zu s).1,Z_ (zu s).2])/\Fr V w2 N_):=zy (λV e w2 h=>by
  obtain⟨zv,rfl,hf,_⟩:=h
  exact⟨zv,rfl,hf⟩)
 generalize (zu s).2=l at hP';generalize (zu s).1=q at hP' hC;have a:(q==q)=true:=x8_
 replace hC:=zy hC;replace hD:=zy hD;replace hR:=zy hR;by_cases h0:q=0
 .exact cwKf1_
 .have cc1:=Nat;exact cwKf1_
def Xu(P:Ew)(W:Aw)(ps:List MemPlace):Prop:=∀b off,MemPlace.cell b off∈ps->
 (∃c t,W.heap[b]?=some (.cells c t (0,0)))/\∀u v,W.cell? ⟨b,off,none⟩=some (.iface u v)->Value.okWide P W .any 0 u v
def WY(nm:String)(text:Db):DataW Unit:=.iface nm (.ptr (.agg [.lit (.string text)]))
structure uf(P:Ew)(nm:String)(ti tp:Av):Prop where
 all:∃te ts ms f,P.underlying ti=some (.interface ms)/\(∀u,P.typeName? 3 u=some nm->u=tp)/\P.underlying tp=some (.pointer te)/\P.underlying te=some (.struct #[f])/\f.type=ts/\f.offset=0/\P.underlying ts=some .string/\P.cellsOf te=1/\P.cellsOf ts=1
def km{W:Aw}{r:List (String×DataW Unit)}{b:List MemPlace}(T:uf P nm ti tp)(h:DataW.LaidVars P W ((n,WY nm text)::r) b)(k:Xu P W b)(hg:P.globalNamed n=some g)(C:(P.globals[g]?).map (·.type)=some ti):∃a q,W.var? P n=some #[.iface tp (.pointer (some a))]/\DataW.LaidVars P W r q/\b=[.cell g 0,.cell a.block a.off]++q:=by
 obtain⟨te,ts,ms,f,hi,B,hp,he,x,p,hs,hc,l⟩:=T.all;obtain⟨I,O,cs0,H,M,G,d,D,i,o,z,c⟩:=h;obtain rfl:=Option.some.inj (hg.symm.trans d);obtain rfl:=Option.some.inj (C.symm.trans D);obtain⟨E⟩:=cs0;have F:∀u v,E=[.iface u v]->Value.okWide P W .any 0 u v:=λu v e=>by
  subst e;exact(k g 0 (by rw[c];simp[MemPlace.row])).2 u v (by simpa using World.var?_cell d i 0)
 obtain⟨j,N,rfl,J,K,L,y⟩:=errorString_of_trod hi B hp he x p hs hc l o F;refine⟨j,G,i,z,?_⟩;rw[c,y];simp[MemPlace.row]
def bW{W:Aw}(T:uf P nm ti tp)(hg:P.globalNamed n=some g)(c:(P.globals[g]?).map (·.type)=some ti):∀{l:List (String×DataW Unit)} {ps:List MemPlace},DataW.LaidVars P W l ps->Xu P W ps->(n,WY nm text)∈l->
  ∃a,W.var? P n=some #[.iface tp (.pointer (some a))]/\.cell a.block a.off∈ps
 | [],_,_,_,hm=>by cases hm
 |(n',d')::r,ps,h,hR,hm=>by
  rcases an_.1 hm with e|hm
  .cases e;obtain⟨a,q,hv,_,rfl⟩:=km T h hR hg c;exact⟨a,hv,by simp⟩
  .obtain⟨j,p,cs0,i,k,o,_,_,_,_,f,rfl⟩:=h;obtain⟨a,hv,d⟩:=bW T hg c f (λb off hb=>hR b off zs_) hm;exact⟨a,hv,by simp[d]⟩
def mK{W:Aw}(T:uf P nm ti tp){m:String}(z:n≠m){B:Db}{g':Nat}(hg:P.globalNamed n=some g)(v:(P.globals[g]?).map (·.type)=some ti)(p:P.globalNamed m=some g')(y:(P.globals[g']?).map (·.type)=some ti){a a':Addr}(ha:W.var? P n=some #[.iface tp (.pointer (some a))])(o:W.var? P m=some #[.iface tp (.pointer (some a'))]):∀{l:List (String×DataW Unit)} {ps:List MemPlace},DataW.LaidVars P W l ps->Xu P W ps->ps.Nodup->(n,WY nm text)∈l->(m,WY nm B)∈l->a≠a'
 | [],_,_,_,_,hm,_=>by cases hm
 |(n',d')::r,ps,h,hR,hn,hm,c=>by
  rcases an_.1 hm with e|hr
  .cases e;rcases an_.1 c with e'|c
   .cases e';exact absurd rfl z
   .obtain⟨b,q,hv,d,rfl⟩:=km T h hR hg v;obtain⟨i,f,u⟩:=bW T p y d (λx off hb=>hR x off zs_) c;rw[ha]at hv;rw[o]at f;have j:a=b:=by simpa using hv
    have k:a'=i:=by simpa using f
    subst j;subst k;rintro rfl;simp[u]at hn
  .rcases an_.1 c with e'|c
   .cases e';obtain⟨b,q,hv,d,rfl⟩:=km T h hR p y;obtain⟨i,f,u⟩:=bW T hg v d (λx off hb=>hR x off zs_) hr;rw[o]at hv;rw[ha]at f;have j:a'=b:=by simpa using hv
    have k:a=i:=by simpa using f
    subst j;subst k;rintro rfl;simp[u]at hn
   .obtain⟨D,G,cs0,C,E,F,_,_,_,_,d,rfl⟩:=h;exact mK T z hg v p y ha o d (λb off hb=>hR b off zs_) (List.Nodup.sublist (List.sublist_append_right _ _) hn) hr c
open Go.ChangeShapes Go.WideShapes Go.ChangeAt
def zH:List (String×DataW Unit):=Rows.sameRow.laid
def rp:(zH.filter λx=>x.2.handleName?.isNone)=zH:=K_
def bK:(zH.filter λx=>x.2.handleName?.isSome)=[]:=K_
def iV(os:Os):((World.holding prog os ⟨#[],#[],[]⟩).layVars prog zH).os=os:=World.layVars_os _ _ _
def rb(os:Os):(World.holding prog os ⟨#[],#[],[]⟩).layFits prog zH []=true:=by kernel_rfl
def uN(os:Os):(World.holding prog os ⟨#[],#[],[]⟩).layIfaces prog zH ((World.holding prog os ⟨#[],#[],[]⟩).layVars prog zH)=true:=by kernel_rfl
def tq(os:Os)(b:Ca):laidMetH prog zH (((World.holding prog os ⟨#[],#[],[]⟩).layVars prog zH).forCall (λ_ _=>0) ⟨#[],b,[]⟩).memory:=by
 have a:(zH.filter λx=>(zH.map (·.1)).contains x.1)=zH:=List.filter_eq_self.2 λx hx=>List.contains_iff_mem.2 (a3_.2 ⟨x,hx,rfl⟩);have c:(zH.filter λx=>!(zH.map (·.1)).contains x.1)=[]:=List.filter_eq_nil_iff.2 λx hx=>by rw[List.contains_iff_mem.2 (a3_.2 ⟨x,hx,rfl⟩)];simp
 have h:laidMet prog zH ((World.holding prog os ⟨#[],#[],[]⟩).layVars prog zH):=laidMet_layVars (w0:=World.holding prog os ⟨#[],#[],[]⟩) (zH.map (·.1)) [] (by rw[a]) (by rw[a];exact rb os) (by rw[a];exact uN os) (by rw[c];exact LaidIn.none);refine laidMetH_of_parts ?_ ?_
 .rw[rp];exact h.of_heap (by simp[World.memory,World.forCall,Input.heap])
 .rw[bK];rfl
def uD(os:Os)(a:Ca):(((World.holding prog os ⟨#[],#[],[]⟩).layVars prog zH).forCall (λ_ _=>0) ⟨#[],a,[]⟩).Shaped prog:=World.shaped_of_ZipB K_ K_
def eA: "*" ++ "errors.errorString" = "*errors.errorString":=D_
def FS(u:Av)(h:Tryz.prog.typeName? 3 u=some "*errors.errorString"):u=414:=
 typeName_ptr_named (nm:= "errors.errorString") (by rw[eA];kernel_rfl) K_ D_ u (by rw[eA];exact h)
def oL:uf prog "*errors.errorString" 34 414:=
 ⟨⟨_,_,_,_,underlying34,FS,underlying414,underlying416,rfl,rfl,underlying9,K_,K_⟩⟩
def xp:List (Nat×String×Nat):=[(7,"kin/schemas.ErrLong",9),(0,"kin/schemas.ErrGrammar",10),(1,"kin/schemas.ErrName",11),(2,"kin/schemas.ErrUnion",12),(3,"kin/notation.ErrNotOf",8),(4,"kin/wire.ErrData",14),(5,"kin/data.ErrBig",6),(6,"kin/reading.ErrNothing",15),(8,"kin/notation.ErrLong",7),(9,"kin/wire.ErrLong",13),(15,"strconv.ErrRange",4),(14,"strconv.ErrSyntax",5)]
def jP:∀x∈xp,Tryz.prog.globalNamed x.2.1=some x.1:=by
 intro x hx;simp only[xp,an_,List.mem_nil_iff,or_false]at hx;rcases hx with rfl|rfl|rfl|rfl|rfl|rfl|rfl|rfl|rfl|rfl|rfl|rfl<;>kernel_rfl
def ph:∀x∈xp,(Tryz.prog.globals[x.1]?).map (·.type)=some 34:=by
 intro x hx;simp only[xp,an_,List.mem_nil_iff,or_false]at hx;rcases hx with rfl|rfl|rfl|rfl|rfl|rfl|rfl|rfl|rfl|rfl|rfl|rfl<;>kernel_rfl
def pd:∀x∈xp,∃text,(x.2.1,WY "*errors.errorString" text)∈zH:=by
 intro x hx;simp only[xp,an_,List.mem_nil_iff,or_false]at hx;rcases hx with rfl|rfl|rfl|rfl|rfl|rfl|rfl|rfl|rfl|rfl|rfl|rfl<;>first
  |exact⟨_,ag_ (i:=4) rfl⟩|exact⟨_,ag_ (i:=5) rfl⟩|exact⟨_,ag_ (i:=6) rfl⟩|exact⟨_,ag_ (i:=7) rfl⟩|exact⟨_,ag_ (i:=8) rfl⟩|exact⟨_,ag_ (i:=9) rfl⟩|exact⟨_,ag_ (i:=10) rfl⟩|exact⟨_,ag_ (i:=11) rfl⟩|exact⟨_,ag_ (i:=12) rfl⟩|exact⟨_,ag_ (i:=13) rfl⟩|exact⟨_,ag_ (i:=14) rfl⟩|exact⟨_,ag_ (i:=15) rfl⟩
def iT:∀x∈xp,∀y∈xp,x.1=y.1->x.2.1=y.2.1:=D_
section
variable {W:Aw}
def iD(h:laidMet prog zH W):∃A:Nat->Addr,(∀x∈xp,W.var? prog x.2.1=some #[.iface 414 (.pointer (some (A x.1)))])/\(∀x∈xp,∃c t,W.heap[(A x.1).block]?=some (.cells c t (0,0)))/\
 ∀x∈xp,∀y∈xp,x.1≠y.1->A x.1≠A y.1:=by
 obtain⟨f,hv,l,d⟩:=h;have i:∀x∈xp,∃a,W.var? prog x.2.1=some #[.iface 414 (.pointer (some a))]/\.cell a.block a.off∈f:=λx hx=>by
  obtain⟨text,hm⟩:=pd x hx;exact bW oL (jP x hx) (ph x hx) hv d hm
 have b:∀g:Nat,∃a:Addr,∀x∈xp,x.1=g->W.var? prog x.2.1=some #[.iface 414 (.pointer (some a))]/\.cell a.block a.off∈f:=λg=>by
  by_cases hg:∃x∈xp,x.1=g
  .obtain⟨x,hx,rfl⟩:=hg;obtain⟨a,ha⟩:=i x hx;refine⟨a,λy hy e=>?_⟩;have:y.2.1=x.2.1:=iT y hy x hx e;rw[this];exact ha
  .exact⟨⟨0,0,none⟩,λx hx e=>absurd ⟨x,hx,e⟩ hg⟩
 refine⟨λg=>Classical.choose (b g),λx hx=>(Classical.choose_spec (b x.1) x hx rfl).1,λx hx=>(d _ _ (Classical.choose_spec (b x.1) x hx rfl).2).1,λx hx y hy o=>?_⟩;obtain⟨p,j⟩:=pd x hx;obtain⟨q,k⟩:=pd y hy;refine mK oL (λe=>o ?_) (jP x hx) (ph x hx) (jP y hy) (ph y hy) (Classical.choose_spec (b x.1) x hx rfl).1 (Classical.choose_spec (b y.1) y hy rfl).1 hv d l j k;have h1:=jP x hx;rw[e,jP y hy]at h1;exact(Option.some.inj h1).symm
def fB(h:laidMet prog zH W):Lib.TabIs prog W "internal/strconv.uint64pow10" .u64 Lib.pow10Tab:=by
 have e:(Rows.laid_internal_strconv_uint64pow10:DataW Unit)=Lib.tabData .u64 Lib.pow10Tab:=K_
 have a:laidMet prog (("internal/strconv.uint64pow10",Rows.laid_internal_strconv_uint64pow10)::zH.drop 3) W:=h.tail.tail
 rw[e]at a;exact Lib.tabIs_of_head (g:=10) (t:=369) (e:=303) (n:=20) K_ K_ K_ K_ K_ K_ a
def sJ(h:laidMet prog zH W):Lib.Utf8Tabs 16 17 W:=by
 have e:Rows.laid_unicode_utf8_acceptRanges=Lib.acceptData:=K_
 have h1:=Lib.laidMet.reads h (n:= "unicode/utf8.first") (d:=Pinned.utf8First) (ag_ (i:=21) rfl)
 have a:=Lib.laidMet.reads h (n:= "unicode/utf8.acceptRanges") (d:=Rows.laid_unicode_utf8_acceptRanges) (ag_ (i:=3) rfl)
 rw[Pinned.utf8First_eq]at h1;rw[e]at a;exact utf8Tabs_of_reads (ρ:=Tryz.lays177_ren) { Tryz.lays177 with } ⟨K_,K_,K_,K_,K_,K_,K_⟩ h1 a
def dM(h:laidMet prog zH W):Lib.PrintTabsAt 18 19 20 21 Lib.goPrintTabs W:=by
 have h1:=Lib.laidMet.reads h (n:= "strconv.isPrint16") (d:=Pinned.isPrint16) (ag_ (i:=19) rfl)
 have a:=Lib.laidMet.reads h (n:= "strconv.isNotPrint16") (d:=Pinned.isNotPrint16) (ag_ (i:=17) rfl)
 have b:=Lib.laidMet.reads h (n:= "strconv.isPrint32") (d:=Pinned.isPrint32) (ag_ (i:=20) rfl)
 have c:=Lib.laidMet.reads h (n:= "strconv.isNotPrint32") (d:=Pinned.isNotPrint32) (ag_ (i:=18) rfl)
 rw[Pinned.isPrint16_eq]at h1;rw[Pinned.isNotPrint16_eq]at a;rw[Pinned.isPrint32_eq]at b;rw[Pinned.isNotPrint32_eq]at c;exact printTabs_of_reads (ρ:=Tryz.lays177_ren) { Tryz.lays177 with } ⟨K_,K_,K_,K_,K_,K_,K_,K_,K_,K_⟩ h1 a b c
def Yn(h:laidMetH prog zH W):laidMet prog zH W:=by
 unfold laidMetH at h;rw[rp,bK]at h;exact h
def QM{v:Ax}(hg:Tryz.prog.globalNamed n=some g)(h:W.var? prog n=some #[v]):W.cell? ⟨g,0,none⟩=some v:=by simpa using World.var?_cell hg h 0
end
def Tryz.own:ownKnob Tryz.prog.godebug=none:=K_
def qT:∀g∈pS,∃x∈xp,x.1=g:=D_
def Ys{W:Aw}(h:laidMetH prog zH W):∃A,yF A W/\yg W/\yk W/\xW W/\Lib.TabIs prog W "internal/strconv.uint64pow10" .u64 Lib.pow10Tab:=by
 have a:=Yn h;obtain⟨A,hv,hr,d⟩:=iD a;have S:yF A W:=by
  refine⟨λg hg=>?_,λg hg=>?_,λg hg g' c e=>?_⟩
  .obtain⟨x,hx,rfl⟩:=qT g hg;exact QM (jP x hx) (hv x hx)
  .obtain⟨x,hx,rfl⟩:=qT g hg;exact hr x hx
  .obtain⟨x,hx,rfl⟩:=qT g hg;obtain⟨y,hy,rfl⟩:=qT g' c;exact d x hx y hy e
 have h1:=hv (14,"strconv.ErrSyntax",5) D_
 have b:=hv (15,"strconv.ErrRange",4) D_
 exact⟨A,S,FH (fB a),Ke (dM a) (sJ a),aZ h1 b,fB a⟩
def Fr.kept{W W':Aw}(h:Fr W W' N_):Below W.heap.size W W':=⟨h.os,h.tape,h.output,h.size,λk hk=>h.block k hk id⟩
open Go.ChangeMaps (open_string shut_string)
def BD:∀n,n<10->∀k,k<n->97<=bt ⟨(Lib.repeatL [97] n).toArray⟩ k/\bt ⟨(Lib.repeatL [97] n).toArray⟩ k<=122:=D_
def BR:ql:=λW n hn=>by
 apply(Tryz.strings_Repeat ⟨#[97]⟩ n W M_ (by show 1*n<=_;omega)).mono;rintro e w' ⟨rfl,hb⟩;have hz:(⟨(Lib.repeatL [97] n).toArray⟩:BA).size=n:=by
  show(Lib.repeatL [97] n).toArray.size=n;rw[List.size_toArray,Lib.repeatL_length];simp
 exact⟨_,rfl,Fr.ofBelow hb,hz,λk hk=>BD n M_ k (by have e:k<(⟨(Lib.repeatL [97] n).toArray⟩:BA).size:=hk;rw[hz]at e;exact e)⟩
def VF{W:Aw}(s d:BA)(h:laidMetH prog Rows.sameRow.laid W):Calls prog 3 #[.string s,.string d] W λe w'=>e=.returned (.bool true)/\Fr W w' N_:=by
 obtain⟨A,S,a,b,hP,c⟩:=Ys h;exact Kf ⟨S,a,b,hP,Qh c⟩ BR
def ak(os:Os)(u:os.Started)(k:Type)(enc:TypeId×Value->k):ReturnsInHanded {} Tryz.checked os 3 .any (λw a=>(Rows.sameSpec.pre enc prog Tryz.f3 [] false w a/\laidMetH prog Rows.sameRow.laid w)/\sizedMet enc prog Tryz.f3 (OpenSpec.ofChange Rows.sameSpec) false w a)
  (Rows.sameSpec.post enc prog Tryz.f3 false true false false):=by
 refine returnsInHanded_of_change_and (C:=Tryz.checked) (X:=λw _=>laidMetH prog Rows.sameRow.laid w) (λ_ _ _ k h=>laidMetH.of_heap k h) Tryz.own u K_ func3
  (ChangeSpec.witness_shaped (enc:=enc) (C:=Tryz.checked) (os:=os) (X:=λw _=>laidMetH prog Rows.sameRow.laid w) false ((World.holding prog os ⟨#[],#[],[]⟩).layVars prog zH) #[.string ⟨#[]⟩,.string ⟨#[]⟩] 8 (iV os)
   (uD os _) K_ K_ K_ (tq os _)) ?_
 intro W base a ds k k k f _ _ o _;have b:∀(j:Nat) t v,Tryz.f3.params[j]?=some t->a[j]?=some v->Value.okWide prog W .any base t v:=k;have i:=f;obtain⟨p,q,l,r,rfl,_,_⟩:=f;have c:DataW.TrodAll enc prog W 0 (λ_=>true) true Tryz.f3.params.toList a.toList ds p:=l;rw[Tryz.params3]at c b;obtain⟨x,y,d0,d1,a,a,rfl,rfl,rfl,h0,h1⟩:=trodAll_two c;obtain⟨rfl,rfl⟩:=trodVars_none r;obtain⟨s,rfl,rfl,rfl,ws⟩:=open_string underlying9 (b 0 9 x rfl rfl) h0;obtain⟨d,rfl,rfl,rfl,z⟩:=open_string underlying9 (b 1 9 y rfl rfl) h1;simp only[bd_]at i;refine(VF s d o).mono λe W' ⟨he,hf⟩=>?_;subst he;exact⟨_,rfl,_,_,_,[],[],[],i,trodAll_mk1 (shut_bool underlying4 _),trodAll_mk2 (shut_string underlying9 ws) (shut_string underlying9 z),rfl,hf.kept.frame _,λh=>by cases h⟩
def aw:joinedFacts prog 3 Tryz.f3 Rows.sameSpec Rows.sameRow=true:=by
 unfold joinedFacts;simp only[a0_]
 repeat' apply And.intro
 all_goals (as_aux_lemma=>kernel_rfl)
def Ze:Tryz.prog.funcNamed Rows.sameRow.func=some 3:=K_
def VP:Tryz.f3.isInstance prog Rows.sameRow.origin Rows.sameRow.targs:=of_decide_eq_true K_
def VG:Tryz.f3.isWrapper prog Rows.sameRow.wrapper Rows.sameRow.mainSum:=by unfold Func.isWrapper;rw[n_ (of_decide_eq_false K_)];exact⟨rfl,rfl⟩
def Za:Rows.SameSaid:=
 OpenClaim.holds_of_wide 3 Tryz.f3 rfl rfl rfl rfl rfl rfl rfl ⟨rfl,rfl,rfl,rfl,rfl⟩ rfl rfl rfl rfl rfl Ze func3 aw VP VG
  (λos c a b _=>ak os c a b)
open Go
theorem same_card:Rows.SameCardSaid:=
 Claim7.holds_tied_plain_at .later [] Rows.sameCard.laidKinds true Rows.sameCard.stood.harness true
  Za (λ_ h=>by cases h) K_ (λ_ h=>by cases h) same_row_tie rfl ⟨rfl,rfl⟩ K_ rfl
  (λf a hf c=>by
   obtain rfl:f=3:=Option.some.inj ((show Tryz.prog.funcNamed "kin/kinlaw.Same" = some 3 by kernel_rfl).symm.trans hf) |>.symm
   obtain rfl:a=Tryz.f3:=(Option.some.inj (func3.symm.trans c)).symm
   exact⟨K_,λj t a=>by
    rw[Tryz.params3]at a
    have b:t=9:=by
     rcases j with _|_|j
     .simpa using a.symm
     .simpa using a.symm
     .simp at a
    subst b
    exact(show Tryz.prog.wantsStandIn 9=false by kernel_rfl)⟩)
  K_
end Go.Proofs.YtamhgejdkclmdaaGreatDoor
