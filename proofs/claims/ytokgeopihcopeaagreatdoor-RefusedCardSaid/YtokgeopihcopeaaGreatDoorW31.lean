import Derived.Test.YtokgeopihcopeaaGreatDoorW30
import Derived.Stop.LaidErr
import Derived.ProofKit
import Derived.Lay
import Derived.LaidHandle
import Derived.PinnedBridge
import Derived.Lib.LaidPrint
import Derived.Lib.LaidTab
import Derived.Stop.Joined
import Derived.Test.YtokgeopihcopeaaGreatDoorTie
import Derived.Test.YtokgeopihcopeaaGreatDoorCards
set_option linter.unusedVariables false
set_option maxHeartbeats 16000000
set_option maxRecDepth 100000
set_option linter.defProp false
set_option linter.unusedSimpArgs false
open Go.Proofs.Tryz
namespace Go.Proofs.YtokgeopihcopeaaGreatDoor
open Go.RowKit
variable {ds:Ar}{sw sr s:BA}{n nm:String}{g:Nat}{A:Bb}{P:Ey}{ti tp:Av}{text:De}
def bm{w:Aw}{k:Av}{R:Value->Option (DataW Unit×List MemPlace)}{b:Nat}(h:w.heap[b]?=some (.map #[] 0)):w.ownsMap prog k R b 0 (.map []):=
 ⟨#[],0,h,⟨by simp,Go.MapKept.stamped_empty 0,by simp⟩,l_,rfl⟩
def oq{c:Nat}{b:Nat}{q:PB×Nat}(h:vh b c ds=some q):∃d∈ds,d.letter=c:=by
 induction ds generalizing b with
 |nil=>cases h
 |cons x r ih=>
  simp only[vh]at h;split at h
  .rename_i e;exact⟨x,by simp,by simpa using e⟩
  .obtain⟨d,hd,e⟩:=ih h;exact⟨d,by simp[hd],e⟩
def WZ{t:PT}(hp:ze s=.ok (ds,t)){c:Nat}{X:PB}(h:zx ds c=some X):zY c=true:=by
 unfold zx at h;obtain⟨q,hl,_⟩:=cl_.1 h;obtain⟨d,hd,rfl⟩:=oq hl;exact((jT hp).2.2.2.1 d hd).1
def XV{t:PT}(hp:ze s=.ok (ds,t)):wK s t:=by
 unfold ze at hp;split at hp
 .cases hp
 .split at hp
  .cases hp
  .rename_i t' j a;split at hp
   .cases hp
   .cases hp;exact gH a
structure Few(ew er:Au)(t t':PT)(m:Nat):Prop where
 le:m<=301
 lo:Lo (Un ew er t t') m
 hi:∀d,Un ew er t t' d->kn m (ndT d)
def Few.uniq{ew er:Au}{t t':PT}{m f:Nat}(h:Few ew er t t' m)(c:Few ew er t t' f):m=f:=by
 have key:∀{a b:Nat},Few ew er t t' a->Few ew er t t' b->a≠0->b≠0/\b<=a:=λ{a b} h c ha=>by
  rcases h.lo with e|⟨d,hd,e⟩
  .exact absurd e ha
  .have:=c.hi d hd;unfold kn at this;unfold nd3 at e;split at e<;>omega
 by_cases h0:m=0
 .by_cases h1:f=0
  .omega
  .exact absurd h0 (key c h h1).1
 .have a:=key h c h0;have b:=key c h a.1;omega
def qM(w:Aw)(ew er:Au)(t t':PT)(et:Av)(ex:Ax)(e:Ak)(w':Aw):Prop:=
 ∃(m:Nat),Few ew er t t' m/\Fr w w' N_/\((m=0/\e=.returned (.tuple #[.nilIface,.nilIface]))\/(m=301/\e=.returned (.tuple #[.nilIface,.iface et ex]))\/(1<=m/\m<=300/\∃T v x J,e=.returned (.tuple #[.iface T v,.nilIface])/\(Un ew er t t' x/\Sh x)/\ndT x<=300/\DaV ew w' J x t (.iface T v)))
structure UM2(w:Aw)(ew er:Au)(t t':PT)(q n:Nat)(d:Ax)(V:Aw):Prop where
 few:Few ew er t t' n
 d1:IfV d
 fr:Fr w V N_
 bq:Blk V q [I_ n,d] 85
 d0:n=0\/n=301->d=.nilIface
 dd:n≠0->n<=300->∃x J,(Un ew er t t' x/\Sh x)/\ndT x<=300/\DaV ew V J x t d
def Zd{w0 w:Aw}{P Q:Az}{s':BA}{ds':Ar}{t t':PT}{sa ra:Am}{sn sc rn rc:Nat}{xs xs':Ay}{sT rT:Av}{sx rx:Ax}{et:Av}{ex:Ax}(D:yR w P s ds (.slice sa sn sc) xs)(E:yR w Q s' ds' (.slice ra rn rc) xs')(hT:TyV w P t (.iface sT sx))(b5:TyV w Q t' (.iface rT rx))(G:yu w0 w)(h0:w0.heap.size<=w.heap.size)(hP:∀g,P g->g<w.heap.size)(hQ:∀g,Q g->g<w.heap.size)(hs:s.size<=300)(hs':s'.size<=300)(hp:ze s=.ok (ds,t))(U:ze s'=.ok (ds',t'))(hn:xL ds t=[])(hu:vz ds t=[])(d2:xL ds' t'=[])(d6:vz ds' t'=[])(b4:ql)(hE:vN 5 w et ex):Calls prog 16 #[.agg #[.slice sa sn sc,.iface sT sx],.agg #[.slice ra rn rc,.iface rT rx]] w (qM w (zx ds) (zx ds') t t' et ex):=by
 obtain⟨a6,z⟩:=y_ (qM w (zx ds) (zx ds') t t' et ex);rw[<- z.o];obtain⟨f1,f2,f3,f4,f5⟩:=vZ hs hp hn hu;obtain⟨k1,k2,k3,k4,k5⟩:=vZ hs' U d2 d6;have ft:=jI t (xA hs hp).2.1;have a9:=jI t' (xA hs' U).2.1;obtain⟨w1,hw1⟩:=e_ ((w.alloc (.cells #[.slice sa sn sc,.iface sT sx] 48)).alloc (.cells #[.slice ra rn rc,.iface rT rx] 48));have A1:Fr w w1 N_:=xz_
 have L:Blk w1 w.heap.size [.slice sa sn sc,.iface sT sx] 48:=by rw[hw1];exact(B_ w _ _).alloc _
 have N:Blk w1 (w.heap.size+1) [.slice ra rn rc,.iface rT rx] 48:=by
  rw[hw1];have h:=B_ (w.alloc (.cells #[.slice sa sn sc,.iface sT sx] 48)) #[.slice ra rn rc,.iface rT rx] 48;rw[zm]at h;exact h
 have z1:w1.heap.size=w.heap.size+2:=by rw[hw1,zm,zm]
 have a7:H_ (∀e b,ee (.slice sa sn sc) (.slice ra rn rc) sT rT sx rx w1 e b->∃fb tu,e=.returned (P_ fb)/\(∀V,Fr b V N_->V.cell? ⟨fb,5,none⟩=some (P_ tu)/\V.cell? ⟨w.heap.size,1,none⟩=some (.iface sT sx)/\V.cell? ⟨w.heap.size+1,1,none⟩=some (.iface rT rx))/\∀V,Fr b V N_->Calls prog 30 #[P_ tu,.agg #[.iface sT sx,.iface rT rx]] V λe i=>∃(n:Nat) (d:Value),e=.returned (.agg #[I_ n,d])/\IfV d/\(∀q cs,b.heap.size<=q->q<V.heap.size->Blk V q cs 85->Blk i q cs 85)/\V.heap.size<=i.heap.size/\∀q B,b.heap.size<=q->Blk B q [I_ n,d] 85->(Fr i B N_\/(∃cs,Blk i q cs 85)/\Fr i B (λx=>x=q))->UM2 w (zx ds) (zx ds') t t' q n d B):=zy (λe b H=>by
  obtain⟨fb,tb,mb,tu,mu,rfl,O,f7,b7,b6,b8,b9,e5,bF,a3,bT,a4,bU⟩:=H
  have p:=A1.trans O u_
  refine⟨fb,tu,rfl,λV j=>⟨(j.bl bF id).cell 5,(j.bl (O.bl L id) id).cell 1,(j.bl (O.bl N id) id).cell 1⟩,λV j=>?_⟩
  let F:FD:=⟨fb,tb,mb,tu,mu,P,Q,s,s',ds,ds',.slice sa sn sc,.slice ra rn rc,sT,rT,sx,rx,xs,xs',w0⟩
  have a5:F.OK:=⟨hs,hs',f1,k1,f5,k5,λc X h=>WZ hp h,λx hx=>by have:=hP x hx;show x<fb;omega,λx hx=>by have:=hQ x hx;show x<fb;omega,by show w0.heap.size<=fb;omega,e5⟩
  have u:=p.trans j u_
  have fx:FX F V:=⟨j.bl bF id,D.fr u u_,E.fr u u_,G.fr u h0 (λ_ f=>f.elim)⟩
  have e8:V.heap[mb]?=some (.map #[] 0):=by
   have a1:mb<b.heap.size:=(Array.getElem?_eq_some_iff.1 a3).1
   rw[j.block mb a1 id]
   exact a3
  have e9:V.heap[mu]?=some (.map #[] 0):=by
   have a1:mu<b.heap.size:=(Array.getElem?_eq_some_iff.1 a4).1
   rw[j.block mu a1 id]
   exact a4
  have td:TbI (dT F) (dI F) (dL F) V () (L_) false []:=⟨fx,⟨j.bl bT id,World.ownsRow_nil _ _ _ _,⟨.map [],bm e8,qO.nil⟩,b7,b6,List.nodup_nil,λr hr=>by cases hr⟩,λx hx=>by cases hx⟩
  have f6:TbI (uT F) (uI F) (uL F) V (L_,[]) (L_) false []:=⟨⟨td,λr hr=>by cases hr⟩,⟨j.bl bU id,World.ownsRow_nil _ _ _ _,⟨.map [],bm e9,qO.nil⟩,b8,b9,List.nodup_nil,λr hr=>by cases hr⟩,λx hx=>by cases hx⟩
  have k:=sA a5 b4 (a:=(t,t')) f6 (λr hr=>by cases hr) (hT.fr u u_) (b5.fr u u_) ⟨⟨XV hp,f4,ft⟩,XV U,k4,a9⟩
  apply k.mono
  rintro e i ⟨r3,f0,T3,x,rfl,hx,d7,ht,a2,hG⟩
  have q:=(ht.t.q x hx).2.2
  have sv:svD F i (λy=>¬TSS (uT F) (uL F) f0 r3 y) (UD F x.a) (UA x.a) x.n x.d:=(ht.v x hx).1
  rw[d7]at sv
  have e3:=eI hG
  have few:Few (zx ds) (zx ds') t t' x.n:=⟨q.1,by
   by_cases e:x.n=0
   .exact .inl e
   .obtain⟨y,Z,y2,_⟩:=sv.2 e
    exact .inr ⟨y,Z.1,y2⟩,λd hd=>e3.all (λ_ _ h=>h) hd x.n ⟨x,hx,d7,rfl⟩⟩
  have tl:∀y,TSS (uT F) (uL F) (L_) (L_,[]) y->fb<y/\y<b.heap.size:=λy hy=>by
   have e7:TbI (uT F) (uI F) (uL F) b (L_,[]) (L_) false []:=by
    have a0:=p
    refine⟨⟨⟨⟨bF,D.fr a0 u_,E.fr a0 u_,G.fr a0 h0 (λ_ f=>f.elim)⟩,⟨bT,World.ownsRow_nil _ _ _ _,⟨.map [],bm a3,qO.nil⟩,b7,b6,List.nodup_nil,λr hr=>by cases hr⟩,λx hx=>by cases hx⟩,λr hr=>by cases hr⟩,⟨bU,World.ownsRow_nil _ _ _ _,⟨.map [],bm a4,qO.nil⟩,b8,b9,List.nodup_nil,λr hr=>by cases hr⟩,λx hx=>by cases hx⟩
   exact e7.li (vH a5) hy
  have a8:Fr w i N_:=u.trans a2.1 (λy hy e=>o1_ ((tl y e).1))
  refine⟨x.n,x.d,rfl,q.2,λqq cs h1 H hb=>a2.1.bl hb (λe=>o1_ ((tl _ e).2)),a2.1.size,λqq B u B u=>?_⟩
  refine⟨few,q.2,?_,B,sv.1,λB e2=>?_⟩
  .rcases u with h|⟨_,h⟩
   .exact a8.trans h u_
   .exact a8.trans h (λy hy e=>by have e:y=qq:=e;have:=O.size;omega)
  .obtain⟨y,Z,y2,C⟩:=sv.2 B
   have l:ndT y<=300:=by unfold nd3 at y2;split at y2<;>omega
   have B:=C e2 t rfl
   rcases u with h|⟨⟨cs,hc⟩,h⟩
   .exact⟨y,_,Z,l,B.fr h u_⟩
   .exact⟨y,_,Z,l,B.ot hc D_ D_ h⟩)
 have call:H_ (∀V,Calls prog 29 #[.agg #[.slice sa sn sc,.iface sT sx,.slice ra rn rc,.iface rT rx]] V (ee (.slice sa sn sc) (.slice ra rn rc) sT rT sx rx V)):=zy (λV=>dU);have big:H_ (∀V,Fr w V N_->V.cell? ⟨5,0,none⟩=some (.iface et ex)):=zy (λV j=>hE.fr j id);have d8:=L.c0;have d9:=L.c1;have e0:=N.c0;have e1:=N.c1;replace hw1:=zy hw1;go_in;go_upto_region 1 with fail;rw[<- hw1.o];go_upto_region 2 with(go_at_call 29;apply(call.o _).mono;rintro e b H;obtain⟨fb,tu,rfl,C,st⟩:=a7.o e b H;replace C:=zy C;replace st:=zy st);go_cut [7] (λv V=>∃q n d,v=P_ q/\H_ (UM2 w (zx ds) (zx ds') t t' q n d V));case first=>
  refine tr_ 9 (λV=>z_ V fb 5 (P_ tu)/\z_ V w.heap.size 1 (.iface sT sx)/\z_ V (w.heap.size+1) 1 (.iface rT rx)) ?_;refine tB_ 0 [1,2,3,9] ?_;refine tB_ 1 [2,3,9] ?_;refine tB_ 2 [3,9] ?_;refine tB_ 3 [9] ?_;refine tB_ 4 [5,8,9] ?_;refine tB_ 5 [8,9] ?_;refine tB_ 6 [7,8,9] ?_;refine tB_ 7 [8,9] ?_;refine tB_ 8 [9] ?_;refine jV 9 10 rfl rfl K_ (λ_=>C.o b (A_ _ _)) (λK l=>?_) (λK l=>?_)
  .go_simp;apply(st.o _ (A_ b _).drew).mono;rintro e i ⟨n,d,rfl,hd,S,Y,I⟩;refine l _ _ ?_;have sD:=λW a m=>run_store prog W a d m hd.one;have fin:=zy (I i.heap.size (i.alloc (.cells #[I_ n,d] 85)) Y (B_ i #[I_ n,d] 85) (.inl ((A_ _ _).alloc _)));refine t0_ 10 ?_;refine t0_ 11 ?_;refine td_ ?_ _;go_wp2;go_meet;exact⟨_,_,_,rfl,fin⟩
  .go_simp;refine l _ _ ?_;have p:=(A_ b N_).alloc (.cells #[O_,.nilIface] 85);have B3:=B_ b #[O_,.nilIface] 85;refine zh 9 rfl K_ (λ_=>C.o _ p.drew) (λK l=>?_);go_simp;apply(st.o _ p.drew).mono;rintro e i ⟨n,d,rfl,hd,S,Y,I⟩;refine l _ _ ?_;have sD:=λW a m=>run_store prog W a d m hd.one;have l:=S b.heap.size _ l_ (by show b.heap.size<(b.alloc _).heap.size;rw[zm];omega) B3.drew;have fin:=zy (I b.heap.size ((i.setCell ⟨b.heap.size,0,none⟩ (I_ n)).setCell ⟨b.heap.size,1,none⟩ d) l_ ((l.set 0 _).set 1 _) (.inr ⟨⟨_,l⟩,J_ i b.heap.size 0 1 _ _⟩));have k0:=l.c0;have k1:=l.c1;have b:=l.th 0;have b:=l.th 1;refine t0_ 11 ?_;refine td_ ?_ _;go_wp2;go_meet;exact⟨_,_,_,rfl,fin⟩
 case rest=>
  obtain⟨q,n,d,rfl,M⟩:=hcut;have b:=M.o.bq.c0;have b:=M.o.bq.c1;have b:=big.o _ M.o.fr;by_cases h3:n=301
  .have b:(300:Int)<(n:Int):=M_;have fin:H_ (∀V,Fr wc V N_->a6 (.returned (.tuple #[.nilIface,.iface et ex])) V):=zy (λV j=>by
    rw[z.o]
    exact⟨n,M.o.few,M.o.fr.trans j u_,.inr (.inl ⟨h3,rfl⟩)⟩)
   go_wp2;go_quiet (fail);go_wp2;try go_ret
   exact fin.o _ (by first|exact A_ _ _|exact(A_ _ _).si (zq.drewN _ _)|exact(A_ _ _).drew)
  .have e4:=M.o.few.le;have b:¬((300:Int)<(n:Int)):=M_;have hd:=M.o.d1;have fin:H_ (a6 (.returned (.tuple #[d,.nilIface])) wc):=zy (by
    rw[z.o]
    refine⟨n,M.o.few,M.o.fr,?_⟩
    by_cases b:n=0
    .exact .inl ⟨b,by rw[M.o.d0 (.inl b)]⟩
    .obtain⟨x,J,e6,hx,hv⟩:=M.o.dd b M_
     obtain⟨T,v,rfl⟩:=hv.iface
     exact .inr (.inr ⟨M_,M_,T,v,x,J,rfl,e6,hx,hv⟩))
   rcases hd with rfl|⟨b,tx,rfl⟩;all_goals
    go_wp2;try go_ret
    exact fin
def Ff(l:Ao)(b:BA)(h:l.length=1):0<(bts l++b).size:=by
 rw[ah_,yP,h];omega
def WB(n:Int):0<(qi n).size:=by
 by_cases hn:n<0
 .obtain⟨u,hu,rfl⟩:∃u:Nat,1<=u/\n = -(u:Int):=⟨n.natAbs,M_,M_⟩;rw[WU hu];exact Ff _ _ rfl
 .obtain⟨u,rfl⟩:∃u:Nat,n=(u:Int):=⟨n.natAbs,M_⟩;by_cases h:u<10
  .rw[YI h,yP];simp
  .rw[WL h,ah_,yP];simp
def Yf(env:Au)(d:DT)(t:PT):0<(txT env d t).size:=by
 obtain⟨k,n,tx,ks,ds⟩:=d;rw[txT];have hd:=WB n;split
 .rw[yP];simp
 .split
  .split<;>(rw[yP];simp)
  .split
   .exact hd
   .split
    .exact Ff _ _ rfl
    .split
     .exact Ff _ _ rfl
     .split
      .rw[yP];simp
      .split
       .exact Ff _ _ rfl
       .unfold ky;split
        .exact Ff _ _ rfl
        .split<;>exact Ff _ _ rfl
section
variable {w w':Aw} {ew er:Au} {t t':PT} {et:Av} {ex:Ax} {e:Ak} {m:Nat}
def qM.zero(h:qM w ew er t t' et ex e w')(hm:Few ew er t t' 0):e=.returned (.tuple #[.nilIface,.nilIface])/\Fr w w' N_:=by
 obtain⟨m,h1,a,b⟩:=h;have:=h1.uniq hm;rcases b with⟨_,h⟩|⟨h,_⟩|⟨h,_⟩
 .exact⟨h,a⟩
 .omega
 .omega
def qM.big(h:qM w ew er t t' et ex e w')(hm:Few ew er t t' 301):e=.returned (.tuple #[.nilIface,.iface et ex])/\Fr w w' N_:=by
 obtain⟨m,h1,a,b⟩:=h;have:=h1.uniq hm;rcases b with⟨h,_⟩|⟨_,h⟩|⟨_,h,_⟩
 .omega
 .exact⟨h,a⟩
 .omega
def qM.some(h:qM w ew er t t' et ex e w')(hm:Few ew er t t' m)(m1:1<=m)(c:m<=300):∃T v x J,e=.returned (.tuple #[.iface T v,.nilIface])/\Fr w w' N_/\(Un ew er t t' x/\Sh x)/\ndT x<=300/\DaV ew w' J x t (.iface T v):=by
 obtain⟨c,h1,c,d⟩:=h;have:=h1.uniq hm;rcases d with⟨h,_⟩|⟨h,_⟩|⟨_,_,T,v,x,J,h,u,a,b⟩
 .omega
 .omega
 .exact⟨T,v,x,J,h,c,u,a,b⟩
end
def MG{b:BA}(h:b.size≠0):¬b.toList=[]:=λe=>h (by
 rw[ByteArray.toList_eq]at e
 have:=congrArg List.length e
 rw[Array.length_toList]at this
 exact this)
def CkR(sw sr:BA)(ok:Aq)(tx:BA)(k:Int):Prop:=
 ((zu sw).1=0/\(zu sr).1=0/\∃ds t ds' t' m,ze sw=.ok (ds,t)/\ze sr=.ok (ds',t')/\Few (zx ds) (zx ds') t t' m/\((m=0/\ok=true/\tx=⟨#[]⟩/\k=0)\/(m=301/\ok=false/\tx=⟨#[]⟩/\k=7)\/(ok=false/\k=0/\∃x,(Un (zx ds) (zx ds') t t' x/\Sh x)/\ndT x<=300/\tx=txT (zx ds) x t)))\/
 (¬((zu sw).1=0/\(zu sr).1=0)/\ok=false/\tx=⟨#[]⟩/\k=if (zu sw).1=0 then (zu sr).1 else (zu sw).1)
def GG(w:Aw)(sw sr:BA)(e:Ak)(w':Aw):Prop:=
 ∃tx ev k,e=.returned (.tuple #[.string tx,ev])/\Fr w w' N_/\wQ w' ev k/\((ev=.nilIface/\CkR sw sr (tx.size==0) tx k)\/((∃T x,ev=.iface T x)/\CkR sw sr false tx k))
def cwQx1_{p:Prop}(h:p:=by
 (first|(have:=cc1;subst m3)|(subst m0))
 first
  |have:=cc1
   have fin:H_ (∀V,Fr w V N_->POST (.returned (.tuple #[.string ⟨#[]⟩,.iface 411 (.pointer (some (A 5)))])) V):=zy (λV hV=>by
    rw[Q_.o]
    exact⟨_,_,7,rfl,hV,λW hW=>jd ((S.o.fr hV).fr hW) .leaf,.inr ⟨⟨_,_,rfl⟩,hans.o 301 _ _ _ hm (.inr (.inl ⟨rfl,rfl,rfl,rfl⟩))⟩⟩)
  |have fin:H_ (∀V,Fr w V N_->POST (.returned (.tuple #[.string ⟨#[]⟩,.nilIface])) V):=zy (λV hV=>by
    rw[Q_.o]
    exact⟨_,_,0,rfl,hV,gI (S.o.fr hV),.inl ⟨rfl,hans.o 0 _ _ _ hm (.inl ⟨rfl,rfl,rfl,rfl⟩)⟩⟩)
 replace hm:=zy hm;clear Q_ S hans hA;go_in;go_wp2_with (first
  |(go_at_call 15;apply hBo.o.mono;rintro e w1 ⟨sa,sn,sc,rT,rx,sa',sn',sc',rT',rx',rfl,hf1,hC⟩;replace hC:=zy hC;replace hf1:=zy hf1)
  |(go_at_call 16;apply(hC.o _ (((A_ w1 _).alloc _).alloc _)).mono;intro e w2 hu;(first|(have:=cc1;obtain⟨rfl,hf2⟩:=hu.big hm.o)|(obtain⟨rfl,hf2⟩:=hu.zero hm.o));replace hf2:=zy (((hf1.o.alloc _).alloc _).trans hf2 u_);clear hu))
 try go_ret
 exact fin.o _ hf2.o):p:=h
def Qx{w:Aw}(S:xl A w)(i:yM w)(l:yH w)(j:xe w)(hA:jZ w)(p:ql):Calls prog 10 #[.string sw,.string sr] w (GG w sw sr):=by
 refine hq_ λPOST Q_=>?_;have hB:=zy (pR (sw:=sw) (sr:=sr) S i l j);by_cases b:(zu sw).1=0/\(zu sr).1=0
 .obtain⟨h0,h1⟩:=b;obtain⟨_,ds,t,hp⟩:=tP h0;obtain⟨_,ds',t',d⟩:=tP h1;have hBo:H_ (Calls prog 15 #[.string sw,.string sr] w λe w1=>∃sa sn sc rT rx sa' sn' sc' rT' rx',e=.returned (.tuple #[.agg #[.slice sa sn sc,.iface rT rx],.agg #[.slice sa' sn' sc',.iface rT' rx'],.nilIface])/\Fr w w1 N_/\∀V,Fr w1 V N_->Calls prog 16 #[.agg #[.slice sa sn sc,.iface rT rx],.agg #[.slice sa' sn' sc',.iface rT' rx']] V (qM V (zx ds) (zx ds') t t' 411 (.pointer (some (A 5))))):=zy (hB.o.mono (by
   rintro e w1 ⟨sv,rv,sv',rv',u,he,hf,hm⟩
   rcases hm with⟨_,_,rfl,hx,r⟩|⟨hn,_⟩
   .obtain⟨sa,sn,sc,rT,rx,rfl,rfl⟩:=hx.forms
    obtain⟨sa',sn',sc',rT',rx',rfl,rfl⟩:=r.forms
    refine⟨_,_,_,_,_,_,_,_,_,_,he,hf,λV hV=>?_⟩
    obtain⟨a,a,xs,hs,a,hn,hu,D,q,_⟩:=hx
    rw[hp]at a
    cases a
    obtain⟨a,a,xs',hs',a,z,B,c,y,_⟩:=r
    rw[d]at a
    cases a
    have hz:=hV.size
    have a:=hf.size
    exact Zd (w0:=w) (D.fr hV u_) (c.fr hV u_) (q.fr hV u_) (y.fr hV u_) ((yu.refl w).fr (hf.trans hV u_) l_ (λ_ f=>f.elim)) M_ (λg hg=>M_) (λg hg=>M_) hs hs' hp d hn hu z B p ((S.fr (hf.trans hV u_)).var 5 D_)
   .exact absurd ⟨h0,h1⟩ hn))
  have hans:H_ (∀m ok tx k,Few (zx ds) (zx ds') t t' m->((m=0/\ok=true/\tx=⟨#[]⟩/\k=0)\/(m=301/\ok=false/\tx=⟨#[]⟩/\k=7)\/(ok=false/\k=0/\∃x,(Un (zx ds) (zx ds') t t' x/\Sh x)/\ndT x<=300/\tx=txT (zx ds) x t))->CkR sw sr ok tx k):=zy (λm ok tx k hm h=>.inl ⟨h0,h1,ds,t,ds',t',m,hp,d,hm,h⟩);replace S:=zy S;by_cases q:∃m,Few (zx ds) (zx ds') t t' m
  .obtain⟨m,hm⟩:=q;by_cases m0:m=0
   .exact cwQx1_
   .by_cases m3:m=301
    .have cc1:=Nat;exact cwQx1_
    .have y:=hm.le;have fin:H_ (∀V x,(Un (zx ds) (zx ds') t t' x/\Sh x)/\ndT x<=300->Fr w V N_->POST (.returned (.tuple #[.string (txT (zx ds) x t),.nilIface])) V):=zy (λV x a hV=>by
      rw[Q_.o]
      have hp:=Yf (zx ds) x t
      refine⟨_,_,0,rfl,hV,gI (S.o.fr hV),.inl ⟨rfl,?_⟩⟩
      have e:((txT (zx ds) x t).size==0)=false:=xg_
      rw[e]
      exact hans.o m _ _ _ hm (.inr (.inr ⟨rfl,rfl,x,a.1,a.2,rfl⟩)))
     have z:H_ (∀V e w2,qM V (zx ds) (zx ds') t t' 411 (.pointer (some (A 5))) e w2->∃T v x J,e=.returned (.tuple #[.iface T v,.nilIface])/\Fr V w2 N_/\(Un (zx ds) (zx ds') t t' x/\Sh x)/\ndT x<=300/\DaV (zx ds) w2 J x t (.iface T v)):=zy (λV e w2 hu=>hu.some hm M_ M_);have B:H_ (∀V J x v,DaV (zx ds) V J x t v->Fr w V N_->ndT x<=300->Calls prog 17 #[v] V λe w'=>e=.returned (.string (txT (zx ds) x t))/\Fr V w' N_):=zy (λV J x v hv hf hx=>lB (w0:=w) hA hv hf.size ((yu.refl w).fr hf l_ (λ_ f=>f.elim)) M_);go_in;go_wp2_with (first
      |(go_at_call 15;apply hBo.o.mono;rintro e w1 ⟨sa,sn,sc,rT,rx,sa',sn',sc',rT',rx',rfl,hf1,hC⟩;replace hC:=zy hC;replace hf1:=zy hf1)
      |(go_at_call 16;apply(hC.o _ (((A_ w1 _).alloc _).alloc _)).mono;intro e w2 hu;obtain⟨T,v,x,J,rfl,hf2,a,hx,hv⟩:=z.o _ _ _ hu;replace a:=zy (And.intro a hx);have c:=((hf1.o.alloc _).alloc _).trans hf2 u_;have hW:=zy (B.o _ _ _ _ hv c hx);replace c:=zy c)
      |(go_at_call 17;apply hW.o.mono;rintro e d ⟨rfl,d⟩;replace d:=zy (c.o.trans d u_)))
     try go_ret
     exact fin.o _ _ a d
  .have a:H_ (∀V e w2,¬qM V (zx ds) (zx ds') t t' 411 (.pointer (some (A 5))) e w2):=zy (λV e w2 hu=>q ⟨_,hu.choose_spec.1⟩);go_in;go_wp2_with (first
    |(go_at_call 15;apply hBo.o.mono;rintro e w1 ⟨sa,sn,sc,rT,rx,sa',sn',sc',rT',rx',rfl,hf1,hC⟩;replace hC:=zy hC;replace hf1:=zy hf1)
    |(go_at_call 16;apply(hC.o _ (((A_ w1 _).alloc _).alloc _)).mono;intro e w2 hu;exact absurd hu (a.o _ _ _)))
 .have hans:H_ (CkR sw sr false ⟨#[]⟩ (if (zu sw).1=0 then (zu sr).1 else (zu sw).1)):=zy (.inr ⟨b,rfl,rfl,rfl⟩);replace b:=zy b;go_in;go_wp2_with (go_at_call 15;apply hB.o.mono;rintro e w1 ⟨sv,rv,sv',rv',u,rfl,hf1,hm⟩;(rcases hm with⟨h0,h1,_⟩|⟨_,rfl,rfl,rfl,rfl,⟨T,x,rfl⟩,hk⟩;(exact absurd ⟨h0,h1⟩ b));replace hk:=zy hk;replace hf1:=zy hf1);try go_ret
  rw[Q_.o];exact⟨_,_,_,rfl,(hf1.o.alloc _).alloc _,hk.o.fr (((A_ _ _).alloc _).alloc _),.inr ⟨⟨_,_,rfl⟩,hans⟩⟩
def YY{w:Aw}(S:xl A w)(i:yM w)(l:yH w)(j:xe w)(h:jZ w)(p:ql):Calls prog 4 #[.string sw,.string sr] w λe w'=>∃ok tx k,e=.returned (.tuple #[.bool ok,.string tx,Z_ k])/\Fr w w' N_/\CkR sw sr ok tx k:=by
 refine hq_ λf c=>?_;have r:=zy (Qx (sw:=sw) (sr:=sr) S i l j h p);go_in;go_upto_region 2 with(go_at_call 10;apply r.o.mono;rintro e w1 ⟨tx,h,k,rfl,d,h,hw⟩;replace d:=zy d;have hk:=zy (h w1 (A_ _ _));replace hw:=zy hw);rcases hw.o with⟨rfl,a⟩|⟨⟨T,x,rfl⟩,a⟩
 .have fin:H_ (∀b,b=(tx.size==0)->f (.returned (.tuple #[.bool b,.string tx,Z_ k])) w1):=zy (λb hb=>by
   rw[c.o]
   exact⟨_,_,_,rfl,d,by rw[hb];exact a⟩)
  by_cases hz:tx.size=0
  .have u:tx=⟨#[]⟩:=b2_ (by have:tx.data.size=0:=hz;exact Array.eq_empty_of_size_eq_zero this);subst u;go_wp2_with (go_at_call 11;apply hk.o.mono;rintro e q ⟨rfl,rfl⟩);refine bodyPost_ret (v:=.tuple #[.bool true,.string ⟨#[]⟩,Z_ k]) (by simp[results,results4,go_sem]) rfl ?_;exact fin.o _ rfl
  .have u:=MG hz;have y:(tx.size==0)=false:=by rw[beq_eq_false_iff_ne];exact hz
   go_wp2_with (go_at_call 11;apply hk.o.mono;rintro e q ⟨rfl,rfl⟩);refine bodyPost_ret (v:=.tuple #[.bool false,.string tx,Z_ k]) (by simp[results,results4,go_sem,u]) rfl ?_;exact fin.o _ y.symm
 .have fin:H_ (f (.returned (.tuple #[.bool false,.string tx,Z_ k])) w1):=zy (by
   rw[c.o]
   exact⟨_,_,_,rfl,d,a⟩)
  go_wp2_with (go_at_call 11;apply hk.o.mono;rintro e q ⟨rfl,rfl⟩);refine bodyPost_ret (v:=.tuple #[.bool false,.string tx,Z_ k]) (by simp[results,results4,go_sem]) rfl ?_;exact fin
def kH.ptr{w w':Aw}{e:Ak}(h:kH w s e w'):∃pa,e=.returned (.tuple #[.pointer pa,Z_ (zu s).1,Z_ (zu s).2])/\Fr w w' N_:=by
 obtain⟨a,rfl,hf,hz⟩:=h;split at hz
 .obtain⟨_,_,_,_,_,_,_,rfl,_⟩:=hz;exact⟨_,rfl,hf⟩
 .subst hz;exact⟨_,rfl,hf⟩
def rh(sw sr:BA):Int:=if (zu sw).1=0 then (zu sr).1 else (zu sw).1
def YZ{w:Aw}:Calls prog 5 #[.string sw,.string sr] w λe w'=>∃pa pb,e=.returned (.tuple #[.pointer pa,.pointer pb,Z_ (rh sw sr)])/\Fr w w' N_:=by
 refine hq_ λf d=>?_;have c:=zy ((ah (w:=w) (s:=sw)).mono (λe w' h=>h.ptr));have hB:=zy (λV=>(ah (w:=V) (s:=sr)).mono (λe w' h=>h.ptr));have fin:H_ (∀V pa pb,Fr w V N_->f (.returned (.tuple #[.pointer pa,.pointer pb,Z_ (rh sw sr)])) V):=zy (λV pa pb i=>by rw[d.o];exact⟨_,_,rfl,i⟩);unfold rh at fin;by_cases h0:(zu sw).1=0
 .rw[i_ h0]at fin;rw[h0]at c;generalize (zu sr).1=q at *;generalize (zu sr).2=q2 at *;generalize (zu sw).2=q3 at *;go_in;go_upto_region 4 with(go_at_call 12;apply c.o.mono;rintro e w1 ⟨pa,rfl,a⟩;replace a:=zy a);go_wp2_with (go_at_call 12;apply(hB.o _).mono;rintro e d ⟨pb,rfl,d⟩;have b:=zy (fin.o _ pa pb (a.o.trans d u_)));refine bodyPost_ret (v:=.tuple #[.pointer pa,.pointer pb,Z_ q]) (by simp[results,results5,go_sem]) rfl ?_;exact b
 .rw[n_ h0]at fin;have d:((zu sw).1==0)=false:=by simp;exact h0
  generalize (zu sw).1=q at *;generalize (zu sw).2=q2 at *;go_in;go_wp2_with (go_at_call 12;apply c.o.mono;rintro e w1 ⟨pa,rfl,a⟩;have b:=zy (fin.o _ none none a));refine bodyPost_ret (v:=.tuple #[.pointer none,.pointer none,Z_ q]) (by simp[results,results5,go_sem]) rfl ?_;exact b
def ZX{ds':Ar}{t t':PT}{x:DT}(h0:(zu sw).1=0)(hp:ze sw=.ok (ds,t))(hu:Un (zx ds) (zx ds') t t' x/\Sh x)(hn:ndT x<=300):(txT (zx ds) x t).size<=4000/\ym (zx ds) false t (txT (zx ds) x t)=some x/\(byT x).size<=4000/\rdB (byT x) (zx ds) 301 t 0 0=.ok (x,(byT x).size,0+ndT x)/\Dat (zx ds) x t/\mkP (zx ds) (zx ds') (xD (zx ds') sr) 300 t t' x=none:=by
 obtain⟨a,_,b⟩:=Xq h0 hp;have hd:=Un.dat hu.1;obtain⟨d,f⟩:=hu.2.size hn (zx ds) t;have hw:=BI b (byT x) 301 x t 0 0 hd ⟨M_,λk _=>by rw[be_]⟩ M_ M_;rw[be_]at hw;exact⟨d,hu.2.read a hd,f,hw,hd,af (λc fs g _ _ h=>by unfold xD;rw[h]) hu.1 300⟩
def nU{w:Aw}(K:Kit A w)(z:ql):Calls prog 3 #[.string sw,.string sr] w λe w'=>e=.returned (.bool true)/\Fr w w' N_:=by
 refine hq_ λy v=>?_;have fin:H_ (∀V,Fr w V N_->y (.returned (.bool true)) V):=zy (λV B=>by rw[v.o];exact⟨rfl,B⟩);have d:=zy (λW (i:Fr w W N_)=>K.fr i);have hB:=zy (λV=>YZ (w:=V) (sw:=sw) (sr:=sr));obtain⟨S,l,p,hP,y⟩:=K;have j:=zy (YY (sw:=sw) (sr:=sr) S l p hP y z);go_in;go_upto_region 2 with(go_at_call 4;apply j.o.mono;rintro e w1 ⟨ok,tx,k,rfl,f,c⟩;replace f:=zy f;replace c:=zy c);rcases c.o with⟨h0,h1,ds,t,ds',t',m,hp,r,F,hw⟩|⟨E,rfl,rfl,hk⟩
 .have u:rh sw sr=0:=by unfold rh;rw[i_ h0,h1]
  rw[u]at hB;rcases hw with⟨rfl,rfl,rfl,rfl⟩|⟨rfl,rfl,rfl,rfl⟩|⟨rfl,rfl,x,H,q,rfl⟩;case inr.inr=>
   obtain⟨v,y,z,B,C,D⟩:=ZX (sr:=sr) h0 hp H q;have J:=zy (λW (i:Fr w W N_)=>(by
    obtain⟨S,l,p,hP,_⟩:=d.o W i
    exact ot S l p hP h0 hp v y q:Calls prog 7 #[.string sw,.string (txT (zx ds) x t)] W λe w'=>e=.returned (.tuple #[.string (byT x),O_])/\Fr W w' N_))
   have G:=zy (λW (i:Fr w W N_)=>iV (eO (d.o W i) h0 h1 hp r z B C q D));have i:(((byT x).size:Int)<=4000):=M_;rw[KN]at G;generalize txT (zx ds) x t=tx at *;generalize byT x=b at *;go_wp2_with (first
    |(go_at_call 5;apply(hB.o _).mono;rintro e I ⟨pa,pb,rfl,a⟩;replace a:=zy (f.o.trans a u_))
    |(go_at_call 7;apply(J.o _ a).mono;rintro e i ⟨rfl,f3⟩;replace f3:=zy (a.o.trans f3 u_))
    |(go_at_call 8;apply(G.o _ f3).mono;rintro e i ⟨rfl,f4⟩;have h:=zy (fin.o _ (f3.o.trans f4 u_)))
    |go_in)
   exact h
  all_goals
   go_wp2_with (first
    |(go_at_call 5;apply(hB.o _).mono;rintro e I ⟨pa,pb,rfl,a⟩;have h:=zy (fin.o _ (f.o.trans a u_)))
    |go_in)
   exact h
 .have l:k=rh sw sr:=hk;rw[<- l]at hB;have i:k≠0:=by
   rw[hk];by_cases h0:(zu sw).1=0
   .rw[i_ h0];exact λh1=>E ⟨h0,h1⟩
   .rw[n_ h0];exact h0
  have p:(k==k)=true:=x6_
  have p:(k==0)=false:=by simp;exact i
  go_wp2_with (first
   |(go_at_call 5;apply(hB.o _).mono;rintro e I ⟨pa,pb,rfl,a⟩;have qq:=zy (fin.o _ (f.o.trans a u_)))
   |go_in)
  all_goals exact qq
def Xr(P:Ey)(W:Aw)(ps:List MemPlace):Prop:=∀b off,MemPlace.cell b off∈ps->
 (∃c t,W.heap[b]?=some (.cells c t (0,0)))/\∀u v,W.cell? ⟨b,off,none⟩=some (.iface u v)->Value.okWide P W .any 0 u v
def Wa(nm:String)(text:De):DataW Unit:=.iface nm (.ptr (.agg [.lit (.string text)]))
structure uu(P:Ey)(nm:String)(ti tp:Av):Prop where
 all:∃te ts ms f,P.underlying ti=some (.interface ms)/\(∀u,P.typeName? 3 u=some nm->u=tp)/\P.underlying tp=some (.pointer te)/\P.underlying te=some (.struct #[f])/\f.type=ts/\f.offset=0/\P.underlying ts=some .string/\P.cellsOf te=1/\P.cellsOf ts=1
def ku{W:Aw}{r:List (String×DataW Unit)}{b:List MemPlace}(T:uu P nm ti tp)(h:DataW.LaidVars P W ((n,Wa nm text)::r) b)(k:Xr P W b)(hg:P.globalNamed n=some g)(B:(P.globals[g]?).map (·.type)=some ti):∃a q,W.var? P n=some #[.iface tp (.pointer (some a))]/\DataW.LaidVars P W r q/\b=[.cell g 0,.cell a.block a.off]++q:=by
 obtain⟨te,ts,ms,f,hi,z,hp,he,x,p,hs,hc,l⟩:=T.all;obtain⟨b,b,cs0,b,b,D,d,b,i,o,y,c⟩:=h;obtain rfl:=Option.some.inj (hg.symm.trans d);obtain rfl:=Option.some.inj (B.symm.trans b);obtain⟨b⟩:=cs0;have C:∀u v,b=[.iface u v]->Value.okWide P W .any 0 u v:=λu v e=>by
  subst e;exact(k g 0 (by rw[c];simp[MemPlace.row])).2 u v (by simpa using World.var?_cell d i 0)
 obtain⟨j,b,rfl,b,b,b,b⟩:=errorString_of_trod hi z hp he x p hs hc l o C;refine⟨j,D,i,y,?_⟩;rw[c,b];simp[MemPlace.row]
def bG{W:Aw}(T:uu P nm ti tp)(hg:P.globalNamed n=some g)(c:(P.globals[g]?).map (·.type)=some ti):∀{l:List (String×DataW Unit)} {ps:List MemPlace},DataW.LaidVars P W l ps->Xr P W ps->(n,Wa nm text)∈l->
  ∃a,W.var? P n=some #[.iface tp (.pointer (some a))]/\.cell a.block a.off∈ps
 | [],_,_,_,hm=>by cases hm
 |(n',d')::r,ps,h,hR,hm=>by
  rcases aq_.1 hm with e|hm
  .cases e;obtain⟨a,q,hv,_,rfl⟩:=ku T h hR hg c;exact⟨a,hv,by simp⟩
  .obtain⟨d,d,cs0,d,d,d,_,_,_,_,f,rfl⟩:=h;obtain⟨a,hv,d⟩:=bG T hg c f (λb off hb=>hR b off zs_) hm;exact⟨a,hv,by simp[d]⟩
def mB{W:Aw}(T:uu P nm ti tp){m:String}(z:n≠m){B:De}{g':Nat}(hg:P.globalNamed n=some g)(v:(P.globals[g]?).map (·.type)=some ti)(p:P.globalNamed m=some g')(y:(P.globals[g']?).map (·.type)=some ti){a a':Addr}(ha:W.var? P n=some #[.iface tp (.pointer (some a))])(o:W.var? P m=some #[.iface tp (.pointer (some a'))]):∀{l:List (String×DataW Unit)} {ps:List MemPlace},DataW.LaidVars P W l ps->Xr P W ps->ps.Nodup->(n,Wa nm text)∈l->(m,Wa nm B)∈l->a≠a'
 | [],_,_,_,_,hm,_=>by cases hm
 |(n',d')::r,ps,h,hR,hn,hm,c=>by
  rcases aq_.1 hm with e|hr
  .cases e;rcases aq_.1 c with e'|c
   .cases e';exact absurd rfl z
   .obtain⟨b,q,hv,d,rfl⟩:=ku T h hR hg v;obtain⟨i,f,u⟩:=bG T p y d (λx off hb=>hR x off zs_) c;rw[ha]at hv;rw[o]at f;have j:a=b:=by simpa using hv
    have k:a'=i:=by simpa using f
    subst j;subst k;rintro rfl;simp[u]at hn
  .rcases aq_.1 c with e'|c
   .cases e';obtain⟨b,q,hv,d,rfl⟩:=ku T h hR p y;obtain⟨i,f,u⟩:=bG T hg v d (λx off hb=>hR x off zs_) hr;rw[o]at hv;rw[ha]at f;have j:a'=b:=by simpa using hv
    have k:a=i:=by simpa using f
    subst j;subst k;rintro rfl;simp[u]at hn
   .obtain⟨f,f,cs0,f,f,f,_,_,_,_,d,rfl⟩:=h;exact mB T z hg v p y ha o d (λb off hb=>hR b off zs_) (List.Nodup.sublist (List.sublist_append_right _ _) hn) hr c
open Go.ChangeShapes Go.WideShapes Go.ChangeAt
def zD:List (String×DataW Unit):=Rows.refusedRow.laid
def ry:(zD.filter λx=>x.2.handleName?.isNone)=zD:=K_
def bW:(zD.filter λx=>x.2.handleName?.isSome)=[]:=K_
def iY(os:Os):((World.holding prog os ⟨#[],#[],[]⟩).layVars prog zD).os=os:=World.layVars_os _ _ _
def rj(os:Os):(World.holding prog os ⟨#[],#[],[]⟩).layFits prog zD []=true:=by kernel_rfl
def uS(os:Os):(World.holding prog os ⟨#[],#[],[]⟩).layIfaces prog zD ((World.holding prog os ⟨#[],#[],[]⟩).layVars prog zD)=true:=by kernel_rfl
def dA(os:Os)(b:Dy):laidMetH prog zD (((World.holding prog os ⟨#[],#[],[]⟩).layVars prog zD).forCall (λ_ _=>0) ⟨#[],b,[]⟩).memory:=by
 have a:(zD.filter λx=>(zD.map (·.1)).contains x.1)=zD:=List.filter_eq_self.2 λx hx=>List.contains_iff_mem.2 (a7_.2 ⟨x,hx,rfl⟩);have c:(zD.filter λx=>!(zD.map (·.1)).contains x.1)=[]:=List.filter_eq_nil_iff.2 λx hx=>by rw[List.contains_iff_mem.2 (a7_.2 ⟨x,hx,rfl⟩)];simp
 have h:laidMet prog zD ((World.holding prog os ⟨#[],#[],[]⟩).layVars prog zD):=laidMet_layVars (w0:=World.holding prog os ⟨#[],#[],[]⟩) (zD.map (·.1)) [] (by rw[a]) (by rw[a];exact rj os) (by rw[a];exact uS os) (by rw[c];exact LaidIn.none);refine laidMetH_of_parts ?_ ?_
 .rw[ry];exact h.of_heap (by simp[World.memory,World.forCall,Input.heap])
 .rw[bW];rfl
def uN(os:Os)(a:Dy):(((World.holding prog os ⟨#[],#[],[]⟩).layVars prog zD).forCall (λ_ _=>0) ⟨#[],a,[]⟩).Shaped prog:=World.shaped_of_ZipB K_ K_
def eD: "*" ++ "errors.errorString" = "*errors.errorString":=D_
def FT(u:Av)(h:Tryz.prog.typeName? 3 u=some "*errors.errorString"):u=411:=
 typeName_ptr_named (nm:= "errors.errorString") (by rw[eD];kernel_rfl) K_ D_ u (by rw[eD];exact h)
def oM:uu prog "*errors.errorString" 36 411:=
 ⟨⟨_,_,_,_,underlying36,FT,underlying411,underlying413,rfl,rfl,underlying9,K_,K_⟩⟩
def xc:List (Nat×String×Nat):=[(7,"kin/schemas.ErrLong",9),(0,"kin/schemas.ErrGrammar",10),(1,"kin/schemas.ErrName",11),(2,"kin/schemas.ErrUnion",12),(3,"kin/notation.ErrNotOf",8),(4,"kin/wire.ErrData",14),(5,"kin/data.ErrBig",6),(6,"kin/reading.ErrNothing",15),(8,"kin/notation.ErrLong",7),(9,"kin/wire.ErrLong",13),(15,"strconv.ErrRange",4),(14,"strconv.ErrSyntax",5)]
def jP:∀x∈xc,Tryz.prog.globalNamed x.2.1=some x.1:=by
 intro x hx;simp only[xc,aq_,List.mem_nil_iff,or_false]at hx;rcases hx with rfl|rfl|rfl|rfl|rfl|rfl|rfl|rfl|rfl|rfl|rfl|rfl<;>kernel_rfl
def py:∀x∈xc,(Tryz.prog.globals[x.1]?).map (·.type)=some 36:=by
 intro x hx;simp only[xc,aq_,List.mem_nil_iff,or_false]at hx;rcases hx with rfl|rfl|rfl|rfl|rfl|rfl|rfl|rfl|rfl|rfl|rfl|rfl<;>kernel_rfl
def px:∀x∈xc,∃text,(x.2.1,Wa "*errors.errorString" text)∈zD:=by
 intro x hx;simp only[xc,aq_,List.mem_nil_iff,or_false]at hx;rcases hx with rfl|rfl|rfl|rfl|rfl|rfl|rfl|rfl|rfl|rfl|rfl|rfl<;>first
  |exact⟨_,ai_ (i:=4) rfl⟩|exact⟨_,ai_ (i:=5) rfl⟩|exact⟨_,ai_ (i:=6) rfl⟩|exact⟨_,ai_ (i:=7) rfl⟩|exact⟨_,ai_ (i:=8) rfl⟩|exact⟨_,ai_ (i:=9) rfl⟩|exact⟨_,ai_ (i:=10) rfl⟩|exact⟨_,ai_ (i:=11) rfl⟩|exact⟨_,ai_ (i:=12) rfl⟩|exact⟨_,ai_ (i:=13) rfl⟩|exact⟨_,ai_ (i:=14) rfl⟩|exact⟨_,ai_ (i:=15) rfl⟩
def iT:∀x∈xc,∀y∈xc,x.1=y.1->x.2.1=y.2.1:=D_
section
variable {W:Aw}
def iD(h:laidMet prog zD W):∃A:Nat->Addr,(∀x∈xc,W.var? prog x.2.1=some #[.iface 411 (.pointer (some (A x.1)))])/\(∀x∈xc,∃c t,W.heap[(A x.1).block]?=some (.cells c t (0,0)))/\
 ∀x∈xc,∀y∈xc,x.1≠y.1->A x.1≠A y.1:=by
 obtain⟨f,hv,j,d⟩:=h;have i:∀x∈xc,∃a,W.var? prog x.2.1=some #[.iface 411 (.pointer (some a))]/\.cell a.block a.off∈f:=λx hx=>by
  obtain⟨text,hm⟩:=px x hx;exact bG oM (jP x hx) (py x hx) hv d hm
 have b:∀g:Nat,∃a:Addr,∀x∈xc,x.1=g->W.var? prog x.2.1=some #[.iface 411 (.pointer (some a))]/\.cell a.block a.off∈f:=λg=>by
  by_cases hg:∃x∈xc,x.1=g
  .obtain⟨x,hx,rfl⟩:=hg;obtain⟨a,ha⟩:=i x hx;refine⟨a,λy hy e=>?_⟩;have:y.2.1=x.2.1:=iT y hy x hx e;rw[this];exact ha
  .exact⟨⟨0,0,none⟩,λx hx e=>absurd ⟨x,hx,e⟩ hg⟩
 refine⟨λg=>Classical.choose (b g),λx hx=>(Classical.choose_spec (b x.1) x hx rfl).1,λx hx=>(d _ _ (Classical.choose_spec (b x.1) x hx rfl).2).1,λx hx y hy k=>?_⟩;obtain⟨f,f⟩:=px x hx;obtain⟨i,i⟩:=px y hy;refine mB oM (λe=>k ?_) (jP x hx) (py x hx) (jP y hy) (py y hy) (Classical.choose_spec (b x.1) x hx rfl).1 (Classical.choose_spec (b y.1) y hy rfl).1 hv d j f i;have h1:=jP x hx;rw[e,jP y hy]at h1;exact(Option.some.inj h1).symm
def fK(h:laidMet prog zD W):Lib.TabIs prog W "internal/strconv.uint64pow10" .u64 Lib.pow10Tab:=by
 have e:(Rows.laid_internal_strconv_uint64pow10:DataW Unit)=Lib.tabData .u64 Lib.pow10Tab:=K_
 have a:laidMet prog (("internal/strconv.uint64pow10",Rows.laid_internal_strconv_uint64pow10)::zD.drop 3) W:=h.tail.tail
 rw[e]at a;exact Lib.tabIs_of_head (g:=10) (t:=385) (e:=272) (n:=20) K_ K_ K_ K_ K_ K_ a
def sX(h:laidMet prog zD W):Lib.Utf8Tabs 16 17 W:=by
 have e:Rows.laid_unicode_utf8_acceptRanges=Lib.acceptData:=K_
 have h1:=Lib.laidMet.reads h (n:= "unicode/utf8.first") (d:=Pinned.utf8First) (ai_ (i:=21) rfl)
 have a:=Lib.laidMet.reads h (n:= "unicode/utf8.acceptRanges") (d:=Rows.laid_unicode_utf8_acceptRanges) (ai_ (i:=3) rfl)
 rw[Pinned.utf8First_eq]at h1;rw[e]at a;exact utf8Tabs_of_reads (ρ:=Tryz.lays177_ren) { Tryz.lays177 with } ⟨K_,K_,K_,K_,K_,K_,K_⟩ h1 a
def dF(h:laidMet prog zD W):Lib.PrintTabsAt 18 19 20 21 Lib.goPrintTabs W:=by
 have h1:=Lib.laidMet.reads h (n:= "strconv.isPrint16") (d:=Pinned.isPrint16) (ai_ (i:=19) rfl)
 have a:=Lib.laidMet.reads h (n:= "strconv.isNotPrint16") (d:=Pinned.isNotPrint16) (ai_ (i:=17) rfl)
 have b:=Lib.laidMet.reads h (n:= "strconv.isPrint32") (d:=Pinned.isPrint32) (ai_ (i:=20) rfl)
 have c:=Lib.laidMet.reads h (n:= "strconv.isNotPrint32") (d:=Pinned.isNotPrint32) (ai_ (i:=18) rfl)
 rw[Pinned.isPrint16_eq]at h1;rw[Pinned.isNotPrint16_eq]at a;rw[Pinned.isPrint32_eq]at b;rw[Pinned.isNotPrint32_eq]at c;exact printTabs_of_reads (ρ:=Tryz.lays177_ren) { Tryz.lays177 with } ⟨K_,K_,K_,K_,K_,K_,K_,K_,K_,K_⟩ h1 a b c
def Yn(h:laidMetH prog zD W):laidMet prog zD W:=by
 unfold laidMetH at h;rw[ry,bW]at h;exact h
def QB{v:Ax}(hg:Tryz.prog.globalNamed n=some g)(h:W.var? prog n=some #[v]):W.cell? ⟨g,0,none⟩=some v:=by simpa using World.var?_cell hg h 0
end
def Tryz.own:ownKnob Tryz.prog.godebug=none:=K_
def qD:∀g∈pH,∃x∈xc,x.1=g:=D_
def Ys{W:Aw}(h:laidMetH prog zD W):∃A,xl A W/\yM W/\yH W/\xe W/\Lib.TabIs prog W "internal/strconv.uint64pow10" .u64 Lib.pow10Tab:=by
 have a:=Yn h;obtain⟨A,hv,hr,c⟩:=iD a;have S:xl A W:=by
  refine⟨λg hg=>?_,λg hg=>?_,λg hg g' b e=>?_⟩
  .obtain⟨x,hx,rfl⟩:=qD g hg;exact QB (jP x hx) (hv x hx)
  .obtain⟨x,hx,rfl⟩:=qD g hg;exact hr x hx
  .obtain⟨x,hx,rfl⟩:=qD g hg;obtain⟨y,hy,rfl⟩:=qD g' b;exact c x hx y hy e
 have h1:=hv (14,"strconv.ErrSyntax",5) D_
 have b:=hv (15,"strconv.ErrRange",4) D_
 exact⟨A,S,FL (fK a),Kn (dF a) (sX a),ar h1 b,fK a⟩
def Fr.kept{W W':Aw}(h:Fr W W' N_):Below W.heap.size W W':=⟨h.os,h.tape,h.output,h.size,λk hk=>h.block k hk id⟩
open Go.ChangeMaps (open_string shut_string)
def BT:∀n,n<10->∀k,k<n->97<=bt ⟨(Lib.repeatL [97] n).toArray⟩ k/\bt ⟨(Lib.repeatL [97] n).toArray⟩ k<=122:=D_
def BD:ql:=λW n hn=>by
 apply(Tryz.strings_Repeat ⟨#[97]⟩ n W M_ (by show 1*n<=_;omega)).mono;rintro e w' ⟨rfl,hb⟩;have hz:(⟨(Lib.repeatL [97] n).toArray⟩:BA).size=n:=by
  show(Lib.repeatL [97] n).toArray.size=n;rw[List.size_toArray,Lib.repeatL_length];simp
 exact⟨_,rfl,Fr.ofBelow hb,hz,λk hk=>BT n M_ k (by have e:k<(⟨(Lib.repeatL [97] n).toArray⟩:BA).size:=hk;rw[hz]at e;exact e)⟩
def tn{W:Aw}(s d:BA)(h:laidMetH prog Rows.refusedRow.laid W):Calls prog 3 #[.string s,.string d] W λe w'=>e=.returned (.bool true)/\Fr W w' N_:=by
 obtain⟨A,S,a,b,hP,c⟩:=Ys h;exact nU ⟨S,a,b,hP,Qb c⟩ BD
def ri(os:Os)(u:os.Started)(k:Type)(enc:TypeId×Value->k):ReturnsInHanded {} Tryz.checked os 3 .any (λw a=>(Rows.refusedSpec.pre enc prog Tryz.f3 [] false w a/\laidMetH prog Rows.refusedRow.laid w)/\sizedMet enc prog Tryz.f3 (OpenSpec.ofChange Rows.refusedSpec) false w a)
  (Rows.refusedSpec.post enc prog Tryz.f3 false true false false):=by
 refine returnsInHanded_of_change_and (C:=Tryz.checked) (X:=λw _=>laidMetH prog Rows.refusedRow.laid w) (λ_ _ _ k h=>laidMetH.of_heap k h) Tryz.own u K_ func3
  (ChangeSpec.witness_shaped (enc:=enc) (C:=Tryz.checked) (os:=os) (X:=λw _=>laidMetH prog Rows.refusedRow.laid w) false ((World.holding prog os ⟨#[],#[],[]⟩).layVars prog zD) #[.string ⟨#[]⟩,.string ⟨#[]⟩] 8 (iY os)
   (uN os _) K_ K_ K_ (dA os _)) ?_
 intro W base a ds k k k f _ _ o _;have b:∀(j:Nat) t v,Tryz.f3.params[j]?=some t->a[j]?=some v->Value.okWide prog W .any base t v:=k;have i:=f;obtain⟨p,q,l,r,rfl,_,_⟩:=f;have c:DataW.TrodAll enc prog W 0 (λ_=>true) true Tryz.f3.params.toList a.toList ds p:=l;rw[Tryz.params3]at c b;obtain⟨x,y,d0,d1,a,a,rfl,rfl,rfl,h0,h1⟩:=trodAll_two c;obtain⟨rfl,rfl⟩:=trodVars_none r;obtain⟨s,rfl,rfl,rfl,ws⟩:=open_string underlying9 (b 0 9 x rfl rfl) h0;obtain⟨d,rfl,rfl,rfl,z⟩:=open_string underlying9 (b 1 9 y rfl rfl) h1;simp only[bg_]at i;refine(tn s d o).mono λe W' ⟨he,hf⟩=>?_;subst he;exact⟨_,rfl,_,_,_,[],[],[],i,trodAll_mk1 (shut_bool underlying4 _),trodAll_mk2 (shut_string underlying9 ws) (shut_string underlying9 z),rfl,hf.kept.frame _,λh=>by cases h⟩
def rV:joinedFacts prog 3 Tryz.f3 Rows.refusedSpec Rows.refusedRow=true:=by
 unfold joinedFacts;simp only[a3_]
 repeat' apply And.intro
 all_goals (as_aux_lemma=>kernel_rfl)
def rS:Tryz.prog.funcNamed Rows.refusedRow.func=some 3:=K_
def tD:Tryz.f3.isInstance prog Rows.refusedRow.origin Rows.refusedRow.targs:=of_decide_eq_true K_
def th:Tryz.f3.isWrapper prog Rows.refusedRow.wrapper Rows.refusedRow.mainSum:=by unfold Func.isWrapper;rw[n_ (of_decide_eq_false K_)];exact⟨rfl,rfl⟩
def dJ:Rows.RefusedSaid:=
 OpenClaim.holds_of_wide 3 Tryz.f3 rfl rfl rfl rfl rfl rfl rfl ⟨rfl,rfl,rfl,rfl,rfl⟩ rfl rfl rfl rfl rfl rS func3 rV tD th
  (λos c a b _=>ri os c a b)
open Go
theorem refused_card:Rows.RefusedCardSaid:=
 Claim7.holds_tied_plain_at .later [] Rows.refusedCard.laidKinds true Rows.refusedCard.stood.harness true
  dJ (λ_ h=>by cases h) K_ (λ_ h=>by cases h) refused_row_tie rfl ⟨rfl,rfl⟩ K_ rfl
  (λf a hf c=>by
   obtain rfl:f=3:=Option.some.inj ((show Tryz.prog.funcNamed "kin/kinlaw.Refused" = some 3 by kernel_rfl).symm.trans hf) |>.symm
   obtain rfl:a=Tryz.f3:=(Option.some.inj (func3.symm.trans c)).symm
   exact⟨K_,λj t a=>by
    rw[Tryz.params3]at a
    have b:t=9:=by
     rcases j with _|_|j
     .simpa using a.symm
     .simpa using a.symm
     .simp at a
    subst b
    exact(show Tryz.prog.wantsStandIn 9=false by kernel_rfl)⟩)
  K_
end Go.Proofs.YtokgeopihcopeaaGreatDoor
