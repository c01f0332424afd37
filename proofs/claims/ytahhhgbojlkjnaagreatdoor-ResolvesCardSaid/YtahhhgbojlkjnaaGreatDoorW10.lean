import Derived.Test.YtahhhgbojlkjnaaGreatDoorW09
set_option maxHeartbeats 16000000
set_option maxRecDepth 100000
set_option linter.defProp false
set_option linter.unusedSimpArgs false
open Go.Proofs.Tryz
namespace Go.Proofs.YtahhhgbojlkjnaaGreatDoor
open Go.RowKit
variable {i f p:Nat}{t:PT}
section
variable {w W W':Aw} {P:Au} {bd:Nat} {s:BA} {bz j m b0:Nat} {er:Int} {ts:Aq} {env:Ay} {k:Nat} {n:Int} {tx:BA} {vk vs:Ax} {d:DT} {r:Except Nat (DT×Nat×Nat)}
def qN(M:XBM w P bd s bz j m 0 ts env W)(hm:m<=300)(hb:w.heap.size<=b0)(o:zF W (λg=>b0<g) d (zq k n tx vk vs))(h1:∃a m c,vk=.slice a m c)(l:∃a m c,vs=.slice a m c)(h:Fr W W' (λg=>g=b0))(hr:r=.ok (d,j,m)):ve w bd s bz r (.returned (.agg (zq k n tx vk vs).toArray)) W':=by
 have b:=M.own (h.mono (λ_ _ e=>M_));have q:=(o.fr h (λg hg=>M_)).mono (Q:=λg=>w.heap.size<=g) (λg _ hg=>M_);refine⟨k,n,tx,vk,vs,rfl,h1,l,b.fr,?_⟩;subst hr;exact⟨M.jl,hm,b.L,q⟩
def vL{e0:Nat}(h0:e0≠0)(M:XBM w P bd s bz j m (e0:Int) ts env W)(hm:m<=301)(hb:w.heap.size<=b0)(h1:∃a m c,vk=.slice a m c)(h:∃a m c,vs=.slice a m c)(l:Fr W W' (λg=>g=b0))(hr:r=.error e0):ve w bd s bz r (.returned (.agg (zq k n tx vk vs).toArray)) W':=by
 have b:=M.own (l.mono (λ_ _ e=>M_));refine⟨k,n,tx,vk,vs,rfl,h1,h,b.fr,?_⟩;subst hr;exact⟨h0,j,m,M.jl,hm,b.L⟩
end
def aY{w:Aw}{P:Au}{bd:Nat}{s:BA}{bz n:Nat}{er:Int}{ts:Aq}{env:Ay}(M:XBM w P bd s bz i n er ts env w)(cx:Ci)(ct:As)(c:Nat):BL w P bd s bz i n er ts env cx.toList ct (w.heap.size+1) (w.heap.size+2) (w.heap.size+3) c (L_) (L_) [] 0 [] (((w.alloc (.cells cx ct)).alloc (.cells zf.toArray 32)).alloc (.cells (zq c 0 noB (L_) (L_)).toArray 32)):=by
 refine⟨((M.alloc _).alloc _).alloc _,M_,by simp,((B_ w _ _).alloc _).alloc _,?_,?_,World.ownsRow_nil _ _ _ _,World.ownsRow_nil _ _ _ _,λg hg=>by simp[Value.ownBlock]at hg⟩
 .have:=(B_ (w.alloc (.cells cx ct)) zf.toArray 32).alloc (.cells (zq c 0 noB (L_) (L_)).toArray 32);have e:(w.alloc (.cells cx ct)).heap.size=w.heap.size+1:=x8_
  rw[e]at this;exact this
 .have:=B_ ((w.alloc (.cells cx ct)).alloc (.cells zf.toArray 32)) (zq c 0 noB (L_) (L_)).toArray 32;have e:((w.alloc (.cells cx ct)).alloc (.cells zf.toArray 32)).heap.size=w.heap.size+2:=x8_
  rw[e]at this;exact this
def kG(acc:Ae):Except Nat (List (BA×DT)×Nat×Nat)->Except Nat (List (BA×DT)×Nat×Nat)
 | .error e=>.error e
 | .ok (l,j,m)=>.ok (acc++l,j,m)
def pJ(x:Except Nat (List (BA×DT)×Nat×Nat)):kG [] x=x:=by
 cases x with
 |error e=>rfl
 |ok q=>obtain⟨l,j,m⟩:=q;rfl
def mV(R:Nat->Nat->Except Nat (DT×Nat×Nat))(s:BA)(keyed:Ap)(c:Nat)(acc:Ae)(k:BA)(j m:Nat):Except Nat (List (BA×DT)×Nat×Nat):=
 match R j m with
 | .error e=>.error e
 | .ok (d,j',m')=>kG (acc++[(k,d)]) (yS R s keyed c (some k) j' m')
def gI(R:Nat->Nat->Except Nat (DT×Nat×Nat))(s:BA)(keyed:Ap)(c:Nat)(acc:Ae)(b:Dw)(j m:Nat):kG acc (yS R s keyed (c+1) b j m) =
 match jW s keyed b j with
 |none=>.error 6
 |some (k,a)=>mV R s keyed c acc k a m:=by
 rw[yS];cases jW s keyed b j with
 |none=>rfl
 |some q=>
  obtain⟨k,a⟩:=q;simp only[mV];cases R a m with
  |error e=>rfl
  |ok q=>
   obtain⟨d,j',a⟩:=q;simp only;cases yS R s keyed c (some k) j' a with
   |error e=>rfl
   |ok q=>
    obtain⟨l,a,a⟩:=q;simp[kG]
def Gb(c:Nat):Except Nat (List (BA×DT)×Nat×Nat)->Except Nat (DT×Nat×Nat)
 | .error e=>.error e
 | .ok (l,j,m)=>.ok (.mk c 0 noB (jz (c==123) l) (l.map Prod.snd),j,m)
def rl(R:Nat->Nat->Except Nat (DT×Nat×Nat))(s:BA)(c i n:Nat):qi R s c i n=match vA s i with|none=>.error 6|some (q,j)=>Gb c (yS R s (c==123) q.toNat none j n):=by
 unfold qi;cases vA s i with
 |none=>rfl
 |some q=>
  obtain⟨v,j⟩:=q;simp only;cases yS R s (c==123) v.toNat none j n with
  |error e=>rfl
  |ok q=>rfl
def BZ(R_:Except Nat (List (BA×DT)×Nat×Nat))(R:Nat->Nat->Except Nat (DT×Nat×Nat))(cnt:Nat)(w:Aw)(P:Au)(bd:Nat)(s:BA)(bz n:Nat)(ts:Aq)(env:Ay)(cx:Az)(c:Nat)(q:Nat)(v7:Ax)(W:Aw):Prop:=
 ∃(kk:Nat) (vk vs:Value) (ks:List BA) (xs:List Value),v7=I_ kk/\kk<=301/\ks.length<=5000/\
  ((∃acc j nn,kk=acc.length/\kk<=cnt/\n+kk<=nn/\nn<=300/\302<=q+nn/\H_ (BL w P bd s bz j nn 0 ts env cx 57 (w.heap.size+1) (w.heap.size+2) (w.heap.size+3) c vk vs ks kk xs W/\Dts W (w.heap.size+3) vk vs (acc.map Prod.snd) kk xs)/\ks=jz (c==123) acc/\R_=kG acc (yS R s (c==123) (cnt-kk) (vi acc) j nn))\/
   (∃j nn nr,∃e0:Nat,H_ (BL w P bd s bz j nn (e0:Int) ts env cx 57 (w.heap.size+1) (w.heap.size+2) (w.heap.size+3) c vk vs ks nr xs W)/\nn<=301/\e0≠0/\R_=.error e0))
def cwYw1_{p:Prop}(h:p:=by
 have Q:=hQ.o;(first|(have:=cc1)|(obtain⟨ka,kc,rfl⟩:=zh Q.kr));obtain⟨sa,sc,rfl⟩:=zh Q.vr;have c2:=Q.M.L.c2;have a:((e0:Int)==0)=false:=x4_
 (try have:=cc1;have x1:=X1.o _ _ _ _ _ _ _ Q)
 obtain⟨r0,r1,r2,r3,r4⟩:=Q.r0.f5;obtain⟨t0,t1,t2,t3,t4⟩:=Q.r1.f5;obtain⟨g0,g1,g2,g3,g4⟩:=Q.r0.t5;simp only[zf,zq,aa_,ab_,af_]at r0 r1 r2 r3 r4 t0 t1 t2 t3 t4;clear Q;(first|(have:=cc1;by_cases hlt:(kk:Int)<(fs.length:Int))|(by_cases hlt:(kk:Int)<(cnt:Int)));all_goals
  go_wp2;(first|(have:=cc1;refine zi results51 hQ.o.r0 (λW5 hF _=>?_))|(refine zi results50 hQ.o.r0 (λW5 hF _=>?_)));rw[Q_.o];rw[hres];exact vL he0 hQ.o.M hnn M_ ⟨_,_,_,rfl⟩ ⟨_,_,_,rfl⟩ hF rfl):p:=h
def Yw{w:Aw}{P:Au}{bd:Nat}{s:BA}{bz n:Nat}{ts:Aq}{env:Ay}{k c:Nat}{za:Ao}{zn F:Nat}(M:XBM w P bd s bz i n 0 ts env w)(hn:n<=300)(hc:c=91\/c=123)(hk:isT ts k t)(ho:w.ownsRow 0 3 1 (.slice za zn F) 1 [I_ k])(b7:∀g,(Value.slice za zn F).ownBlock=some g->P g)(hR:∀j nn,n<=nn->nn<=300->j<=s.size->wu s env ts f t j nn):Calls prog 50 #[P_ bd,.agg #[U_ c,.slice za zn F]] w (ve w bd s bz (qi (rdB s env f t) s c i n)):=by
 have e2:=M.sl;have g6:=M.jl;refine hq_ λg9 Q_=>?_;rw[rl]at Q_;obtain⟨N,h8,e3⟩:=zu ho D_;simp only[Value.slice.injEq]at e3;obtain⟨rfl,rfl,rfl⟩:=e3;have Y:=aY M #[U_ c,S_ N 1 F] 57 c;have A:=uH Y.M.L e2 g6;have hz:∀(W:World) (j nn:Nat) (er:Int) (b0 b1 B:Nat) (vk vs:Value) (ks:List BA) (q:Nat) (xs:List Value),BL w P bd s bz j nn er ts env [U_ c,S_ N 1 F] 57 b0 b1 B c vk vs ks q xs W->W.cell? ⟨N,0,none⟩=some (I_ k)/\W.cell? ⟨w.heap.size,0,none⟩=some (U_ c)/\W.cell? ⟨w.heap.size,1,none⟩=some (S_ N 1 F):=by
  intro W j nn er b0 b1 B vk vs ks q xs Q;have h1:=ze (zk ho Q.M.fr (λg e h=>M.nP (h▸b7 g e))) rfl (show[Value.int .i64 (k:Int)][0]?=some (I_ k) from rfl);exact⟨h1,by rw[Q.rx.cell 0];rfl,by rw[Q.rx.cell 1];rfl⟩
 replace Y:=zy Y;replace hz:=zy hz;replace ho:=zy ho;replace b7:=zy b7;replace hR:=zy hR;replace hk:=zy hk;replace M:=zy M;cases hb:vA s i with
 |none=>
  rw[hb]at A Q_;replace A:=zy A;clear hc hb;go_in;go_wp2_with (go_at_call 48;apply A.o.mono;rintro e w1 ⟨l,v,j,rfl,b,hj,h1⟩;have z:=zy (Y.o.call h1 l hj);clear l h1);go_loopg [7,8,9] 0 (λ_ v7 v8 v9 W=>v7=O_/\w1=W);case atStart=>exact⟨rfl,rfl⟩
  case round=>
   obtain⟨rfl,a⟩:=hrel;subst a;have a:¬(0:Int)<v:=M_;obtain⟨r0,r1,r2,r3,r4⟩:=z.o.r0.f5;obtain⟨t0,t1,t2,t3,t4⟩:=z.o.r1.f5;obtain⟨g0,g1,g2,g3,g4⟩:=z.o.r0.t5;simp only[zf,zq,aa_,ab_,af_]at r0 r1 r2 r3 r4 t0 t1 t2 t3 t4;go_wp2;refine zi results50 z.o.r0 (λW5 hF _=>?_);rw[Q_.o];exact vL (e0:=6) D_ z.o.M M_ M_ ⟨_,_,_,rfl⟩ ⟨_,_,_,rfl⟩ hF rfl
 |some q=>
  obtain⟨v,j0⟩:=q;have hg:=yU hb;rw[hb]at A Q_;obtain⟨cnt,rfl⟩:∃m:Nat,v=(m:Int):=⟨v.toNat,M_⟩;simp only[bb_]at Q_;obtain⟨R_,a1⟩:=e_ (yS (rdB s env f t) s (c==123) cnt none j0 n);rw[<- a1]at Q_;obtain⟨R,a2⟩:=e_ (rdB s env f t);rw[<- a2]at a1;replace a2:=zy a2;replace A:=zy A;have e7:H_ (∀w1,DAt w1 bd s bz j0 0 n->Fr _ w1 (· = bd)->BZ R_ R cnt w P bd s bz n ts env [U_ c,S_ N 1 F] c 302 (O_) w1):=zy (λw1 h1 l=>⟨0,_,_,[],[],rfl,M_,by simp,.inl ⟨[],j0,n,rfl,M_,M_,hn,M_,zy ⟨Y.o.call h1 l hg.2.1,Dts.nil _ _ _ _⟩,by simp[jz],by rw[pJ,a1];rfl⟩⟩);replace a1:=zy a1;clear hb;go_in;go_wp2_with (go_at_call 48;apply A.o.mono;rintro e w1 ⟨l,rfl,h5,h7,hj,h1⟩;have e8:=zy (e7.o w1 h1 l);clear l h1);go_loopg [7,8,9] 302 (λq v7 v8 v9 W=>BZ R_ R cnt w P bd s bz n ts env [U_ c,S_ N 1 F] c q v7 W);case atStart=>exact e8
  case round=>
   clear e7 e8 A Y;obtain⟨kk,vk,vs,ks,xs,rfl,Y,g8,Y⟩:=hrel;rcases Y with⟨acc,j,nn,Z,Y,hnn,a9,Y,Y,x,hres⟩|⟨j,nn,nr,e0,hQ,hnn,he0,hres⟩
   .obtain⟨Q,D⟩:=Y.o;clear Y;obtain⟨ka,kc,rfl⟩:=zh Q.kr;obtain⟨sa,sc,rfl⟩:=zh Q.vr;have c2:=Q.M.L.c2;have g7:=Q.M.jl;by_cases Y:kk=cnt
    .have hlt:¬(kk:Int)<(cnt:Int):=M_;have hr:=zy (show R_=.ok (acc,j,nn) by rw[hres,show cnt-kk=0 by omega];simp[yS,kG]);obtain⟨r0,r1,r2,r3,r4⟩:=Q.r0.f5;obtain⟨t0,t1,t2,t3,t4⟩:=Q.r1.f5;obtain⟨g0,g1,g2,g3,g4⟩:=Q.r0.t5;simp only[zf,zq,aa_,ab_,af_]at r0 r1 r2 r3 r4 t0 t1 t2 t3 t4;replace Q:=zy Q;replace D:=zy D;replace x:=zy x;replace Z:=zy Z;clear hres Y;go_wp2;refine zi results50 Q.o.r0 (λW5 hF _=>?_);rw[Q_.o];rw[hr.o];exact qN Q.o.M a9 M_ ((Q.o.dval D c).mono (λg _ hg=>M_)) ⟨_,_,_,rfl⟩ ⟨_,_,_,rfl⟩ hF (by unfold Gb;rw[x.o])
    .have hlt:(kk:Int)<(cnt:Int):=M_;obtain⟨cn,Y⟩:∃cn,cnt-kk=cn+1:=⟨cnt-kk-1,M_⟩;rw[Y,gI]at hres;obtain⟨z1,z2,z3⟩:=hz.o _ _ _ _ _ _ _ _ _ _ _ _ Q;replace Q:=zy Q;replace D:=zy D;replace x:=zy x;replace Z:=zy Z;replace hres:=zy hres;go_upto_if 30 with fail;go_cut [] (λW=>∃j' T e4 e6 Y key,BL w P bd s bz j' nn T ts env [U_ c,S_ N 1 F] 57 (w.heap.size+1) (w.heap.size+2) (w.heap.size+3) c (.slice e4 Y.length e6) (.slice sa kk sc) Y kk xs W/\Dts W (w.heap.size+3) (.slice e4 Y.length e6) (.slice sa kk sc) (acc.map Prod.snd) kk xs/\Y.length<=5000/\H_ ((T=0/\(∀d,Y=jz (c==123) (acc++[(key,d)]))/\R_=mV R s (c==123) cn acc key j' nn)\/(T=6/\R_=.error 6)));case first=>
      rcases hc with rfl|rfl
      .go_wp2;go_meet;case rel=>exact⟨j,0,ka,kc,ks,noB,Q,D,g8,zy (.inl ⟨rfl,λd=>by rw[x.o];rfl,by rw[hres.o];simp[jW]⟩)⟩
      .obtain⟨si,d7,d8,d9,e1⟩:=info_parts Gt;have hS:=zy (Ze Q.o.M.L e2 g7);have a8:ks.length=kk:=by rw[x.o,Z.o];simp[jz]
       rcases List.eq_nil_or_concat ks with G|⟨q,kl,G⟩
       .have hlast:=zy ((wo x).1 G);obtain rfl:kk=0:=by rw[<- a8,G];rfl
        have U:=zy a8;clear a8 G;go_wp2_with (first
         |(go_at_call 48;apply hS.o.mono;rintro e w1 ⟨v,rfl,l,⟨j1,e9,b5,h1⟩,I⟩;have z:=zy (Q.o.call h1 l b5);have D1:=zy (Q.o.dts D l);replace I:=zy I;clear l h1)
         |(go_at_call 49;apply I.o.mono;rintro e w2 ⟨key,K,a6,rfl,O,V,hx,h2,u⟩;have a:=z.o.call h2 O V;have b:=z.o.dts D1 O;have a7:=a.bB;have X:=a.r1.cell 3;simp only[zq,aa_,ab_]at X;revert u a b;refine h_ λu a b=>?_;clear O h2)
         |(at_builtin;go_must (refine wpList_append_own_at _ rfl _ _ 29 rfl (w.heap.size+3) 9 si _ 1 16 nV d7 d8 d9 e1 rfl D_ (.slice ka ks.length kc) ks.length (ks.map Value.string) rfl ?hown _ 1 1 [.string key] rfl rfl (zL _ #[.string key] _ _ ?nn) ?one ?b1 ?b2 ?b3 ?_)
           case hown=>exact World.ownsRow.alloc a.o.kr _
           case nn=>simp
           case one=>simp[Value.oneCell']
           case b1=>unfold maxLen;omega
           case b2=>omega
           case b3=>simp;omega
           intro v5 w5 E C a3 J
           have y:=a.o.key C E J
           obtain⟨e5,f5⟩:=a.o.keyCell C
           obtain⟨g5,a4,rfl⟩:=zu E M_
           clear C J a3 E
           replace y:=zy y))
        go_meet;case rel=>
         obtain⟨S,a0⟩:=y.o;have el:(ks++[key]).length=ks.length+1:=x8_
         refine⟨K,a6,some ⟨g5,0,none⟩,a4,ks++[key],key,by rw[el];exact S,by rw[el];exact a0 _ b,by have:=U.o;omega,?_⟩;rcases u.o with⟨rfl,hb⟩|⟨rfl,hb⟩
         .exact zy (.inl ⟨rfl,λd=>by rw[x.o];simp[jz],by
           have H:jW s true (vi acc) j=some (key,K):=by unfold jW;rw[i_ rfl,hb];rw[hlast.o];simp[kH]
           rw[hres.o]
           show(match jW s true (vi acc) j with|none=>_|some (k,j1)=>_)=_
           rw[H]⟩)
         .exact zy (.inr ⟨rfl,by
           have H:jW s true (vi acc) j=none:=by unfold jW;rw[i_ rfl,hb]
           rw[hres.o]
           show(match jW s true (vi acc) j with|none=>_|some (k,j1)=>_)=_
           rw[H]⟩)
       .have hlast:=zy ((wo x).2 q kl (by simpa using G));have hm:ks.length=q.length+1:=by rw[G];simp
        obtain rfl:kk=q.length+1:=M_;have f1:=zy (show(ks.map Value.string)[q.length]?=some (.string kl) by rw[G];simp);obtain⟨gk,Y,d0⟩:=zu Q.o.kr M_;simp only[Value.slice.injEq,true_and]at d0;obtain⟨rfl,rfl⟩:=d0;replace G:=zy G;have d2:H_ (ks.length=q.length+1):=zy hm;have f0:=zy (λ(W:World) (j n:Nat) (er:Int) (h:DAt W bd s bz j er n)=>vh (e0:=6) h);clear hm a8;go_upto_if 47 with(first
         |(go_at_call 48;apply hS.o.mono;rintro e w1 ⟨v,rfl,l,⟨j1,e9,b5,h1⟩,I⟩;have z:=zy (Q.o.call h1 l b5);have D1:=zy (Q.o.dts D l);replace I:=zy I;clear l h1)
         |(go_at_call 49;apply I.o.mono;rintro e w2 ⟨key,K,a6,rfl,O,V,hx,h2,u⟩;have a:=z.o.call h2 O V;have b:=z.o.dts D1 O;have a7:=a.bB;have X:=a.r1.cell 3;simp only[zq,aa_,ab_]at X;rw[d2.o]at X;have l:=ze a.kr rfl f1;revert u a b;refine h_ λu a b=>?_;clear O h2))
        go_cut [9] (λv W=>∃key j' T,v=.string key/\BL w P bd s bz j' nn T ts env [U_ 123,S_ N 1 F] 57 (w.heap.size+1) (w.heap.size+2) (w.heap.size+3) 123 (S_ gk ks.length kc) (.slice sa (q.length+1) sc) ks (q.length+1) xs W/\Dts W (w.heap.size+3) (S_ gk ks.length kc) (.slice sa (q.length+1) sc) (acc.map Prod.snd) (q.length+1) xs/\key.size<=4000/\H_ ((T=0/\jW s true (vi acc) j=some (key,j'))\/(T=6/\jW s true (vi acc) j=none)));case first=>
         cases hb:Op.bytesLess kl.toList key.toList
         .go_wp2_with (go_at_call 45;apply(f0.o _ _ _ _ a.o.M.L).mono;rintro e l ⟨rfl,z,l⟩;have H:=zy (a.o.call z l V);have D4:=zy (a.o.dts b l);clear z l);go_meet;case rel=>
           refine⟨key,K,_,rfl,H,D4,hx,zy (.inr ⟨?_,?_⟩)⟩
           .rcases u.o with⟨rfl,_⟩|⟨rfl,_⟩<;>rfl
           .unfold jW;rw[i_ rfl];rcases u.o with⟨rfl,U⟩|⟨rfl,U⟩
            .rw[U];simp only;rw[n_ (by rw[hlast.o];show ¬(Op.bytesLess kl.toList key.toList=true);rw[hb];decide)]
            .rw[U]
         .go_wp2;go_meet;case rel=>
           refine⟨key,K,a6,rfl,a,b,hx,zy ?_⟩;unfold jW;rw[i_ rfl];rcases u.o with⟨rfl,U⟩|⟨rfl,U⟩
           .refine .inl ⟨rfl,?_⟩;rw[U];simp only;rw[i_ zp_]
           .exact .inr ⟨rfl,by rw[U]⟩
        case rest=>
         clear X a b a7 u hS I;obtain⟨key,j3,b9,rfl,a,b,hx,u⟩:=hcut;have a7:=a.bB;have X:=a.r1.cell 3;simp only[zq,aa_,ab_]at X;replace a:=zy a;replace b:=zy b;go_wp2_with (first
          |(at_builtin;go_must (refine wpList_append_own_at _ rfl _ _ 29 rfl (w.heap.size+3) 9 si _ 1 16 nV d7 d8 d9 e1 rfl D_ (S_ gk ks.length kc) ks.length (ks.map Value.string) rfl ?hown _ 1 1 [.string key] rfl rfl (zL _ #[.string key] _ _ ?nn) ?one ?b1 ?b2 ?b3 ?_)
            case hown=>exact World.ownsRow.alloc a.o.kr _
            case nn=>simp
            case one=>simp[Value.oneCell']
            case b1=>unfold maxLen;omega
            case b2=>omega
            case b3=>simp;omega
            intro v5 w5 E C a3 J
            have y:=a.o.key C E J
            obtain⟨e5,f5⟩:=a.o.keyCell C
            obtain⟨g5,a4,rfl⟩:=zu E M_
            clear C J a3 E
            replace y:=zy y))
         go_meet;case rel=>
          obtain⟨S,a0⟩:=y.o;have el:(ks++[key]).length=ks.length+1:=x8_
          refine⟨j3,b9,some ⟨g5,0,none⟩,a4,ks++[key],key,by rw[el];exact S,by rw[el];exact a0 _ b,by have:=d2.o;omega,?_⟩;rcases u.o with⟨rfl,hb⟩|⟨rfl,hb⟩
          .exact zy (.inl ⟨rfl,λd=>by rw[x.o];simp[jz],by rw[hres.o];show(match jW s true (vi acc) j with|none=>_|some (k,j1)=>_)=_;rw[hb]⟩)
          .exact zy (.inr ⟨rfl,by rw[hres.o];show(match jW s true (vi acc) j with|none=>_|some (k,j1)=>_)=_;rw[hb]⟩)
     case rest=>
      clear Q D c2 z1 z2 z3;obtain⟨K,a6,l,l,b8,key,u,D2,b6,o2⟩:=hcut;obtain⟨z1,z2,z3⟩:=hz.o _ _ _ _ _ _ _ _ _ _ _ _ u;obtain⟨ti,f6,f7,f8,f9⟩:=info_parts wC;have V:=u.M.jl;have A:=zy (u.datum (f:=f) M_ (λ_=>a9) hk (λ_=>hR.o K nn M_ a9 V));replace u:=zy u;replace D2:=zy D2;clear x hres;go_wp2_with (first
       |(go_at_call 26;apply A.o.mono;rintro e w3 ⟨U,X,a5,I,m1,c1,O,m2,c2,j3,G,b9,rfl,a,l,d6,hJ⟩;have b:=u.o.dts D2 l;have H:=a.alloc (.cells (zq U X a5 (.slice I m1 c1) (.slice O m2 c2)).toArray 32);have D4:=b.alloc (.cells (zq U X a5 (.slice I m1 c1) (.slice O m2 c2)).toArray 32);have t4:=H.r1.cell 4;simp only[zq,aa_,ab_]at t4;have a7:=a.bB;revert a b H D4;refine g_ λa b H D4=>?_)
       |(at_builtin;go_must (refine wpList_append_own_at _ rfl _ _ 30 rfl (w.heap.size+3) 32 ti _ 5 80 wi f6 f7 f8 f9 rfl D_ (.slice sa kk sc) kk xs rfl ?hown _ 1 1 (zq U X a5 (.slice I m1 c1) (.slice O m2 c2)) rfl rfl (zL _ (zq U X a5 (.slice I m1 c1) (.slice O m2 c2)).toArray _ _ ?nn) ?one ?b1 ?b2 ?b3 ?_)
         case hown=>exact World.ownsRow.alloc H.o.vr _
         case nn=>simp
         case one=>simp[zq,Value.oneCell']
         case b1=>unfold maxLen;omega
         case b2=>omega
         case b3=>simp;omega
         intro v5 w5 E C a3 J
         have y:=H.o.item C E J
         obtain⟨e5,f5⟩:=H.o.ie C
         obtain⟨g5,a4,rfl⟩:=zu E M_
         clear C J a3 E
         replace y:=zy y))
      obtain⟨S,a0⟩:=y.o;rcases hJ.o with⟨he,d,b4,rfl,f2⟩|⟨he,e0,b4,rfl,he0⟩|⟨he,rfl⟩
      .subst he;rcases o2.o with⟨_,d1,hres⟩|⟨h6,_⟩
       .have a:=a0 _ d D4 (f2.fr ((A_ w3 N_).alloc _) u_);have b:=qj s env f t K nn d j3 G V a9 b4;go_roundg (302-G);case measure=>omega
        case rel=>
         refine⟨kk+1,_,_,b8,_,by simp,M_,b6,.inl ⟨acc++[(key,d)],j3,G,by rw[ah_,ap_,<- Z.o],M_,M_,b.2.2.2,M_,zy ⟨S,by rw[bh_];exact a⟩,d1 d,?_⟩⟩;rw[hres,mV,a2.o,b4,show cnt-(kk+1)=cn by omega];have:vi (acc++[(key,d)])=some key:=by simp[vi]
         rw[this]
       .cases h6
      .subst he;rcases o2.o with⟨_,d1,hres⟩|⟨h6,_⟩
       .go_roundg 0;case measure=>omega
        case rel=>exact⟨kk+1,_,_,b8,_,by simp,M_,b6,.inr ⟨j3,G,kk+1,e0,zy S,d6,he0,by rw[hres,mV,a2.o,b4]⟩⟩
       .cases h6
      .rcases o2.o with⟨h0,_⟩|⟨rfl,hres⟩
       .exact absurd h0 he
       .go_roundg 0;case measure=>omega
        case rel=>exact⟨kk+1,_,_,b8,_,by simp,M_,b6,.inr ⟨j3,G,kk+1,6,zy S,d6,D_,hres⟩⟩
   .exact cwYw1_
def Gq(s:BA)(env:Ay)(ts:Aq)(f:Nat)(pb:PB)(i n:Nat):Prop:=
 ∀(w:World) (P:Nat->Prop) (bd bz:Nat) (so:Int) (fv:Value) (sb:BA) (o z:Int),XBM w P bd s bz i n 0 ts env w->n<=300->wR w P ts pb so fv sb z->
  Calls prog 51 #[P_ bd,.agg #[.int .u8 so,fv,.string sb,Z_ o,Z_ z]] w (ve w bd s bz (yX (rdB s env f) s pb i n))
def Gr{w:Aw}{P:Au}{bd:Nat}{s:BA}{bz n:Nat}{er:Int}{ts:Aq}{env:Ay}(M:XBM w P bd s bz i n er ts env w)(c:Nat)(fv:Ax)(sb:BA)(o z:Int):XBM w P bd s bz i n er ts env (nw w c fv sb o z):=((M.alloc _).alloc _).alloc _
def cwJF1_{p:Prop}(h:p:=by
 (first|(have:=cc1;have hz':¬(0:Int)≥(sb.size:Int):=M_)|(rw[hb]at hC;have hr:=zy (show yX (rdB s env f) s (.bytes m) i n=.error 6 by unfold yX;simp only;rw[hb]);replace hC:=zy hC;clear hb));go_in;go_wp2_with ((first|go_at_call 49|go_at_call 47);apply hC.o.mono;rintro e w1 ⟨F1,rfl,j,hj,h1⟩;have M1:=M0.o.call h1 F1 hj;have D0:=F1.bl B0.o M_;have D1:=F1.bl B1.o M_;have D2:=F1.bl B2.o M_;(first|(have:=cc1;have p1:=D2.cell 1)|(have p1:=D2.cell 2));(first|(have:=cc1;have p2:=D2.th 1)|(have p2:=D2.th 2));simp only[zq,aa_,ab_]at p1;(first|(have:=cc1;have M2:=M1.put ⟨w.heap.size+1+1,1,none⟩ (O_) x4_)|(have M2:=M1.put ⟨w.heap.size+1+1,2,none⟩ (.string noB) x4_));(first|(have:=cc1;have E2:=C_ D2 1 (O_))|(have E2:=C_ D2 2 (.string noB)));(first|(have:=cc1;have E1:=E_ D1 (a:=⟨w.heap.size+2,1,none⟩) (O_) x8_)|(have E1:=E_ D1 (a:=⟨w.heap.size+2,2,none⟩) (.string noB) x8_));(first|(have:=cc1;have E0:=E_ D0 (a:=⟨w.heap.size+2,1,none⟩) (O_) x8_;have v2:=E0.c2)|(have E0:=E_ D0 (a:=⟨w.heap.size+2,2,none⟩) (.string noB) x8_));obtain⟨r0,r1,r2,r3,r4⟩:=E1.f5;obtain⟨t0,t1,t2,t3,t4⟩:=E2.f5;obtain⟨g0,g1,g2,g3,g4⟩:=E1.t5;simp only[zf,zq,aa_,ab_,an_,ao_,af_]at r0 r1 r2 r3 r4 t0 t1 t2 t3 t4;replace M1:=zy M1;replace M2:=zy M2;replace D0:=zy D0;replace D1:=zy D1;replace D2:=zy D2;replace E0:=zy E0;replace E1:=zy E1;replace E2:=zy E2;replace F1:=zy F1);refine zi results51 E1.o (λW5 hF _=>?_);rw[Q_.o];rw[hr.o];exact vL (e0:=6) D_ M2.o M_ M_ ⟨_,_,_,rfl⟩ ⟨_,_,_,rfl⟩ hF rfl):p:=h
def JF{s:BA}{env:Ay}{ts:Aq}{n:Nat}{m:Nat}(hm:m<=9):Gq s env ts f (.bytes m) i n:=by
 intro w P bd bz so fv sb o z M hn h;obtain⟨⟨b,g,c,rfl⟩,u,rfl,h⟩:=h;refine hq_ λx Q_=>?_;have x:=M.lt;have hjl:=M.jl;have v:=M.sl;have M0:=zy (Gr M 102 (.slice b g c) sb o z);have B0:=zy (JJ w 102 (.slice b g c) sb o z);have B1:=zy (JV w 102 (.slice b g c) sb o z);have B2:=zy (JX w 102 (.slice b g c) sb o z);replace M:=zy M;replace u:=zy u;subst h;have hC:=uL (m:=m) M0.o.L v hjl M_;cases hb:xU s i m with
 |none=>
  exact cwJF1_
 |some q=>
  obtain⟨tx,j⟩:=q;rw[hb]at hC;have hr:=zy (show yX (rdB s env f) s (.bytes m) i n=.ok (.mk 102 0 tx [] [],j,n) by unfold yX;simp only;rw[hb]);replace hC:=zy hC;go_in;go_wp2_with (go_at_call 49;apply hC.o.mono;rintro e w1 ⟨F1,rfl,hj,h1⟩;have M1:=M0.o.call h1 F1 hj;have D0:=F1.bl B0 M_;have D1:=F1.bl B1 M_;have D2:=F1.bl B2 M_;have p1:=D2.cell 2;have p2:=D2.th 2;simp only[zq,aa_,ab_]at p1;have M2:=M1.put ⟨w.heap.size+1+1,2,none⟩ (.string tx) x4_;have E2:=C_ D2 2 (.string tx);have E1:=E_ D1 (a:=⟨w.heap.size+2,2,none⟩) (.string tx) x8_;have E0:=E_ D0 (a:=⟨w.heap.size+2,2,none⟩) (.string tx) x8_;obtain⟨r0,r1,r2,r3,r4⟩:=E1.f5;obtain⟨t0,t1,t2,t3,t4⟩:=E2.f5;obtain⟨g0,g1,g2,g3,g4⟩:=E1.t5;simp only[zf,zq,aa_,ab_,an_,ao_,af_]at r0 r1 r2 r3 r4 t0 t1 t2 t3 t4;replace M1:=zy M1;replace M2:=zy M2;replace D0:=zy D0;replace D1:=zy D1;replace D2:=zy D2;replace E0:=zy E0;replace E1:=zy E1;replace E2:=zy E2;replace F1:=zy F1);refine zi results51 E1.o (λW5 hF _=>?_);rw[Q_.o];rw[hr.o];exact qN M2 hn M_ (zF.bare _ _ 102 0 tx) ⟨_,_,_,rfl⟩ ⟨_,_,_,rfl⟩ hF rfl
def KT{s:BA}{env:Ay}{ts:Aq}{n:Nat}{l:Av}{unk:Ac}(x:l.length<=300):Gq s env ts f (.enum l unk) i n:=by
 intro w P bd bz so fv sb o z M hn u;obtain⟨⟨b,g,c,rfl⟩,v,rfl,u⟩:=u;refine hq_ λx Q_=>?_;have x:=M.lt;have hjl:=M.jl;have x:=M.sl;have M0:=zy (Gr M 101 (.slice b g c) sb o z);have B0:=zy (JJ w 101 (.slice b g c) sb o z);have B1:=zy (JV w 101 (.slice b g c) sb o z);have B2:=zy (JX w 101 (.slice b g c) sb o z);replace M:=zy M;replace v:=zy v;have hF0:=zy (λ(W:World) (j n:Nat) (er:Int) (h:DAt W bd s bz j er n)=>vh (e0:=6) h);have hsb:sb.size=l.length:=by
  have:=congrArg List.length u;rw[bm_,bm_]at this;have e:sb.size=sb.data.toList.length:=by rw[Array.length_toList];rfl
  omega
 have b:sb.size<=300:=M_;replace hsb:=zy hsb;have hC:=qg M0.o.L x hjl;cases hb:bL s i with
 |none=>
  rw[hb]at hC;have hr:=zy (show yX (rdB s env f) s (.enum l unk) i n=.error 6 by unfold yX vu;simp only;rw[hb]);replace hC:=zy hC;by_cases hz:sb.size=0
  .have hz':(0:Int)≥(sb.size:Int):=M_;go_in;go_wp2_with (first
    |(go_at_call 47;apply hC.o.mono;rintro e w1 ⟨F1,rfl,j,hj,h1⟩;have M1:=M0.o.call h1 F1 hj;have D0:=F1.bl B0 M_;have D1:=F1.bl B1 M_;have D2:=F1.bl B2 M_;have p1:=D2.cell 1;have p2:=D2.th 1;simp only[zq,aa_,ab_]at p1;have M2:=M1.put ⟨w.heap.size+1+1,1,none⟩ (O_) x4_;have E2:=C_ D2 1 (O_);have E1:=E_ D1 (a:=⟨w.heap.size+2,1,none⟩) (O_) x8_;have E0:=E_ D0 (a:=⟨w.heap.size+2,1,none⟩) (O_) x8_;have t1:=E2.cell 1;have v2:=E0.cell 2;simp only[zq,aa_,ab_,an_,ao_,af_]at t1 v2;replace M1:=zy M1;replace M2:=zy M2;replace D0:=zy D0;replace D1:=zy D1;replace D2:=zy D2;replace E0:=zy E0;replace E1:=zy E1;replace E2:=zy E2;replace F1:=zy F1)
    |(go_at_call 45;apply(hF0.o _ _ _ _ M2.o.L).mono;rintro e w2 ⟨rfl,h2,F2⟩;have M3:=M2.o.call h2 F2 M2.o.jl;have G1:=F2.bl E1 M_;have G2:=F2.bl E2 M_;obtain⟨r0,r1,r2,r3,r4⟩:=G1.f5;obtain⟨t0,t1,t2,t3,t4⟩:=G2.f5;obtain⟨g0,g1,g2,g3,g4⟩:=G1.t5;simp only[zf,zq,aa_,ab_,an_,ao_,af_]at r0 r1 r2 r3 r4 t0 t1 t2 t3 t4;revert F2 M3 G1 G2;refine g_ λF2 M3 G1 G2=>?_))
   refine zi results51 G1.o (λW5 hF _=>?_);rw[Q_.o];rw[hr.o];exact vL (e0:=6) D_ M3 M_ M_ ⟨_,_,_,rfl⟩ ⟨_,_,_,rfl⟩ hF rfl
  .have cc1:=Nat;exact cwJF1_
 |some q=>
  have cc1:=Nat;exact cwBD1_
def gE(ds:Ak):Except Nat (List DT×Nat×Nat)->Except Nat (List DT×Nat×Nat)
 | .error e=>.error e
 | .ok (l,j,m)=>.ok (ds++l,j,m)
def ro(x:Except Nat (List DT×Nat×Nat)):gE [] x=x:=by
 cases x with
 |error e=>rfl
 |ok q=>obtain⟨l,j,m⟩:=q;rfl
def mD(R:PT->Nat->Nat->Except Nat (DT×Nat×Nat))(ds:Ak)(t:PT)(r:Af)(j m:Nat):gE ds (ym R (t::r) j m)=match R t j m with | .error e=>.error e | .ok (d,j',a)=>gE (ds++[d]) (ym R r j' a):=by
 rw[ym];cases R t j m with
 |error e=>rfl
 |ok q=>
  obtain⟨d,j',a⟩:=q;simp only;cases ym R r j' a with
  |error e=>rfl
  |ok q=>
   obtain⟨l,a,a⟩:=q;simp[gE]
def BK:Except Nat (List DT×Nat×Nat)->Except Nat (DT×Nat×Nat)
 | .error e=>.error e
 | .ok (ds,j,m)=>.ok (.mk 114 0 noB [] ds,j,m)
def aV(R:PT->Nat->Nat->Except Nat (DT×Nat×Nat))(s:BA)(fs:Am)(i n:Nat):yX R s (.recd fs) i n=BK (ym R (fs.map PF.ty) i n):=by
 unfold yX;simp only;cases ym R (fs.map PF.ty) i n with
 |error e=>rfl
 |ok q=>rfl
def Bs(R_:Except Nat (List DT×Nat×Nat))(R:PT->Nat->Nat->Except Nat (DT×Nat×Nat))(fs:Am)(w:Aw)(P:Au)(bd:Nat)(s:BA)(bz n:Nat)(ts:Aq)(env:Ay)(cx:Az)(q:Nat)(v6:Ax)(W:Aw):Prop:=
 ∃(kk:Nat) (vs:Value) (xs:List Value),v6=I_ kk/\kk<=301/\
  ((∃ds j nn,kk=ds.length/\kk<=fs.length/\n+kk<=nn/\nn<=300/\302<=q+nn/\H_ (BL w P bd s bz j nn 0 ts env cx 39 (w.heap.size+1) (w.heap.size+2) (w.heap.size+3) 114 (L_) vs [] kk xs W/\Dts W (w.heap.size+3) (L_) vs ds kk xs)/\R_=gE ds (ym R ((fs.map PF.ty).drop kk) j nn))\/
   (∃j nn nr,∃e0:Nat,H_ (BL w P bd s bz j nn (e0:Int) ts env cx 39 (w.heap.size+1) (w.heap.size+2) (w.heap.size+3) 114 (L_) vs [] nr xs W)/\nn<=301/\e0≠0/\R_=.error e0))
def KD{s:BA}{env:Ay}{ts:Aq}{n:Nat}{fs:Am}(K:∀g∈fs,∀j nn,n<=nn->nn<=300->j<=s.size->wu s env ts f g.ty j nn)(d1:fs.length<=4000):Gq s env ts f (.recd fs) i n:=by
 intro w P bd bz so fv sb o z M hn hN;obtain⟨⟨b,fn,c,rfl⟩,O,rfl,d0,hown,S⟩:=hN;have a6:=bu hown;subst a6;refine hq_ λb9 Q_=>?_;rw[aV]at Q_;obtain⟨J,l⟩:=e_ (ym (rdB s env f) (fs.map PF.ty) i n);rw[<- l]at Q_;obtain⟨R,u⟩:=e_ (rdB s env f);rw[<- u]at l;replace u:=zy u;have Q0:=aY M #[.int .u8 (114:Nat),.slice b fs.length c,.string sb,Z_ o,Z_ z] 39 114;have a3:H_ (Bs J R fs w P bd s bz n ts env [.int .u8 (114:Nat),.slice b fs.length c,.string sb,Z_ o,Z_ z] 302 (O_) (nw w 114 (.slice b fs.length c) sb o z)):=zy ⟨0,_,[],rfl,M_,.inl ⟨[],i,n,rfl,M_,M_,hn,M_,zy ⟨Q0,Dts.nil _ _ _ _⟩,by rw[ro,l];rfl⟩⟩;have X1:∀(W:World) (j nn:Nat) (er:Int) (vs:Value) (q:Nat) (xs:List Value),BL w P bd s bz j nn er ts env [.int .u8 (114:Nat),.slice b fs.length c,.string sb,Z_ o,Z_ z] 39 (w.heap.size+1) (w.heap.size+2) (w.heap.size+3) 114 (L_) vs [] q xs W->W.cell? ⟨w.heap.size,1,none⟩=some (.slice b fs.length c):=λW j nn er vs q xs Q=>by rw[Q.rx.cell 1];rfl
 replace X1:=zy X1;have b8:=zy M.nP;replace O:=zy O;replace hown:=zy hown;replace S:=zy S;replace l:=zy l;replace K:=zy K;go_in;go_wp2;change Code.wp _ _ _ _ (nw w 114 (.slice b fs.length c) sb o z);generalize nw w 114 (.slice b fs.length c) sb o z=W0 at *;go_loopg [6] 302 (λq l W=>Bs J R fs w P bd s bz n ts env [.int .u8 (114:Nat),.slice b fs.length c,.string sb,Z_ o,Z_ z] q l W);case atStart=>exact a3
 case round=>
  obtain⟨kk,vs,xs,rfl,b,b⟩:=hrel;rcases b with⟨ds,j,nn,N,b,hnn,C,b,b,hres⟩|⟨j,nn,c,e0,hQ,hnn,he0,hres⟩
  .obtain⟨a,h⟩:=b.o;obtain⟨sa,sc,rfl⟩:=zh a.vr;have c2:=a.M.L.c2;have a1:=a.M.jl;have x1:=X1.o _ _ _ _ _ _ _ a;replace N:=zy N;by_cases hlt:kk<fs.length
   .have b5:(kk:Int)<(fs.length:Int):=M_;obtain⟨g,hg⟩:∃g,fs[kk]?=some g:=⟨_,ak_ hlt⟩;have U:g∈fs:=al_ hg;obtain⟨num,X,V⟩:=S.o kk g hg;obtain⟨b,b,a0⟩:=zu hown M_;simp only[Value.slice.injEq,true_and]at a0;obtain⟨rfl,rfl⟩:=a0;have b:(fs.map PF.ty).drop kk=g.ty::(fs.map PF.ty).drop (kk+1):=by
     rw[bc_ (by simpa using hlt)]
     congr 1
     rw[List.getElem_map]
     congr 1
     exact(am_.1 hg).2
    rw[b,mD,u.o]at hres;have c:=zk hown a.M.fr (λg hg e=>b8.o (e▸O.o g hg));have l:=ze c rfl X;rw[a7_]at l;obtain⟨ti,a7,a8,a9,b4⟩:=info_parts wC;have l:=zy (a.datum (f:=f) M_ (λ_=>C) V (λ_=>K.o g U j nn M_ C a1));replace a:=zy a;replace h:=zy h;replace hres:=zy hres;replace X:=zy X;replace V:=zy V;replace U:=zy U;go_wp2_with (first
     |(go_at_call 26;apply l.o.mono;rintro e w3 ⟨y,A,B,v,E,c1,x,F,c2,Z,G,b,rfl,c,b,b6,hJ⟩;have l:=a.o.dts h b;have b:=c.alloc (.cells (zq y A B (.slice v E c1) (.slice x F c2)).toArray 32);have H:=l.alloc (.cells (zq y A B (.slice v E c1) (.slice x F c2)).toArray 32);have t4:=b.r1.cell 4;simp only[zq,aa_,ab_]at t4;have K:=c.bB;revert c l b H;refine g_ λc l b H=>?_)
     |(at_builtin;go_must (refine wpList_append_own_at _ rfl _ _ 30 rfl (w.heap.size+3) 32 ti _ 5 80 wi a7 a8 a9 b4 rfl D_ (.slice sa kk sc) kk xs rfl ?hown _ 1 1 (zq y A B (.slice v E c1) (.slice x F c2)) rfl rfl (zL _ (zq y A B (.slice v E c1) (.slice x F c2)).toArray _ _ ?nn) ?one ?b1 ?b2 ?b3 ?_)
       case hown=>exact World.ownsRow.alloc b.o.vr _
       case nn=>simp
       case one=>simp[zq,Value.oneCell']
       case b1=>unfold maxLen;omega
       case b2=>omega
       case b3=>simp;omega
       intro c c Y T b7 a2
       have I:=b.o.item T Y a2
       obtain⟨c,f5⟩:=b.o.ie T
       obtain⟨b,b,rfl⟩:=zu Y M_
       replace I:=zy I))
    obtain⟨Q5,a4⟩:=I.o;rcases hJ.o with⟨_,d,D,rfl,a5⟩|⟨_,e0,D,rfl,he0⟩|⟨he,rfl⟩
    .have b:=a4 _ d H (a5.fr ((A_ w3 N_).alloc _) u_);have c:=qj s env f g.ty j nn d Z G a1 C D;go_roundg (302-G);case measure=>omega
     case rel=>
      refine⟨kk+1,_,_,by simp,M_,.inl ⟨ds++[d],Z,G,by rw[ah_,ap_,<- N.o],M_,M_,c.2.2.2,M_,zy ⟨Q5,b⟩,?_⟩⟩;rw[hres.o,D,u.o]
    .go_roundg 0;case measure=>omega
     case rel=>exact⟨kk+1,_,_,by simp,M_,.inr ⟨Z,G,kk+1,e0,zy Q5,b6,he0,by rw[hres.o,D]⟩⟩
    .exact absurd rfl he
   .have b5:¬(kk:Int)<(fs.length:Int):=M_;have hr:=zy (show J=.ok (ds,j,nn) by rw[hres,ci_ x4_];simp[ym,gE]);obtain⟨r0,r1,r2,r3,r4⟩:=a.r0.f5;obtain⟨t0,t1,t2,t3,t4⟩:=a.r1.f5;obtain⟨g0,g1,g2,g3,g4⟩:=a.r0.t5;simp only[zf,zq,aa_,ab_,af_]at r0 r1 r2 r3 r4 t0 t1 t2 t3 t4;replace a:=zy a;replace h:=zy h;go_wp2;refine zi results51 a.o.r0 (λW5 hF _=>?_);rw[Q_.o];rw[hr.o];exact qN a.o.M C M_ ((a.o.dval h 114).mono (λg _ hg=>M_)) ⟨_,_,_,rfl⟩ ⟨_,_,_,rfl⟩ hF rfl
  .have cc1:=Nat;exact cwYw1_
def Gf(lo bd:Nat)(s:BA)(bz:Nat)(r:Except Nat (DT×Nat×Nat))(v:Az)(w':Aw):Prop:=match r with
 | .error e0=>e0≠0/\∃j m,j<=s.size/\m<=301/\DAt w' bd s bz j (e0:Int) m
 | .ok (d,j,m)=>j<=s.size/\m<=300/\DAt w' bd s bz j 0 m/\zF w' (λg=>lo<=g) d v
def Gf.at{lo bd:Nat}{s:BA}{bz:Nat}{r:Except Nat (DT×Nat×Nat)}{v:Az}{w':Aw}(h:Gf lo bd s bz r v w'):∃j er m,j<=s.size/\DAt w' bd s bz j er m:=by
 cases r with
 |error e0=>obtain⟨_,j,m,a,_,b⟩:=h;exact⟨j,_,m,a,b⟩
 |ok q=>obtain⟨d,j,m⟩:=q;obtain⟨a,_,b,_⟩:=h;exact⟨j,_,m,a,b⟩
def ip{w h y A:Aw}{P:Au}{bd:Nat}{s:BA}{bz n:Nat}{er:Int}{ts:Aq}{env:Ay}{r:Except Nat (DT×Nat×Nat)}{o:Nat}{u:Int}{v:BA}{vk vs:Ax}(z:XBM w P bd s bz i n er ts env h)(hs:w.heap.size<h.heap.size)(B:Fr h y (· = bd))(h1:∃a m c,vk=.slice a m c)(C:∃a m c,vs=.slice a m c)(hm:Gf h.heap.size bd s bz r (zq o u v vk vs) y)(l:Fr y A (λg=>g=w.heap.size)):ve w bd s bz r (.returned (.agg (zq o u v vk vs).toArray)) A:=by
 have hl:=z.lt;refine⟨o,u,v,vk,vs,rfl,h1,C,(z.fr.trans B u_).trans l (λx hx e=>M_),?_⟩;cases r with
 |error e0=>
  obtain⟨h0,j,m,a,b,c⟩:=hm;exact⟨h0,j,m,a,b,l.bl c M_⟩
 |ok q=>
  obtain⟨d,j,m⟩:=q;obtain⟨a,b,c,e⟩:=hm;exact⟨a,b,l.bl c M_,(e.fr l (λg hg e=>M_)).mono (λg _ hg=>M_)⟩
def ve.any{w w':Aw}{bd:Nat}{s:BA}{bz:Nat}{r:Except Nat (DT×Nat×Nat)}{e:Ah}(h:ve w bd s bz r e w'):∃(c:Nat) (g:Int) (l:BA) (a:Option Addr) (o c1:Nat) (b:Option Addr) (q c2:Nat),e=.returned (.agg #[U_ c,Z_ g,.string l,.slice a o c1,.slice b q c2])/\Fr w w' (· = bd)/\
 Gf w.heap.size bd s bz r (zq c g l (.slice a o c1) (.slice b q c2)) w':=by
 obtain⟨c,g,l,vk,vs,rfl,⟨a,o,c1,rfl⟩,⟨b,q,c2,rfl⟩,u,hm⟩:=h;exact⟨c,g,l,a,o,c1,b,q,c2,rfl,u,by cases r<;>exact hm⟩
def XBM.datum{w W:Aw}{P:Au}{bd:Nat}{s:BA}{bz j nn:Nat}{er:Int}{ts:Aq}{env:Ay}{k:Nat}(Q:XBM w P bd s bz j nn er ts env W)(hn:nn<=301)(x:er=0->nn<=300)(hk:isT ts k t)(hB:er=0->wu s env ts f t j nn):Calls prog 26 #[P_ bd,I_ k] W λe W'=>∃(k:Nat) (m:Int) (tx:BA) (b:Option Addr) (l c1:Nat) (c:Option Addr) (o c2:Nat) (j' a:Nat) (y:Int),e=.returned (.agg #[U_ k,Z_ m,.string tx,.slice b l c1,.slice c o c2])/\XBM w P bd s bz j' a y ts env W'/\Fr W W' (· = bd)/\a<=301/\
  H_ ((er=0/\∃d,rdB s env f t j nn=.ok (d,j',a)/\a<=300/\y=0/\zF W' (λg=>W.heap.size<=g) d (zq k m tx (.slice b l c1) (.slice c o c2)))\/(er=0/\∃u:Nat,rdB s env f t j nn=.error u/\y=(u:Int)/\u≠0)\/(er≠0/\y=er)):=by
 by_cases he:er=0
 .subst he;apply(hB rfl W P bd bz k Q.here (x rfl) hk).mono;rintro e W' ⟨z,m,tx,y,y,rfl,⟨b,l,c1,rfl⟩,⟨c,o,c2,rfl⟩,h,hm⟩;cases hr:rdB s env f t j nn with
  |error u=>
   rw[hr]at hm;obtain⟨h0,j',a,h1,A,x⟩:=hm;exact⟨z,m,tx,b,l,c1,c,o,c2,j',a,u,rfl,Q.call x h h1,h,A,zy (.inr (.inl ⟨rfl,u,rfl,rfl,h0⟩))⟩
  |ok q=>
   obtain⟨d,j',a⟩:=q;rw[hr]at hm;obtain⟨h1,A,x,B⟩:=hm;exact⟨z,m,tx,b,l,c1,c,o,c2,j',a,0,rfl,Q.call x h h1,h,M_,zy (.inl ⟨rfl,d,rfl,A,rfl,B⟩)⟩
 .apply(tN Q.here he hk).mono;rintro e W' ⟨z,v,tx,b,l,c1,c,o,c2,rfl,h,h1⟩;exact⟨z,v,tx,b,l,c1,c,o,c2,j,nn,er,rfl,Q.call h1 h Q.jl,h,hn,zy (.inr (.inr ⟨he,rfl⟩))⟩
def cq7_{p:Prop}(h:p:=by
 intro w P bd bz k M a7 hk;simp only[isT]at hk;obtain⟨kj,hk,y⟩:=hk;obtain⟨g,m,U,sv,z0,a2,A,O,ho,u⟩:=M.Z.type hk;simp only[af_]at A;refine hq_ λQ F=>?_;have q:=M.lt;have a4:=zo z0;have a5:=zo A;have c2:=M.L.c2;have c3:=M.L.c3;have c4:=M.L.c4;have a1:=M.jl;have a8:=M.sl;obtain⟨a,sn,b,rfl⟩:=zW ho;have G:=λX Y Z=>zJ c2 X Y Z;have d4:=λX Y Z=>zJ c4 X Y Z;have d5:=λX Y Z=>fU M.L 4 X Y Z;have a3:(k:Int)<(m:Int):=M_;have a6:¬(n:Int)+1 > 300:=M_;(first|(have:=cc1;have C:=zy (ke M 123 (.slice a sn b)))|(have C:=zy (ke M 91 (.slice a sn b))));(first|(have:=cc1;have B:=zy (fR (n:=n) q 123 (.slice a sn b)))|(have B:=zy (fR (n:=n) q 91 (.slice a sn b))));(first|(have:=cc1;have z:=zy (wj (n:=n) q 123 (.slice a sn b)))|(have z:=zy (wj (n:=n) q 91 (.slice a sn b))));(first|(have:=cc1;have E:=zy (fH (n:=n) q 123 (.slice a sn b)))|(have E:=zy (fH (n:=n) q 91 (.slice a sn b))));(first|(have:=cc1;have hr:=zy (show rdB s env (f+1) (.wrap 123 p t) i n=qi (rdB s env f t) s 123 i (n+1) by rw[rdB,n_ M_]))|(have hr:=zy (show rdB s env (f+1) (.wrap 91 p t) i n=qi (rdB s env f t) s 91 i (n+1) by rw[rdB,n_ M_])));(first|(have:=cc1;have D:=zy (show w.heap.size<(dwn w bd n 123 (.slice a sn b)).heap.size by have:=(wj (n:=n) q 123 (.slice a sn b)).lt;omega))|(have D:=zy (show w.heap.size<(dwn w bd n 91 (.slice a sn b)).heap.size by have:=(wj (n:=n) q 91 (.slice a sn b)).lt;omega)));(first|(have:=cc1;have v:=Yw (c:=123) (ke M 123 (.slice a sn b)).here M_ D_ y (zk ho (ke M 123 (.slice a sn b)).fr (λg hg e=>M.nP (e▸u g hg))) u hR)|(have v:=Yw (c:=91) (ke M 91 (.slice a sn b)).here M_ D_ y (zk ho (ke M 91 (.slice a sn b)).fr (λg hg e=>M.nP (e▸u g hg))) u hR))
 (try simp only[af_]at v)
 replace v:=zy v;replace ho:=zy ho;replace u:=zy u;replace M:=zy M;replace y:=zy y;replace hR:=zy hR;go_in;go_upto_if 39 with fail;(first|(have:=cc1;change Code.wp _ _ _ _ (dwn w bd n 123 (.slice a sn b)))|(change Code.wp _ _ _ _ (dwn w bd n 91 (.slice a sn b))));(first|(have:=cc1;generalize dwn w bd n 123 (.slice a sn b)=W0 at *)|(generalize dwn w bd n 91 (.slice a sn b)=W0 at *));have u0:=z.o.cell 0;have N:=z.o.cell 1;simp only[aa_,ab_,af_]at u0 N;clear c2 c3 c4 G d4 d5 z0 A O;go_wp2_with (go_at_call 50;apply v.o.mono;intro e w2 hP;obtain⟨V,dm,a0,S,m1,c1,T,m2,c2,rfl,x,hm⟩:=hP.any;clear hP;have l:=x.bl B.o M_;have r0:=l.cell 0;have g0:=l.th 0;have r1:=l.cell 1;have g1:=l.th 1;have I:=l.cell 2;have g2:=l.th 2;have J:=l.cell 3;have g3:=l.th 3;have K:=l.cell 4;have g4:=l.th 4;simp only[zf,zq,aa_,ab_,af_]at r0 r1 I J K;revert x hm l;refine h_ λx hm l=>?_);refine zi results26 l.o (λR H _=>?_);rw[F.o];rw[hr.o];exact ip C.o D.o x.o ⟨_,_,_,rfl⟩ ⟨_,_,_,rfl⟩ hm.o H):p:=h
def Vr{s:BA}{env:Ay}{ts:Aq}{n:Nat}(hn:n<300)(hR:∀j nn,n+1<=nn->nn<=300->j<=s.size->wu s env ts f t j nn):wu s env ts (f+1) (.wrap 91 p t) i n:=by
 exact cq7_
def ZF{s:BA}{env:Ay}{ts:Aq}{n:Nat}(hn:n<300)(hR:∀j nn,n+1<=nn->nn<=300->j<=s.size->wu s env ts f t j nn):wu s env ts (f+1) (.wrap 123 p t) i n:=by
 have cc1:=Nat
 exact cq7_
def WH{s:BA}{env:Ay}{ts:Aq}{n c:Nat}{pb:PB}(hn:n<300)(hc:zZ c=true)(A:env c=some pb)(G:Gq s env ts f pb i (n+1)):wu s env ts (f+1) (.leaf c p) i n:=by
 intro w P bd bz k M b4 hk;simp only[isT]at hk;have a3:65<=c/\c<=70:=yd_
 obtain⟨q,B⟩:∃q,c=65+q:=⟨c-65,M_⟩;have T:q<6:=M_;obtain⟨g,m,a2,sv,z0,a5,Q,z2,ho,S⟩:=M.Z.type hk;simp only at Q;refine hq_ λa1 Q_=>?_;have y:=M.lt;have a7:=zo z0;have a8:=zo Q;have c2:=M.L.c2;have c3:=M.L.c3;have c4:=M.L.c4;obtain⟨b,sn,u,rfl⟩:=zW ho;have d2:=λX Y Z=>zJ c2 X Y Z;have d4:=λX Y Z=>zJ c4 X Y Z;have d5:=λX Y Z=>fU M.L 4 X Y Z;have a6:(k:Int)<(m:Int):=M_;have a9:¬(n:Int)+1 > 300:=M_;have M0:=zy (ke M c (.slice b sn u));have B0:=zy (fR (n:=n) y c (.slice b sn u));have C:=zy (wj (n:=n) y c (.slice b sn u));have B2:=zy (fH (n:=n) y c (.slice b sn u));replace M:=zy M;replace ho:=zy ho;replace S:=zy S;have hr:=zy (show rdB s env (f+1) (.leaf c p) i n=yX (rdB s env f) s pb i (n+1) by rw[rdB,n_ M_];show vO _ s env c i (n+1)=_;unfold vO;rw[n_ M_,n_ M_,n_ M_,n_ M_,n_ M_,A]);have U:=zy (show w.heap.size<(dwn w bd n c (.slice b sn u)).heap.size by have:=(wj (n:=n) y c (.slice b sn u)).lt;omega);have y:((c:Int)==110)=false:=x4_
 have y:((c:Int)==116)=false:=x4_
 have y:((c:Int)==105)=false:=x4_
 have y:((c:Int)==108)=false:=x4_
 have y:((c:Int)==115)=false:=x4_
 have y:((c:Int)==91)=false:=x4_
 have y:((c:Int)==123)=false:=x4_
 have y:((c:Int)==40)=false:=x4_
 replace hk:=zy hk;replace G:=zy G;replace A:=zy A;replace B:=zy B;go_in;go_upto_if 39 with fail;change Code.wp _ _ _ _ (dwn w bd n c (.slice b sn u));generalize dwn w bd n c (.slice b sn u)=W0 at *;have a0:=C.o.c0;go_wp2;have l:=M0.o.si (zw.drew W0);obtain⟨so,fv,sb,o,z,x,H,I,J,N,O⟩:=l.Z.named T (by rw[<- B.o];exact A);obtain⟨D,F,E,rfl⟩:=x.1;have V:=l.L.c3;have u0:=C.o.c0;have hwq:=qW q c B T;have b:(q:Int)<6:=M_;have hC:=zy (G.o _ P bd bz so (.slice D F E) sb o z l.here M_ x);replace x:=zy x;refine tr_ 14 (λW=>(z_ W bd 3 (P_ bz)/\z_ W (w.heap.size+1) 0 (U_ c)/\z_ W bz (1+q*5) (.int .u8 so)/\z_ W bz (1+q*5+1) (.slice D F E)/\z_ W bz (1+q*5+2) (.string sb)/\z_ W bz (1+q*5+3) (Z_ o)/\z_ W bz (1+q*5+4) (Z_ z))) ?_;refine tb_ 0 rfl K_ (λ_ _ _ h=>h) xq_ x5_ ?_;refine tb_ 1 rfl K_ (λ_ _ _ h=>h) xq_ x5_ ?_;refine tb_ 2 rfl K_ (λ_ _ _ h=>h) xq_ x5_ ?_;refine tb_ 3 rfl K_ (λ_ _ _ h=>h) xq_ x5_ ?_;refine tb_ 4 rfl K_ (λ_ _ _ h=>h) xq_ x5_ ?_;refine tb_ 5 rfl K_ (λ_ _ _ h=>h) xq_ x5_ ?_;refine tb_ 6 rfl K_ (λ_ _ _ h=>h) xq_ x5_ ?_;refine tb_ 7 rfl K_ (λ_ _ _ h=>h) xq_ x5_ ?_;refine qz 8 (I_ q) rfl K_ (λ_ _ _ h=>h) xq_ ?y8 ?_;case y8=>(rintro W ⟨h1,h2,h3,h4,h5,h6,h7⟩;go_simp<;>first|rfl|exact hwq)
 refine tb_ 9 rfl K_ (λ_ _ _ h=>h) xq_ x5_ ?_;refine tb_ 10 rfl K_ (λ_ _ _ h=>h) xq_ x5_ ?_;refine tb_ 11 rfl K_ (λ_ _ _ h=>h) xq_ x5_ ?_;refine tb_ 12 rfl K_ (λ_ _ _ h=>h) xq_ x5_ ?_;refine yz 13 rfl K_ (λ_=>⟨V,u0,H,I,J,N,O⟩) (λK R=>?_);go_simp;apply hC.o.mono;intro e v hP;obtain⟨b,b,b,b,b,c1,b,b,c2,rfl,u,hm⟩:=hP.any;refine R _ _ ?_;have b:=u.bl (((A_ W0 N_).si (zw.drew W0)).bl B0 id) M_;have r0:=b.cell 0;have x:=b.th 0;have r1:=b.cell 1;have x:=b.th 1;have x:=b.cell 2;have y:=b.th 2;have y:=b.cell 3;have A:=b.th 3;have A:=b.cell 4;have B:=b.th 4;simp only[zf,zq,aa_,ab_,af_]at r0 r1 x y A;revert u hm b;refine h_ λu hm b=>?_;obtain⟨x,x,x,x,G⟩:=hm.o.at;have B:=l.call G u x;have A:=u.o.bl (((A_ W0 N_).si (zw.drew W0)).bl C id) M_;have C:bz<W0.heap.size:=by have:=U.o;omega
 have Q:bz≠bd:=λe=>l.nP (e▸l.Z.zP);have x:∀y,v.cell? ⟨bz,y,none⟩=W0.cell? ⟨bz,y,none⟩:=λy=>World.cell?_of_block (a:=⟨bz,y,none⟩) (u.o.block bz C Q);have y:=A.cell 0;simp only[aa_]at y;have C:(v.cell? ⟨bd,3,none⟩=some (P_ bz)/\v.cell? ⟨w.heap.size+1,0,none⟩=some (U_ c)/\v.cell? ⟨bz,1+q*5,none⟩=some (.int .u8 so)/\v.cell? ⟨bz,1+q*5+1,none⟩=some (.slice D F E)/\v.cell? ⟨bz,1+q*5+2,none⟩=some (.string sb)/\v.cell? ⟨bz,1+q*5+3,none⟩=some (Z_ o)/\v.cell? ⟨bz,1+q*5+4,none⟩=some (Z_ z)):=⟨B.L.c3,y,(x _).trans H,(x _).trans I,(x _).trans J,(x _).trans N,(x _).trans O⟩;refine t1_ 14 C ?_;refine td_ ?_ _;replace l:=zy l;go_wp2;refine zi results26 b.o (λb hF _=>?_);rw[Q_.o];rw[hr.o];exact ip l U u ⟨_,_,_,rfl⟩ ⟨_,_,_,rfl⟩ hm hF
end Go.Proofs.YtahhhgbojlkjnaaGreatDoor
