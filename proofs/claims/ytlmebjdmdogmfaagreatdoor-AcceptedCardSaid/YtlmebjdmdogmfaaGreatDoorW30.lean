import Derived.Test.YtlmebjdmdogmfaaGreatDoorW29
import Derived.Stop.LaidErr
import Derived.ProofKit
import Derived.Lay
import Derived.LaidHandle
set_option linter.unusedVariables false
set_option maxHeartbeats 16000000
set_option maxRecDepth 100000
set_option linter.defProp false
set_option linter.unusedSimpArgs false
open Go.Proofs.Tryz
namespace Go.Proofs.YtlmebjdmdogmfaaGreatDoor
open Go.RowKit
variable {c p:Nat}{ds:Ar}{s sw sr:BA}{A:Bb}{P:Ey}{nm n:String}{ti tp:Av}{text:De}
def kF{ew er:Au}{p':Nat}{X Y:PB}(hb:zi c=false)(hx:ew c=some X)(hy:er c=some Y)(hs:vf X=vf Y):xi ew er (.leaf c p) (.leaf c p')=true:=by
 simp[xi,hb,hx,hy,hs]
def WI{F:FD}{T:Ah}{y rr:PT}{v:Nat}(hv:Via (zx F.ds) (zx F.ds') (.leaf c p) y rr)(hm:xi (zx F.ds) (zx F.ds') (.leaf c p) rr=true)(h:zi c=true\/∃n,zx F.ds c=some (.bytes n)):ClU F T (.leaf c p,y) v:=by
 refine⟨λ_ _ e=>yk_,λ_ hn=>(hv.nev hm hn).elim,λ_ _ _ _ _ e=>yk_,λc1 b d lw lr ow o q e _ hb a=>?_,λc1 b d fw fr g i f e _ hb a=>?_,λc1 b d fw fr g e _ hb a=>?_⟩;all_goals
  cases e;rcases h with h|⟨n,h⟩
  .rw[h]at hb;cases hb
  .rw[h]at a;cases a
def Qy{F:FD}{T:Ah}{x y:PT}{k:Nat}(hx:x.isAlts=false)(hn:Nev (zx F.ds) (zx F.ds') x y)(d:LL F x k):ClU F T (x,y) k:=by
 refine⟨λp ws e=>?_,λ_ _=>⟨k,d,.refl _⟩,λc p p' u u' e hv=>?_,λc p p' lw lr ow o q e hv hb a b=>?_,λc p p' fw fr g i d e hv hb a b=>?_,λc p p' fw fr g e hv hb a b=>?_⟩
 .have e:x=.alts p ws:=e;rw[e]at hx;cases hx
 .have e:x=.wrap c p u:=e;subst e;exact(hv.nev (by simp[xi]) hn).elim
 all_goals
  have e:x=.leaf c p:=e;subst e;exact(hv.nev (kF hb a b rfl) hn).elim
section
variable {F:FD} {W:Aw} {r:By} {rv:Ax} {g:Aq} {T:Ah} {x y rr:PT} {wT:Av} {wx v:Ax} {m:Nat}
def wB(a:F.OK)(b:ql)(h:TbI (uT F) (uI F) (uL F) W r rv g T)(ty:TyV W F.P x (.iface wT wx))(ok:okQ F (.ty x))(hx:x.isAlts=false)(hn:Nev (zx F.ds) (zx F.ds') x y):Calls prog 92 #[P_ F.fb,.iface 308 (.agg #[]),.iface wT wx] W (yB (uT F) (uI F) (uL F) W r rv g T (x,y)):=by
 have j:=vH a;refine sW (tb:=F.tb) h.i.1.i.cell4 (λG hf hb=>?_);have f:=h.new j hf;have k:=bI a b f.i.1 f.i.2 (ty.fr hf u_) ok;apply k.mono;rintro e b ⟨_,E,C,z,rfl,hz,u,b,hs,o⟩;refine yB.ret j h hf hb ?_;obtain⟨l,D⟩:=TbI.data a f b hs o;have q:=(b.t.q z hz).2.2;have sv:=(b.v z hz).1;rw[u]at sv;have B:=svD.data l sv;exact⟨(E,C),rv,g,T,z.n,z.d,rfl,q.1,q.2,l,D,Grw.refl _ _,Qy hx hn (ll o hz u),B.1,λe=>by
  obtain⟨d,d1,a,d3⟩:=B.2 e
  exact⟨d,.never hx hn (d1 _ rfl),a,d3⟩⟩
def fJ(a:F.OK)(h:TbI (uT F) (uI F) (uL F) W r rv g T)(hv:Via (zx F.ds) (zx F.ds') (.leaf c p) y rr)(hm:xi (zx F.ds) (zx F.ds') (.leaf c p) rr=true)(hc:zi c=true\/∃n,zx F.ds c=some (.bytes n)):Calls prog 92 #[P_ F.fb,.iface 275 (.agg #[]),.iface wT wx] W (yB (uT F) (uI F) (uL F) W r rv g T (.leaf c p,y)):=
 eB (λb hf=>⟨r,rv,g,T,0,.nilIface,rfl,M_,.inl rfl,h.new (vH a) hf,C_ hf (λ_ h=>h),Grw.refl _ _,WI hv hm hc,(vH a).z _ _ _⟩)
def mr(d:F.OK)(J:ql){Z:Ds}(I:KOK (uT F) (uI F) (uL F) 54 prV m)(h:TbI (uT F) (uI F) (uL F) W r rv g T)(ty:TyV W F.P x (.iface wT wx))(ok:okQ F (.ty x))(a1:okY F rr)(hx:x.isAlts=false)(hv:Via (zx F.ds) (zx F.ds') x y rr)(V:xi (zx F.ds) (zx F.ds') x rr=false->Nev (zx F.ds) (zx F.ds') x y)(hm:90000<=T.length+m)(U:MtV W F.P F.P' F.s F.s' (zx F.ds) (zx F.ds') Z x rr v):Calls prog 92 #[P_ F.fb,v,.iface wT wx] W (yB (uT F) (uI F) (uL F) W r rv g T (x,y)):=by
 have f:=vH d;cases U with
 |never h0=>exact wB d J h ty ok hx (V h0)
 |same hc h0=>exact fJ d h hv h0 (.inl hc)
 |items hc ha hb=>
  obtain⟨aT,ax,rfl⟩:=ha.iface;obtain⟨bT,bx,rfl⟩:=hb.iface;obtain⟨k1,K,L⟩:=a1;unfold okT at K;unfold vq at L;refine lz (λH hf B=>?_);have k:=sG d I (h.new f hf) (ha.fr hf u_) (hb.fr hf u_) (ty.fr hf u_) ok ⟨k1.wrap,K.2,L⟩ hv hm;exact k.mono (λe N hp=>yB.ret f h hf B hp)
 |body hn hx' hy' ha hb hz hmb hs=>
  have l:=xM hn;cases hmb with
  |never h0=>exact absurd hs h0
  |same=>exact fJ d h hv (kF l hx' hy' hs) (.inr ⟨_,hx'⟩)
  |flds=>
   cases ha with
   |recd pw ho hP hF hp=>
    cases hb with
    |recd pr ho' hP' hF' hp'=>
     obtain⟨ua,uc,rfl⟩:=zw ho;obtain⟨va,vc,rfl⟩:=zw ho';refine cd (λH hf B=>?_);have k:=da d J I (h.new f hf) (xh.fr ⟨ho,hP,hF⟩ hf u_) (xh.fr ⟨ho',hP',hF'⟩ hf u_) hp hp' hv (kF l hx' hy' hs) l hx' hy' hm;exact k.mono (λe N hp=>yB.ret f h hf B hp)
  |syms=>
   cases ha with
   |enum pw ho hP hu hp=>
    cases hb with
    |enum pr ho' hP' hu' hp'=>
     obtain⟨ua,uc,rfl⟩:=zw ho;obtain⟨va,vc,rfl⟩:=zw ho';obtain⟨ud,rfl⟩:=hu.ptr;obtain⟨vd,rfl⟩:=hu'.ptr;rename_i lw lr ow o;have hg:=(d.g _ _ hx').1;have Q:=(d.g' _ _ hy').1;refine ui (λH hf B=>?_);have k:=Vt (p:=(pw:Int)) (q:=(pr:Int)) (a:=ud) (zj ho hf u_) (zj ho' hf u_) (hu'.fr hf u_) hg.1 Q.1;apply k.mono;rintro e N ⟨G,X⟩;refine yB.ret f h hf B ?_;have M:=(h.new f hf).new f G;rcases X with⟨rfl,O⟩|⟨i,j,hi,hr,rfl⟩
     .refine⟨r,rv,g,T,0,.nilIface,rfl,M_,.inl rfl,M,C_ G (λ_ h=>h),Grw.refl _ _,?_,f.z _ _ _⟩;refine⟨λ_ _ e=>yk_,λ_ hn=>(hv.nev (kF l hx' hy' hs) hn).elim,λ_ _ _ _ _ e=>yk_,λc1 C D a4 a3 a5 o1 q e _ hb b E Y hr=>?_,λc1 C D fw fr g i R e _ hb b=>?_,λc1 C D fw fr g e _ hb b=>?_⟩
      .cases e;rw[hx']at b;cases b;rw[hy']at E;cases E;have hl:=ai_ Y;refine absurd ?_ (O q _ hl);rw[au_,av_,hl]at hr;exact hr
      .cases e;rw[hx']at b;cases b
      .cases e;rw[hx']at b;cases b
     .have S:=(aj_.1 hi).1;have a0:=hg.2.1 j (ah_ hi);have hc:j.1<256:=by
       have:97<=j.1/\j.1<=122:=by simpa[zl] using a0
       omega
      have a2:lw.length<=300:=hg.1;refine⟨r,rv,g,T,1,_,rfl,M_,.inr ⟨_,_,rfl⟩,M,C_ G (λ_ h=>h),Grw.refl _ _,?_,λe=>M_,λ_=>?_⟩
      .refine⟨λ_ _ e=>yk_,λ_ hn=>(hv.nev (kF l hx' hy' hs) hn).elim,λ_ _ _ _ _ e=>yk_,λ_ _ _ _ _ _ _ _ _ _ _ _ _ _ _=>.refl _,λc1 C D fw fr g i R e _ hb b=>?_,λc1 C D fw fr g e _ hb b=>?_⟩
       .cases e;rw[hx']at b;cases b
       .cases e;rw[hx']at b;cases b
      .refine⟨.mk 101 (i:Int) noB [] [],.sym hv l hx' hy' S (by rw[au_,av_,hi];exact hr),by simp[nd3,ndT,za],λ_ u hu=>?_⟩;have hu:u=_:=hu;subst hu;refine .flat (.sym i j.1 M_) (λn l' e=>?_);simp only[Value.iface.injEq,Value.agg.injEq,true_and,Array.mk.injEq,List.cons.injEq,Value.int.injEq,and_true]at e;obtain⟨b,E⟩:=e;obtain rfl:i=n:=M_;obtain rfl:l'=j.1:=M_;exact⟨by simp[fU,hx',au_,av_,hi],hc⟩
def eU(b:F.OK)(j:ql){Z:Ds}(f:KOK (uT F) (uI F) (uL F) 54 prV m)(h:TbI (uT F) (uI F) (uL F) W r rv g T)(ty:TyV W F.P x (.iface wT wx))(ok:okQ F (.ty x))(z:okY F y)(hm:90000<=T.length+m)(G:MeV W F.P F.P' F.s F.s' (zx F.ds) (zx F.ds') Z x y v):Calls prog 92 #[P_ F.fb,v,.iface wT wx] W (yB (uT F) (uI F) (uL F) W r rv g T (x,y)):=by
 have d:=vH b;cases G with
 |outb X ho hX hb hP=>
  obtain⟨L,bx,rfl⟩:=hb.iface;obtain⟨M,N,rfl⟩:=zw ho;refine sQ (λD hf l=>?_);have k:=Zt b f (h.new d hf) (zj ho hf u_) hP (λi t e=>(hX i t e).fr hf u_) (hb.fr hf u_) ok z hm;exact k.mono (λe K hp=>yB.ret d h hf l hp)
 |flat fx fy q=>
  have hy:y.isAlts=false:=by cases y<;>first|rfl|exact fy.elim
  have hx:x.isAlts=false:=by cases x<;>first|rfl|exact fx.elim
  exact mr b j f h ty ok z hx (.inl ⟨hy,rfl⟩) (λh0=>.inl ⟨hy,h0⟩) hm q
 |into fx a=>
  rename_i p rs;have hx:x.isAlts=false:=by cases x<;>first|rfl|exact fx.elim
  cases hk:xZ (zx F.ds) (zx F.ds') x rs 0 none with
  |none=>
   rw[hk]at a;have a:v=_:=a;subst a;exact wB b j h ty ok hx (.inr ⟨p,rs,rfl,hk⟩)
  |some k=>
   rw[hk]at a;obtain⟨rr,T',u,hr,rfl,E,q⟩:=a;have o:=ah_ hr;obtain⟨H,I,C⟩:=z;have B:=I;unfold okT at B;unfold vq at C;have J:okY F rr:=⟨H.alts rr o,(vI B.2 rr o).2,(kU C.2 rr o)⟩;refine eP (λD hf l=>?_);have k:=mr b j f (h.new d hf) (ty.fr hf u_) ok J hx (.inr ⟨p,rs,k,rfl,hk,hr⟩) (λh0=>by rw[E]at h0;cases h0) hm (q.fr hf u_ u_);exact k.mono (λe K hp=>yB.ret d h hf l hp)
end
def gi{F:FD}(S:F.OK)(a3:ql){m:Nat}(B:KOK (uT F) (uI F) (uL F) 54 prV m):FOK (uT F) (uI F) (uL F) 53 (P_ F.fb) prV m:=by
 rintro W r rv g T ⟨x,y⟩ v h G ⟨⟨u,u',rfl,ty,O⟩,-⟩ hm;obtain⟨l,q,rfl⟩:=ty.iface;obtain⟨z,bx,rfl⟩:=O.iface;obtain⟨U,M⟩:=y_ (yB (uT F) (uI F) (uL F) W r rv g T (x,y));rw[<- M.o];have C:=vH S;obtain⟨w1,hw1⟩:=e_ ((W.alloc (.cells #[.iface l q,.iface z bx] 92)).alloc (.cells #[O_,.nilIface] 85));have H:Fr W w1 N_:=x9_
 have I:Blk w1 W.heap.size [.iface l q,.iface z bx] 92:=xg_
 have Q:Blk w1 (W.heap.size+1) [O_,.nilIface] 85:=by
  rw[hw1];have:=B_ (W.alloc (.cells #[.iface l q,.iface z bx] 92)) #[O_,.nilIface] 85;rw[zm]at this;exact this
 have hl:=λx (hx:TSS (uT F) (uL F) rv r x)=>(h.li C hx);have a4:F.fb<W.heap.size:=y2_
 have fb:∀V,Fr w1 V N_->Blk V F.fb [F.sv,.iface F.sT F.sx,F.sv',.iface F.rT F.rx,P_ F.tb,P_ F.tu] 89:=λV j=>(h.new C (H.trans j u_)).i.1.i.b;obtain⟨sa,sc,a1⟩:=zw h.i.1.i.D.row;obtain⟨ra,rc,a2⟩:=zw h.i.1.i.E.row;have J:H_ (∀V,Fr w1 V N_->V.cell? ⟨F.fb,0,none⟩=some F.sv/\V.cell? ⟨F.fb,1,none⟩=some (.iface F.sT F.sx)/\V.cell? ⟨F.fb,2,none⟩=some F.sv'/\V.cell? ⟨F.fb,3,none⟩=some (.iface F.rT F.rx)/\V.cell? ⟨W.heap.size,0,none⟩=some (.iface l q)/\V.cell? ⟨W.heap.size,1,none⟩=some (.iface z bx)):=zy (λV j=>⟨(fb V j).cell 0,(fb V j).cell 1,(fb V j).cell 2,(fb V j).cell 3,(j.bl I id).cell 0,(j.bl I id).cell 1⟩);have call:H_ (∀V,Fr w1 V N_->Calls prog 86 #[.agg #[F.sv,.iface F.sT F.sx,F.sv',.iface F.rT F.rx],.iface l q,.iface z bx] V λe w'=>∃v,e=.returned v/\Fr V w' N_/\(∃T u,v=.iface T u)/\Calls prog 92 #[P_ F.fb,v,.iface l q] w' (yB (uT F) (uI F) (uL F) w' r rv g T (x,y))):=zy (λV j=>by
  have hf:=H.trans j u_
  have tV:=h.new C hf
  have k:=aO (sT:=F.sT) (sx:=F.sx) (rT:=F.rT) (rx:=F.rx) tV.i.1.i.D tV.i.1.i.E (ty.fr hf u_) (O.fr hf u_) G.1.2.1 G.2.2.1 G.2.2.2
  apply k.mono
  rintro e w' ⟨v,rfl,f',a0⟩
  have Z:=hf.trans f' u_
  exact⟨v,rfl,f',a0.iface,eU S a3 B (h.new C Z) (ty.fr Z u_) G.1 G.2 hm a0⟩)
 have fin:H_ (∀V f e,Fr w1 V N_->yB (uT F) (uI F) (uL F) V r rv g T (x,y) e f->∃(n:Nat) (d:Value),e=.returned (.agg #[I_ n,d])/\IfV d/\Blk f (W.heap.size+1) [O_,.nilIface] 85/\(f.cell? ⟨F.fb,0,none⟩=some F.sv/\f.cell? ⟨F.fb,1,none⟩=some (.iface F.sT F.sx)/\f.cell? ⟨F.fb,2,none⟩=some F.sv'/\f.cell? ⟨F.fb,3,none⟩=some (.iface F.rT F.rx)/\f.cell? ⟨W.heap.size,0,none⟩=some (.iface l q)/\f.cell? ⟨W.heap.size,1,none⟩=some (.iface z bx))/\U (.returned (.agg #[I_ n,d])) ((f.setCell ⟨W.heap.size+1,0,none⟩ (I_ n)).setCell ⟨W.heap.size+1,1,none⟩ d)):=zy (λV f e j hp=>by
  obtain⟨r',rv',g',T',n,d,rfl,hn,hd,ht,hs,hg,hc,hv⟩:=hp
  have b3:=hs.1.bl (j.bl Q id) (λe=>o1_ ((hl _ e).2))
  have b0:=hs.1.bl (j.bl I id) (λe=>o1_ ((hl _ e).2))
  have bf:=ht.i.1.i.b
  refine⟨n,d,rfl,hd,b3,⟨bf.cell 0,bf.cell 1,bf.cell 2,bf.cell 3,b0.cell 0,b0.cell 1⟩,?_⟩
  rw[M.o]
  have N:=J_ f (W.heap.size+1) 0 1 (I_ n) d
  have hs':=(C_ (H.trans j u_) (λ_ h=>h)).trans hs
  exact⟨r',rv',g',T',n,d,rfl,hn,hd,ht.put C (by show F.fb<W.heap.size+1;omega) b3 N,⟨hs'.1.trans N (λx hx e=>M_),hs'.2⟩,hg,hc,C.svp _ _ _ _ _ _ _ _ hv b3 N⟩)
 have c0:=J.o w1 (A_ _ _);rw[a1,a2]at c0 call J fin;replace hw1:=zy hw1;show Calls prog 53 #[P_ F.fb,.agg #[.iface l q,.iface z bx]] W U;go_in;go_upto_region 1 with fail;rw[<- hw1.o];refine tr_ 13 (λV=>z_ V F.fb 0 (.slice sa F.ds.length sc)/\z_ V F.fb 1 (.iface F.sT F.sx)/\z_ V F.fb 2 (.slice ra F.ds'.length rc)/\z_ V F.fb 3 (.iface F.rT F.rx)/\z_ V W.heap.size 0 (.iface l q)/\z_ V W.heap.size 1 (.iface z bx)) ?_;refine tz_ 0 ?_;refine tz_ 1 ?_;refine tz_ 2 ?_;refine tz_ 3 ?_;refine tz_ 4 ?_;refine tz_ 5 ?_;refine tz_ 6 ?_;refine tz_ 7 ?_;refine tz_ 8 ?_;refine tz_ 10 ?_;refine tz_ 11 ?_;refine zh 9 rfl K_ (λ_=>c0) (λK B=>?_);go_simp;apply(call.o _ (A_ w1 _).drew).mono;rintro e w2 ⟨v,rfl,X,⟨j,j,rfl⟩,L⟩;refine B _ _ ?_;have j:=(A_ w1 N_).drew.trans X u_;have c2:=J.o w2 j;have Y:=zy (λf e=>fin.o w2 f e j);replace L:=zy L;refine zh 12 rfl K_ (λ_=>c2) (λK B=>?_);go_simp;apply L.o.mono;rintro e f hp;obtain⟨n,d,rfl,hd,hb,c3,hP⟩:=Y.o f e hp;refine B _ _ ?_;have q:=hb.cell 0;have z:=hb.cell 1;have f:=hb.th 0;have f:=hb.th 1;have f:=(λW a m=>run_store prog W a d m hd.one);have f:=(hb.set 0 (I_ n)).set 1 d;have j:=f.cell 0;have l:=f.cell 1;simp only[am_,an_,aa_,ab_]at q z j l;replace hP:=zy hP;refine t1_ 13 c3 ?_;refine td_ ?_ _;go_wp2;refine bodyPost_ret (v:=.agg #[I_ n,d]) (by simp[results,results53,go_sem,j,l]) rfl ?_;exact hP
def jv:∀a W,(callFunc 53 a).run prog W=.ok (.enter 53 a) W:=qZ func53 K_ rfl
def ZQ{F:FD}(b:F.OK){W:Aw}{a:Es}{v:Ay}(h:(uT F).QV W a v):Gl kvU a v:=by
 obtain⟨⟨u,u',rfl,h1,d⟩,ha⟩:=h;obtain⟨T,x,rfl⟩:=h1.iface;obtain⟨T',f,rfl⟩:=d.iface;have:=lQ ha.1.1;have:=lQ ha.2.1;have:=b.hs;have:=b.hs';exact⟨T,x,T',f,a.1.place,a.2.place,rfl,rfl,M_,M_,wR h1,wR d⟩
def lV{F:FD}(b:F.OK)(d:ql):∀m,KOK (uT F) (uI F) (uL F) 54 prV m:=by
 intro m;induction m with
 |zero=>exact ng (Xo b) (vH b) jv (λW a v h=>ZQ b h) M_ (λf e=>by cases e)
 |succ m ih=>exact ng (Xo b) (vH b) jv (λW a v h=>ZQ b h) M_ (λf e=>by cases e;exact gi b d ih)
def sA{F:FD}(b:F.OK)(l:ql){W:Aw}{r:By}{rv:Ax}{T:Ah}{a:Es}{j vT:Av}{ux vx:Ax}(h:TbI (uT F) (uI F) (uL F) W r rv false T)(z:Gd (ClU F) T)(ty:TyV W F.P a.1 (.iface j ux))(o:TyV W F.P' a.2 (.iface vT vx))(ok:uQ F a):Calls prog 30 #[P_ F.tu,.agg #[.iface j ux,.iface vT vx]] W (cg (uT F) (uI F) (uL F) W r rv a):=by
 have d:=vH b;have qv:(uT F).QV W a [.iface j ux,.iface vT vx]:=⟨⟨_,_,rfl,ty,o⟩,ok⟩;have o:=@Kj (PT×PT) (Value×List (Rw Qu)) (uT F) kvU (uQ F) (λa=>a.1.place*300+a.2.place) 90000 F.fb F.tu F.mu (.func (.func 52) #[] #[]) (.func (.func 53) #[P_ F.fb] #[]) W r rv T a j vT ux vx (Xo b) d h z qv M_;have z:uI F=IU kvU (uQ F) (λa=>a.1.place*300+a.2.place) 90000:=rfl;have B:uL F=⟨F.fb,F.tu,F.mu,.func (.func 52) #[] #[],.func (.func 53) #[P_ F.fb] #[]⟩:=rfl;rw[<- z,<- B]at o;refine o ?_ ?_ ?_
 .intro V o;have z:=d.qv _ _ _ _ _ qv o (λ_ f=>f.elim);have k:=lV b l 90000 V r rv false T a [.iface j ux,.iface vT vx] (h.new d o) ok z (by show 90000<=_;omega);exact k
 .intro V r rv g T j o ha;have k:=mM d (λW a v h=>ZQ b h) j o ha;exact k
 .intro V r rv g T i x j hx;have z:=ah_ hx;have k:=PI (Xo b) d (λw n m dv kv=>jA) jv j hx (λW' u u' o e=>by
   have k:=gi b l (lV b l 90000) W' r rv g T x.a x.v (j.new d o) (j.t.q x z).1 (d.qv _ _ _ _ _ (j.v x z).2 o (λ_ f=>f.elim)) (by show 90000<=_;omega)
   rw[e]at k
   exact k)
  exact k
def Xd(kf ff:Ax)(TT:Av)(w:Aw)(e:Ak)(w':Aw):Prop:=
 e=.returned (.pointer (some ⟨w.heap.size+1,0,none⟩))/\Fr w w' N_/\w'.heap.size=w.heap.size+2/\w'.heap[w.heap.size]?=some (.map #[] 0)/\Blk w' (w.heap.size+1) [kf,ff,L_,.map (some w.heap.size),.bool false] TT
def XU{kf ff:Ax}{TT:Av}{w:Aw}:Xd kf ff TT w (.returned (.pointer (some ⟨w.heap.size+1,0,none⟩))) ((w.alloc (.map #[] 0)).alloc (.cells #[kf,ff,L_,.map (some w.heap.size),.bool false] TT)):=by
 refine⟨rfl,((A_ w _).alloc _).alloc _,by rw[zm,zm],?_,?_⟩
 .have h:(w.alloc (.map #[] 0)).heap[w.heap.size]?=some (.map #[] 0):=by show(w.heap.push _)[w.heap.size]?=_;simp
  have hf:=(A_ (w.alloc (.map #[] 0)) N_).alloc (.cells #[kf,ff,L_,.map (some w.heap.size),.bool false] TT);rw[hf.block w.heap.size (by rw[zm];omega) id];exact h
 .have h:=B_ (w.alloc (.map #[] 0)) #[kf,ff,L_,.map (some w.heap.size),.bool false] TT;rw[zm]at h;exact h
def KE{w:Aw}{fn:Et}{fa:Dy}:Calls prog 49 #[.func (.methodOf 46 "Place") #[] #[],.func (.func fn) fa #[]] w (Xd (.func (.methodOf 46 "Place") #[] #[]) (.func (.func fn) fa #[]) 213 w):=by
 obtain⟨b,a⟩:=y_ (Xd (.func (.methodOf 46 "Place") #[] #[]) (.func (.func fn) fa #[]) 213 w)
 rw[<- a.o];have mm:∀t W,(Instr.makeMap t none).run prog W=.ok (.map (some W.heap.size)) (W.alloc (.map #[] 0)):=λ_ _=>rfl;go_in;go_wp2;try go_ret
 rw[a.o];exact XU
def KI{w:Aw}{k fn:Et}{fa:Dy}:Calls prog 51 #[.func (.func k) #[] #[],.func (.func fn) fa #[]] w (Xd (.func (.func k) #[] #[]) (.func (.func fn) fa #[]) 134 w):=by
 obtain⟨b,a⟩:=y_ (Xd (.func (.func k) #[] #[]) (.func (.func fn) fa #[]) 134 w);rw[<- a.o];have mm:∀t W,(Instr.makeMap t none).run prog W=.ok (.map (some W.heap.size)) (W.alloc (.map #[] 0)):=λ_ _=>rfl;go_in;go_wp2;try go_ret
 rw[a.o];exact XU
def ee(sv sv':Ax)(sT rT:Av)(sx rx:Ax)(w:Aw)(e:Ak)(w':Aw):Prop:=
 ∃fb tb mb tu mu,e=.returned (P_ fb)/\Fr w w' N_/\w.heap.size<=fb/\fb<tb/\fb<mb/\fb<tu/\fb<mu/\mb≠mu/\
  Blk w' fb [sv,.iface sT sx,sv',.iface rT rx,P_ tb,P_ tu] 89/\
  w'.heap[mb]?=some (.map #[] 0)/\Blk w' tb [.func (.methodOf 46 "Place") #[] #[],.func (.func 50) #[P_ fb] #[],L_,.map (some mb),.bool false] 213/\
  w'.heap[mu]?=some (.map #[] 0)/\Blk w' tu [.func (.func 52) #[] #[],.func (.func 53) #[P_ fb] #[],L_,.map (some mu),.bool false] 134
def dU{w:Aw}{sa ra:Am}{sn sc rn rc:Nat}{sT rT:Av}{sx rx:Ax}:Calls prog 29 #[.agg #[.slice sa sn sc,.iface sT sx,.slice ra rn rc,.iface rT rx]] w (ee (.slice sa sn sc) (.slice ra rn rc) sT rT sx rx w):=by
 obtain⟨u,z⟩:=y_ (ee (.slice sa sn sc) (.slice ra rn rc) sT rT sx rx w);rw[<- z.o];obtain⟨w1,hw1⟩:=e_ ((w.alloc (.cells #[.slice sa sn sc,.iface sT sx,.slice ra rn rc,.iface rT rx] 83)).alloc (.cells #[.slice sa sn sc,.iface sT sx,.slice ra rn rc,.iface rT rx,.pointer none,.pointer none] 89));obtain⟨fb,i⟩:=e_ (w.heap.size+1);have C:Fr w w1 N_:=xz_
 have B:w1.heap.size=fb+1:=by rw[hw1,zm,zm,i]
 have D:Blk w1 fb [.slice sa sn sc,.iface sT sx,.slice ra rn rc,.iface rT rx,.pointer none,.pointer none] 89:=by
  rw[hw1,i];have h:=B_ (w.alloc (.cells #[.slice sa sn sc,.iface sT sx,.slice ra rn rc,.iface rT rx] 83)) #[.slice sa sn sc,.iface sT sx,.slice ra rn rc,.iface rT rx,.pointer none,.pointer none] 89;rw[zm]at h;exact h
 have one:H_ (∀e a,Xd (.func (.methodOf 46 "Place") #[] #[]) (.func (.func 50) #[P_ fb] #[]) 213 w1 e a->e=.returned (.pointer (some ⟨fb+2,0,none⟩))/\(∃x,a.cell? ⟨fb,4,none⟩=some x)/\a.frozen? ⟨fb,4,none⟩=false/\∀(d:World),d=a.setCell ⟨fb,4,none⟩ (.pointer (some ⟨fb+2,0,none⟩))->∀e' b,Xd (.func (.func 52) #[] #[]) (.func (.func 53) #[P_ fb] #[]) 134 d e' b->e'=.returned (.pointer (some ⟨fb+4,0,none⟩))/\(∃x,b.cell? ⟨fb,5,none⟩=some x)/\b.frozen? ⟨fb,5,none⟩=false/\u (.returned (P_ fb)) (b.setCell ⟨fb,5,none⟩ (.pointer (some ⟨fb+4,0,none⟩)))):=zy (λe a k=>by
  obtain⟨rfl,H,L,J,b2⟩:=k
  rw[B]at L J b2
  have u:=H.bl D id
  refine⟨by rw[B],⟨_,u.cell 4⟩,u.th 4,λd f e' b l=>?_⟩
  have E:Fr a d (λx=>x=fb):=by rw[f];exact X_ a ⟨fb,4,none⟩ _
  have N:Blk d fb [.slice sa sn sc,.iface sT sx,.slice ra rn rc,.iface rT rx,.pointer (some ⟨fb+2,0,none⟩),.pointer none] 89:=by rw[f];exact u.set 4 _
  have M:d.heap.size=fb+3:=by rw[f];show(a.heap.modify fb _).size=_;rw[Array.size_modify,L]
  obtain⟨rfl,f4,u,K,G⟩:=l
  rw[M]at u K G
  have u:=f4.bl N id
  refine⟨by rw[M],⟨_,u.cell 5⟩,u.th 5,?_⟩
  have j:Fr b (b.setCell ⟨fb,5,none⟩ (.pointer (some ⟨fb+4,0,none⟩))) (λx=>x=fb):=X_ b ⟨fb,5,none⟩ (.pointer (some ⟨fb+4,0,none⟩))
  have O:Blk (b.setCell ⟨fb,5,none⟩ (.pointer (some ⟨fb+4,0,none⟩))) fb [.slice sa sn sc,.iface sT sx,.slice ra rn rc,.iface rT rx,.pointer (some ⟨fb+2,0,none⟩),.pointer (some ⟨fb+4,0,none⟩)] 89:=u.set 5 _
  rw[z.o]
  have u:fb+1+1=fb+2:=rfl
  have u:fb+3+1=fb+4:=rfl
  have I:∀g,g≠fb->g<a.heap.size->(b.setCell ⟨fb,5,none⟩ (.pointer (some ⟨fb+4,0,none⟩))).heap[g]?=a.heap[g]?:=λg hg hl=>by
   rw[j.block g M_ hg,f4.block g M_ id,E.block g hl hg]
  refine⟨fb,fb+2,fb+1,fb+4,fb+3,rfl,?_,M_,M_,M_,M_,M_,M_,O,?_,?_,?_,j.bl G M_⟩
  .refine Fr.trans (Fr.trans (Fr.trans (C.trans H u_) E (λx hx e=>?_)) f4 u_) j (λx hx e=>?_)
   .have e:x=fb:=e
    omega
   .have e:x=fb:=e
    omega
  .rw[I _ M_ M_]
   exact J
  .unfold Blk at b2⊢
   rw[I _ M_ M_]
   exact b2
  .rw[j.block _ M_ (by show ¬_=fb;omega)]
   exact K)
 have call:H_ (∀V,Calls prog 49 #[.func (.methodOf 46 "Place") #[] #[],.func (.func 50) #[P_ fb] #[]] V _):=zy (λV=>KE)
 have Q:H_ (∀V,Calls prog 51 #[.func (.func 52) #[] #[],.func (.func 53) #[P_ fb] #[]] V _):=zy (λV=>KI);replace hw1:=zy hw1;replace i:=zy i;clear C B D z;go_in;go_upto_region 2 with fail;rw[<- hw1.o,<- i.o];clear hw1 i;go_upto_region 3 with(go_at_call 49;apply(call.o _).mono;rintro e a k;obtain⟨rfl,⟨i,c4⟩,t4,nx⟩:=one.o e a k;replace nx:=zy nx;clear k);obtain⟨d,f⟩:=e_ (a.setCell ⟨fb,4,none⟩ (.pointer (some ⟨fb+2,0,none⟩)));have S:=zy (nx.o d f);rw[<- f];clear f nx c4 t4;go_wp2_with (go_at_call 51;apply(Q.o _).mono;rintro e b l;obtain⟨rfl,⟨a,c5⟩,t5,a⟩:=S.o e b l;replace a:=zy a;clear l);try go_ret
 exact a
def bm{w:Aw}{k:Av}{R:Value->Option (DataW Unit×List MemPlace)}{b:Nat}(h:w.heap[b]?=some (.map #[] 0)):w.ownsMap prog k R b 0 (.map []):=
 ⟨#[],0,h,⟨by simp,Go.MapKept.stamped_empty 0,by simp⟩,l_,rfl⟩
def oq{b:Nat}{q:PB×Nat}(h:vh b c ds=some q):∃d∈ds,d.letter=c:=by
 induction ds generalizing b with
 |nil=>cases h
 |cons x r ih=>
  simp only[vh]at h;split at h
  .rename_i e;exact⟨x,by simp,by simpa using e⟩
  .obtain⟨d,hd,e⟩:=ih h;exact⟨d,by simp[hd],e⟩
def WZ{t:PT}(hp:ze s=.ok (ds,t)){X:PB}(h:zx ds c=some X):zY c=true:=by
 unfold zx at h;obtain⟨q,hl,_⟩:=b4_.1 h;obtain⟨d,hd,rfl⟩:=oq hl;exact((jT hp).2.2.2.1 d hd).1
def XV{t:PT}(hp:ze s=.ok (ds,t)):wK s t:=by
 unfold ze at hp;split at hp
 .cases hp
 .split at hp
  .cases hp
  .rename_i t' j a;split at hp
   .cases hp
   .cases hp;exact gH a
structure Few(ew er:Au)(t t':PT)(m:Nat):Prop where
 le:m<=301
 lo:Lo (Un ew er t t') m
 hi:∀d,Un ew er t t' d->kn m (ndT d)
def Few.uniq{ew er:Au}{t t':PT}{m i:Nat}(h:Few ew er t t' m)(f:Few ew er t t' i):m=i:=by
 have key:∀{a b:Nat},Few ew er t t' a->Few ew er t t' b->a≠0->b≠0/\b<=a:=λ{a b} h f ha=>by
  rcases h.lo with e|⟨d,hd,e⟩
  .exact absurd e ha
  .have:=f.hi d hd;unfold kn at this;unfold nd3 at e;split at e<;>omega
 by_cases h0:m=0
 .by_cases h1:i=0
  .omega
  .exact absurd h0 (key f h h1).1
 .have a:=key h f h0;have b:=key f h a.1;omega
def qM(w:Aw)(ew er:Au)(t t':PT)(et:Av)(ex:Ax)(e:Ak)(w':Aw):Prop:=
 ∃(m:Nat),Few ew er t t' m/\Fr w w' N_/\((m=0/\e=.returned (.tuple #[.nilIface,.nilIface]))\/(m=301/\e=.returned (.tuple #[.nilIface,.iface et ex]))\/(1<=m/\m<=300/\∃T v x J,e=.returned (.tuple #[.iface T v,.nilIface])/\ndT x<=300/\DaV ew w' J x t (.iface T v)))
structure UM2(w:Aw)(ew er:Au)(t t':PT)(q n:Nat)(d:Ax)(V:Aw):Prop where
 few:Few ew er t t' n
 d1:IfV d
 fr:Fr w V N_
 bq:Blk V q [I_ n,d] 85
 d0:n=0\/n=301->d=.nilIface
 dd:n≠0->n<=300->∃x J,ndT x<=300/\DaV ew V J x t d
def Zd{w0 w:Aw}{P Q:Az}{s':BA}{ds':Ar}{t t':PT}{sa ra:Am}{sn sc rn rc:Nat}{xs xs':Ay}{sT rT:Av}{sx rx:Ax}{et:Av}{ex:Ax}(D:yR w P s ds (.slice sa sn sc) xs)(E:yR w Q s' ds' (.slice ra rn rc) xs')(hT:TyV w P t (.iface sT sx))(b5:TyV w Q t' (.iface rT rx))(G:yu w0 w)(h0:w0.heap.size<=w.heap.size)(hP:∀g,P g->g<w.heap.size)(hQ:∀g,Q g->g<w.heap.size)(hs:s.size<=300)(hs':s'.size<=300)(hp:ze s=.ok (ds,t))(Y:ze s'=.ok (ds',t'))(hn:xL ds t=[])(hu:vz ds t=[])(d2:xL ds' t'=[])(d6:vz ds' t'=[])(b4:ql)(hE:vN 5 w et ex):Calls prog 16 #[.agg #[.slice sa sn sc,.iface sT sx],.agg #[.slice ra rn rc,.iface rT rx]] w (qM w (zx ds) (zx ds') t t' et ex):=by
 obtain⟨a6,B⟩:=y_ (qM w (zx ds) (zx ds') t t' et ex);rw[<- B.o];obtain⟨f1,f2,f3,f4,f5⟩:=vZ hs hp hn hu;obtain⟨k1,k2,k3,k4,k5⟩:=vZ hs' Y d2 d6;have ft:=jI t (xA hs hp).2.1;have a9:=jI t' (xA hs' Y).2.1;obtain⟨w1,hw1⟩:=e_ ((w.alloc (.cells #[.slice sa sn sc,.iface sT sx] 48)).alloc (.cells #[.slice ra rn rc,.iface rT rx] 48));have A1:Fr w w1 N_:=xz_
 have N:Blk w1 w.heap.size [.slice sa sn sc,.iface sT sx] 48:=by rw[hw1];exact(B_ w _ _).alloc _
 have O:Blk w1 (w.heap.size+1) [.slice ra rn rc,.iface rT rx] 48:=by
  rw[hw1];have h:=B_ (w.alloc (.cells #[.slice sa sn sc,.iface sT sx] 48)) #[.slice ra rn rc,.iface rT rx] 48;rw[zm]at h;exact h
 have z1:w1.heap.size=w.heap.size+2:=by rw[hw1,zm,zm]
 have a7:H_ (∀e b,ee (.slice sa sn sc) (.slice ra rn rc) sT rT sx rx w1 e b->∃fb tu,e=.returned (P_ fb)/\(∀V,Fr b V N_->V.cell? ⟨fb,5,none⟩=some (P_ tu)/\V.cell? ⟨w.heap.size,1,none⟩=some (.iface sT sx)/\V.cell? ⟨w.heap.size+1,1,none⟩=some (.iface rT rx))/\∀V,Fr b V N_->Calls prog 30 #[P_ tu,.agg #[.iface sT sx,.iface rT rx]] V λe i=>∃(n:Nat) (d:Value),e=.returned (.agg #[I_ n,d])/\IfV d/\(∀q cs,b.heap.size<=q->q<V.heap.size->Blk V q cs 85->Blk i q cs 85)/\V.heap.size<=i.heap.size/\∀q C,b.heap.size<=q->Blk C q [I_ n,d] 85->(Fr i C N_\/(∃cs,Blk i q cs 85)/\Fr i C (λx=>x=q))->UM2 w (zx ds) (zx ds') t t' q n d C):=zy (λe b I=>by
  obtain⟨fb,tb,mb,tu,mu,rfl,S,f6,b7,b6,b8,b9,e5,bF,a3,bT,a4,bU⟩:=I
  have u:=A1.trans S u_
  refine⟨fb,tu,rfl,λV j=>⟨(j.bl bF id).cell 5,(j.bl (S.bl N id) id).cell 1,(j.bl (S.bl O id) id).cell 1⟩,λV j=>?_⟩
  let F:FD:=⟨fb,tb,mb,tu,mu,P,Q,s,s',ds,ds',.slice sa sn sc,.slice ra rn rc,sT,rT,sx,rx,xs,xs',w0⟩
  have a5:F.OK:=⟨hs,hs',f1,k1,f5,k5,λc X h=>WZ hp h,λx hx=>by have:=hP x hx;show x<fb;omega,λx hx=>by have:=hQ x hx;show x<fb;omega,by show w0.heap.size<=fb;omega,e5⟩
  have z:=u.trans j u_
  have fx:FX F V:=⟨j.bl bF id,D.fr z u_,E.fr z u_,G.fr z h0 (λ_ f=>f.elim)⟩
  have e7:V.heap[mb]?=some (.map #[] 0):=by
   have a1:mb<b.heap.size:=(Array.getElem?_eq_some_iff.1 a3).1
   rw[j.block mb a1 id]
   exact a3
  have e8:V.heap[mu]?=some (.map #[] 0):=by
   have a1:mu<b.heap.size:=(Array.getElem?_eq_some_iff.1 a4).1
   rw[j.block mu a1 id]
   exact a4
  have td:TbI (dT F) (dI F) (dL F) V () (L_) false []:=⟨fx,⟨j.bl bT id,World.ownsRow_nil _ _ _ _,⟨.map [],bm e7,qO.nil⟩,b7,b6,List.nodup_nil,λr hr=>by cases hr⟩,λx hx=>by cases hx⟩
  have f0:TbI (uT F) (uI F) (uL F) V (L_,[]) (L_) false []:=⟨⟨td,λr hr=>by cases hr⟩,⟨j.bl bU id,World.ownsRow_nil _ _ _ _,⟨.map [],bm e8,qO.nil⟩,b8,b9,List.nodup_nil,λr hr=>by cases hr⟩,λx hx=>by cases hx⟩
  have k:=sA a5 b4 (a:=(t,t')) f0 (λr hr=>by cases hr) (hT.fr z u_) (b5.fr z u_) ⟨⟨XV hp,f4,ft⟩,XV Y,k4,a9⟩
  apply k.mono
  rintro e i ⟨r3,e9,T3,x,rfl,hx,d7,ht,a2,hG⟩
  have q:=(ht.t.q x hx).2.2
  have sv:svD F i (λy=>¬TSS (uT F) (uL F) e9 r3 y) (UD F x.a) (UA x.a) x.n x.d:=(ht.v x hx).1
  rw[d7]at sv
  have e3:=eI hG
  have few:Few (zx ds) (zx ds') t t' x.n:=⟨q.1,by
   by_cases e:x.n=0
   .exact .inl e
   .obtain⟨y,l,y2,_⟩:=sv.2 e
    exact .inr ⟨y,l,y2⟩,λd hd=>e3.all (λ_ _ h=>h) hd x.n ⟨x,hx,d7,rfl⟩⟩
  have tl:∀y,TSS (uT F) (uL F) (L_) (L_,[]) y->fb<y/\y<b.heap.size:=λy hy=>by
   have e6:TbI (uT F) (uI F) (uL F) b (L_,[]) (L_) false []:=by
    have a0:=u
    refine⟨⟨⟨⟨bF,D.fr a0 u_,E.fr a0 u_,G.fr a0 h0 (λ_ f=>f.elim)⟩,⟨bT,World.ownsRow_nil _ _ _ _,⟨.map [],bm a3,qO.nil⟩,b7,b6,List.nodup_nil,λr hr=>by cases hr⟩,λx hx=>by cases hx⟩,λr hr=>by cases hr⟩,⟨bU,World.ownsRow_nil _ _ _ _,⟨.map [],bm a4,qO.nil⟩,b8,b9,List.nodup_nil,λr hr=>by cases hr⟩,λx hx=>by cases hx⟩
   exact e6.li (vH a5) hy
  have a8:Fr w i N_:=z.trans a2.1 (λy hy e=>o1_ ((tl y e).1))
  refine⟨x.n,x.d,rfl,q.2,λqq cs h1 I hb=>a2.1.bl hb (λe=>o1_ ((tl _ e).2)),a2.1.size,λqq C z C z=>?_⟩
  refine⟨few,q.2,?_,C,sv.1,λC e2=>?_⟩
  .rcases z with h|⟨_,h⟩
   .exact a8.trans h u_
   .exact a8.trans h (λy hy e=>by have e:y=qq:=e;have:=S.size;omega)
  .obtain⟨y,_,y2,H⟩:=sv.2 C
   have l:ndT y<=300:=by unfold nd3 at y2;split at y2<;>omega
   have C:=H e2 t rfl
   rcases z with h|⟨⟨cs,hc⟩,h⟩
   .exact⟨y,_,l,C.fr h u_⟩
   .exact⟨y,_,l,C.ot hc D_ D_ h⟩)
 have call:H_ (∀V,Calls prog 29 #[.agg #[.slice sa sn sc,.iface sT sx,.slice ra rn rc,.iface rT rx]] V (ee (.slice sa sn sc) (.slice ra rn rc) sT rT sx rx V)):=zy (λV=>dU);have big:H_ (∀V,Fr w V N_->V.cell? ⟨5,0,none⟩=some (.iface et ex)):=zy (λV j=>hE.fr j id);have d8:=N.c0;have d9:=N.c1;have e0:=O.c0;have e1:=O.c1;replace hw1:=zy hw1;go_in;go_upto_region 1 with fail;rw[<- hw1.o];go_upto_region 2 with(go_at_call 29;apply(call.o _).mono;rintro e b I;obtain⟨fb,tu,rfl,H,st⟩:=a7.o e b I;replace H:=zy H;replace st:=zy st);go_cut [7] (λv V=>∃q n d,v=P_ q/\H_ (UM2 w (zx ds) (zx ds') t t' q n d V));case first=>
  refine tr_ 9 (λV=>z_ V fb 5 (P_ tu)/\z_ V w.heap.size 1 (.iface sT sx)/\z_ V (w.heap.size+1) 1 (.iface rT rx)) ?_;refine tB_ 0 [1,2,3,9] ?_;refine tB_ 1 [2,3,9] ?_;refine tB_ 2 [3,9] ?_;refine tB_ 3 [9] ?_;refine tB_ 4 [5,8,9] ?_;refine tB_ 5 [8,9] ?_;refine tB_ 6 [7,8,9] ?_;refine tB_ 7 [8,9] ?_;refine tB_ 8 [9] ?_;refine jV 9 10 rfl rfl K_ (λ_=>H.o b (A_ _ _)) (λK l=>?_) (λK l=>?_)
  .go_simp;apply(st.o _ (A_ b _).drew).mono;rintro e i ⟨n,d,rfl,hd,U,Z,L⟩;refine l _ _ ?_;have sD:=λW a m=>run_store prog W a d m hd.one;have fin:=zy (L i.heap.size (i.alloc (.cells #[I_ n,d] 85)) Z (B_ i #[I_ n,d] 85) (.inl ((A_ _ _).alloc _)));refine t0_ 10 ?_;refine t0_ 11 ?_;refine td_ ?_ _;go_wp2;go_meet;exact⟨_,_,_,rfl,fin⟩
  .go_simp;refine l _ _ ?_;have u:=(A_ b N_).alloc (.cells #[O_,.nilIface] 85);have B3:=B_ b #[O_,.nilIface] 85;refine zh 9 rfl K_ (λ_=>H.o _ u.drew) (λK l=>?_);go_simp;apply(st.o _ u.drew).mono;rintro e i ⟨n,d,rfl,hd,U,Z,L⟩;refine l _ _ ?_;have sD:=λW a m=>run_store prog W a d m hd.one;have l:=U b.heap.size _ l_ (by show b.heap.size<(b.alloc _).heap.size;rw[zm];omega) B3.drew;have fin:=zy (L b.heap.size ((i.setCell ⟨b.heap.size,0,none⟩ (I_ n)).setCell ⟨b.heap.size,1,none⟩ d) l_ ((l.set 0 _).set 1 _) (.inr ⟨⟨_,l⟩,J_ i b.heap.size 0 1 _ _⟩));have k0:=l.c0;have k1:=l.c1;have b:=l.th 0;have b:=l.th 1;refine t0_ 11 ?_;refine td_ ?_ _;go_wp2;go_meet;exact⟨_,_,_,rfl,fin⟩
 case rest=>
  obtain⟨q,n,d,rfl,M⟩:=hcut;have b:=M.o.bq.c0;have b:=M.o.bq.c1;have b:=big.o _ M.o.fr;by_cases h3:n=301
  .have b:(300:Int)<(n:Int):=M_;have fin:H_ (∀V,Fr wc V N_->a6 (.returned (.tuple #[.nilIface,.iface et ex])) V):=zy (λV j=>by
    rw[B.o]
    exact⟨n,M.o.few,M.o.fr.trans j u_,.inr (.inl ⟨h3,rfl⟩)⟩)
   go_wp2;go_quiet (fail);go_wp2;try go_ret
   exact fin.o _ (by first|exact A_ _ _|exact(A_ _ _).si (zq.drewN _ _)|exact(A_ _ _).drew)
  .have e4:=M.o.few.le;have b:¬((300:Int)<(n:Int)):=M_;have hd:=M.o.d1;have fin:H_ (a6 (.returned (.tuple #[d,.nilIface])) wc):=zy (by
    rw[B.o]
    refine⟨n,M.o.few,M.o.fr,?_⟩
    by_cases b:n=0
    .exact .inl ⟨b,by rw[M.o.d0 (.inl b)]⟩
    .obtain⟨x,J,hx,hv⟩:=M.o.dd b M_
     obtain⟨T,v,rfl⟩:=hv.iface
     exact .inr (.inr ⟨M_,M_,T,v,x,J,rfl,hx,hv⟩))
   rcases hd with rfl|⟨b,tx,rfl⟩;all_goals
    go_wp2;try go_ret
    exact fin
section
variable {w w':Aw} {ew er:Au} {t t':PT} {et:Av} {ex:Ax} {e:Ak} {m:Nat}
def qM.zero(h:qM w ew er t t' et ex e w')(hm:Few ew er t t' 0):e=.returned (.tuple #[.nilIface,.nilIface])/\Fr w w' N_:=by
 obtain⟨m,h1,a,b⟩:=h;have:=h1.uniq hm;rcases b with⟨_,h⟩|⟨h,_⟩|⟨h,_⟩
 .exact⟨h,a⟩
 .omega
 .omega
def qM.big(h:qM w ew er t t' et ex e w')(hm:Few ew er t t' 301):e=.returned (.tuple #[.nilIface,.iface et ex])/\Fr w w' N_:=by
 obtain⟨m,h1,a,b⟩:=h;have:=h1.uniq hm;rcases b with⟨h,_⟩|⟨_,h⟩|⟨_,h,_⟩
 .omega
 .exact⟨h,a⟩
 .omega
def qM.some(h:qM w ew er t t' et ex e w')(hm:Few ew er t t' m)(m1:1<=m)(d:m<=300):∃T v x J,e=.returned (.tuple #[.iface T v,.nilIface])/\Fr w w' N_/\ndT x<=300/\DaV ew w' J x t (.iface T v):=by
 obtain⟨d,h1,d,f⟩:=h;have:=h1.uniq hm;rcases f with⟨h,_⟩|⟨h,_⟩|⟨_,_,T,v,x,J,h,a,b⟩
 .omega
 .omega
 .exact⟨T,v,x,J,h,d,a,b⟩
end
def MG{b:BA}(h:b.size≠0):¬b.toList=[]:=λe=>h (by
 rw[ByteArray.toList_eq]at e
 have:=congrArg List.length e
 rw[Array.length_toList]at this
 exact this)
def CkR(sw sr:BA)(ok:Aq)(tx:BA)(k:Int):Prop:=
 ((zu sw).1=0/\(zu sr).1=0/\∃ds t ds' t' m,ze sw=.ok (ds,t)/\ze sr=.ok (ds',t')/\Few (zx ds) (zx ds') t t' m/\((m=0/\ok=true/\tx=⟨#[]⟩/\k=0)\/(m=301/\ok=false/\tx=⟨#[]⟩/\k=7)\/(1<=m/\m<=300/\ok=false/\0<tx.size/\k=0)))\/
 (¬((zu sw).1=0/\(zu sr).1=0)/\ok=false/\tx=⟨#[]⟩/\k=if (zu sw).1=0 then (zu sr).1 else (zu sw).1)
def GG(w:Aw)(sw sr:BA)(e:Ak)(w':Aw):Prop:=
 ∃tx ev k,e=.returned (.tuple #[.string tx,ev])/\Fr w w' N_/\wQ w' ev k/\((ev=.nilIface/\CkR sw sr (tx.size==0) tx k)\/((∃T x,ev=.iface T x)/\CkR sw sr false tx k))
def cwQx1_{p:Prop}(h:p:=by
 (first|(have:=cc1;subst m3)|(subst m0))
 first
  |have:=cc1
   have fin:H_ (∀V,Fr w V N_->POST (.returned (.tuple #[.string ⟨#[]⟩,.iface 412 (.pointer (some (A 5)))])) V):=zy (λV hV=>by
    rw[Q_.o]
    exact⟨_,_,7,rfl,hV,λW hW=>jd ((S.o.fr hV).fr hW) .leaf,.inr ⟨⟨_,_,rfl⟩,hans.o 301 _ _ _ hm (.inr (.inl ⟨rfl,rfl,rfl,rfl⟩))⟩⟩)
  |have fin:H_ (∀V,Fr w V N_->POST (.returned (.tuple #[.string ⟨#[]⟩,.nilIface])) V):=zy (λV hV=>by
    rw[Q_.o]
    exact⟨_,_,0,rfl,hV,gI (S.o.fr hV),.inl ⟨rfl,hans.o 0 _ _ _ hm (.inl ⟨rfl,rfl,rfl,rfl⟩)⟩⟩)
 replace hm:=zy hm;clear Q_ S hans hA;go_in;go_wp2_with (first
  |(go_at_call 15;apply hBo.o.mono;rintro e w1 ⟨sa,sn,sc,rT,rx,sa',sn',sc',rT',rx',rfl,hf1,hC⟩;replace hC:=zy hC;replace hf1:=zy hf1)
  |(go_at_call 16;apply(hC.o _ (((A_ w1 _).alloc _).alloc _)).mono;intro e w2 hu;(first|(have:=cc1;obtain⟨rfl,hf2⟩:=hu.big hm.o)|(obtain⟨rfl,hf2⟩:=hu.zero hm.o));replace hf2:=zy (((hf1.o.alloc _).alloc _).trans hf2 u_);clear hu))
 try go_ret
 exact fin.o _ hf2.o):p:=h
def Qx{w:Aw}(S:xl A w)(i:yM w)(l:yH w)(j:xe w)(hA:jZ w)(q:ql):Calls prog 10 #[.string sw,.string sr] w (GG w sw sr):=by
 refine hq_ λPOST Q_=>?_;have hB:=zy (pR (sw:=sw) (sr:=sr) S i l j);by_cases a:(zu sw).1=0/\(zu sr).1=0
 .obtain⟨h0,h1⟩:=a;obtain⟨_,ds,t,hp⟩:=tP h0;obtain⟨_,ds',t',d⟩:=tP h1;have hBo:H_ (Calls prog 15 #[.string sw,.string sr] w λe w1=>∃sa sn sc rT rx sa' sn' sc' rT' rx',e=.returned (.tuple #[.agg #[.slice sa sn sc,.iface rT rx],.agg #[.slice sa' sn' sc',.iface rT' rx'],.nilIface])/\Fr w w1 N_/\∀V,Fr w1 V N_->Calls prog 16 #[.agg #[.slice sa sn sc,.iface rT rx],.agg #[.slice sa' sn' sc',.iface rT' rx']] V (qM V (zx ds) (zx ds') t t' 412 (.pointer (some (A 5))))):=zy (hB.o.mono (by
   rintro e w1 ⟨sv,rv,sv',rv',B,he,hf,hm⟩
   rcases hm with⟨_,_,rfl,hx,z⟩|⟨hn,_⟩
   .obtain⟨sa,sn,sc,rT,rx,rfl,rfl⟩:=hx.forms
    obtain⟨sa',sn',sc',rT',rx',rfl,rfl⟩:=z.forms
    refine⟨_,_,_,_,_,_,_,_,_,_,he,hf,λV hV=>?_⟩
    obtain⟨b,b,xs,hs,b,hn,hu,D,C,_⟩:=hx
    rw[hp]at b
    cases b
    obtain⟨b,b,xs',hs',b,G,H,u,E,_⟩:=z
    rw[d]at b
    cases b
    have hz:=hV.size
    have b:=hf.size
    exact Zd (w0:=w) (D.fr hV u_) (u.fr hV u_) (C.fr hV u_) (E.fr hV u_) ((yu.refl w).fr (hf.trans hV u_) l_ (λ_ f=>f.elim)) M_ (λg hg=>M_) (λg hg=>M_) hs hs' hp d hn hu G H q ((S.fr (hf.trans hV u_)).var 5 D_)
   .exact absurd ⟨h0,h1⟩ hn))
  have hans:H_ (∀m ok tx k,Few (zx ds) (zx ds') t t' m->((m=0/\ok=true/\tx=⟨#[]⟩/\k=0)\/(m=301/\ok=false/\tx=⟨#[]⟩/\k=7)\/(1<=m/\m<=300/\ok=false/\0<tx.size/\k=0))->CkR sw sr ok tx k):=zy (λm ok tx k hm h=>.inl ⟨h0,h1,ds,t,ds',t',m,hp,d,hm,h⟩);replace S:=zy S;by_cases u:∃m,Few (zx ds) (zx ds') t t' m
  .obtain⟨m,hm⟩:=u;by_cases m0:m=0
   .exact cwQx1_
   .by_cases m3:m=301
    .have cc1:=Nat;exact cwQx1_
    .have C:=hm.le;have fin:H_ (∀V (tx:BA),0<tx.size->Fr w V N_->POST (.returned (.tuple #[.string tx,.nilIface])) V):=zy (λV tx hp hV=>by
      rw[Q_.o]
      refine⟨_,_,0,rfl,hV,gI (S.o.fr hV),.inl ⟨rfl,?_⟩⟩
      have e:(tx.size==0)=false:=xi_
      rw[e]
      exact hans.o m _ _ _ hm (.inr (.inr ⟨M_,M_,rfl,hp,rfl⟩)))
     have E:H_ (∀V e w2,qM V (zx ds) (zx ds') t t' 412 (.pointer (some (A 5))) e w2->∃T v x J,e=.returned (.tuple #[.iface T v,.nilIface])/\Fr V w2 N_/\ndT x<=300/\DaV (zx ds) w2 J x t (.iface T v)):=zy (λV e w2 hu=>hu.some hm M_ M_);have G:H_ (∀V J x v,DaV (zx ds) V J x t v->Fr w V N_->ndT x<=300->Calls prog 17 #[v] V λe w'=>∃tx:BA,0<tx.size/\e=.returned (.string tx)/\Fr V w' N_):=zy (λV J x v hv hf hx=>lB (w0:=w) hA hv hf.size ((yu.refl w).fr hf l_ (λ_ f=>f.elim)) M_);go_in;go_wp2_with (first
      |(go_at_call 15;apply hBo.o.mono;rintro e w1 ⟨sa,sn,sc,rT,rx,sa',sn',sc',rT',rx',rfl,hf1,hC⟩;replace hC:=zy hC;replace hf1:=zy hf1)
      |(go_at_call 16;apply(hC.o _ (((A_ w1 _).alloc _).alloc _)).mono;intro e w2 hu;obtain⟨T,v,x,J,rfl,hf2,hx,hv⟩:=E.o _ _ _ hu;have b:=((hf1.o.alloc _).alloc _).trans hf2 u_;have hW:=zy (G.o _ _ _ _ hv b hx);replace b:=zy b)
      |(go_at_call 17;apply hW.o.mono;rintro e d ⟨tx,hp,rfl,d⟩;replace d:=zy (b.o.trans d u_);replace hp:=zy hp))
     try go_ret
     exact fin.o _ _ hp d
  .have b:H_ (∀V e w2,¬qM V (zx ds) (zx ds') t t' 412 (.pointer (some (A 5))) e w2):=zy (λV e w2 hu=>u ⟨_,hu.choose_spec.1⟩);go_in;go_wp2_with (first
    |(go_at_call 15;apply hBo.o.mono;rintro e w1 ⟨sa,sn,sc,rT,rx,sa',sn',sc',rT',rx',rfl,hf1,hC⟩;replace hC:=zy hC;replace hf1:=zy hf1)
    |(go_at_call 16;apply(hC.o _ (((A_ w1 _).alloc _).alloc _)).mono;intro e w2 hu;exact absurd hu (b.o _ _ _)))
 .have hans:H_ (CkR sw sr false ⟨#[]⟩ (if (zu sw).1=0 then (zu sr).1 else (zu sw).1)):=zy (.inr ⟨a,rfl,rfl,rfl⟩);replace a:=zy a;go_in;go_wp2_with (go_at_call 15;apply hB.o.mono;rintro e w1 ⟨sv,rv,sv',rv',B,rfl,hf1,hm⟩;(rcases hm with⟨h0,h1,_⟩|⟨_,rfl,rfl,rfl,rfl,⟨T,x,rfl⟩,hk⟩;(exact absurd ⟨h0,h1⟩ a));replace hk:=zy hk;replace hf1:=zy hf1);try go_ret
  rw[Q_.o];exact⟨_,_,_,rfl,(hf1.o.alloc _).alloc _,hk.o.fr (((A_ _ _).alloc _).alloc _),.inr ⟨⟨_,_,rfl⟩,hans⟩⟩
def YY{w:Aw}(S:xl A w)(j:yM w)(q:yH w)(l:xe w)(i:jZ w)(u:ql):Calls prog 4 #[.string sw,.string sr] w λe w'=>∃ok tx k,e=.returned (.tuple #[.bool ok,.string tx,Z_ k])/\Fr w w' N_/\CkR sw sr ok tx k:=by
 refine hq_ λh d=>?_;have B:=zy (Qx (sw:=sw) (sr:=sr) S j q l i u);go_in;go_upto_region 2 with(go_at_call 10;apply B.o.mono;rintro e w1 ⟨tx,i,k,rfl,f,i,hw⟩;replace f:=zy f;have hk:=zy (i w1 (A_ _ _));replace hw:=zy hw);rcases hw.o with⟨rfl,a⟩|⟨⟨T,x,rfl⟩,a⟩
 .have fin:H_ (∀b,b=(tx.size==0)->h (.returned (.tuple #[.bool b,.string tx,Z_ k])) w1):=zy (λb hb=>by
   rw[d.o]
   exact⟨_,_,_,rfl,f,by rw[hb];exact a⟩)
  by_cases hz:tx.size=0
  .have C:tx=⟨#[]⟩:=ByteArray.ext (by have:tx.data.size=0:=hz;exact Array.eq_empty_of_size_eq_zero this);subst C;go_wp2_with (go_at_call 11;apply hk.o.mono;rintro e z ⟨rfl,rfl⟩);refine bodyPost_ret (v:=.tuple #[.bool true,.string ⟨#[]⟩,Z_ k]) (by simp[results,results4,go_sem]) rfl ?_;exact fin.o _ rfl
  .have C:=MG hz;have D:(tx.size==0)=false:=by rw[beq_eq_false_iff_ne];exact hz
   go_wp2_with (go_at_call 11;apply hk.o.mono;rintro e z ⟨rfl,rfl⟩);refine bodyPost_ret (v:=.tuple #[.bool false,.string tx,Z_ k]) (by simp[results,results4,go_sem,C]) rfl ?_;exact fin.o _ D.symm
 .have fin:H_ (h (.returned (.tuple #[.bool false,.string tx,Z_ k])) w1):=zy (by
   rw[d.o]
   exact⟨_,_,_,rfl,f,a⟩)
  go_wp2_with (go_at_call 11;apply hk.o.mono;rintro e z ⟨rfl,rfl⟩);refine bodyPost_ret (v:=.tuple #[.bool false,.string tx,Z_ k]) (by simp[results,results4,go_sem]) rfl ?_;exact fin
def kH.ptr{w w':Aw}{e:Ak}(h:kH w s e w'):∃pa,e=.returned (.tuple #[.pointer pa,Z_ (zu s).1,Z_ (zu s).2])/\Fr w w' N_:=by
 obtain⟨a,rfl,hf,hz⟩:=h;split at hz
 .obtain⟨_,_,_,_,_,_,_,rfl,_⟩:=hz;exact⟨_,rfl,hf⟩
 .subst hz;exact⟨_,rfl,hf⟩
def rh(sw sr:BA):Int:=if (zu sw).1=0 then (zu sr).1 else (zu sw).1
def YZ{w:Aw}:Calls prog 5 #[.string sw,.string sr] w λe w'=>∃pa pb,e=.returned (.tuple #[.pointer pa,.pointer pb,Z_ (rh sw sr)])/\Fr w w' N_:=by
 refine hq_ λi f=>?_;have d:=zy ((ah (w:=w) (s:=sw)).mono (λe w' h=>h.ptr));have hB:=zy (λV=>(ah (w:=V) (s:=sr)).mono (λe w' h=>h.ptr));have fin:H_ (∀V pa pb,Fr w V N_->i (.returned (.tuple #[.pointer pa,.pointer pb,Z_ (rh sw sr)])) V):=zy (λV pa pb j=>by rw[f.o];exact⟨_,_,rfl,j⟩);unfold rh at fin;by_cases h0:(zu sw).1=0
 .rw[i_ h0]at fin;rw[h0]at d;generalize (zu sr).1=q at *;generalize (zu sr).2=q2 at *;generalize (zu sw).2=q3 at *;go_in;go_upto_region 4 with(go_at_call 12;apply d.o.mono;rintro e w1 ⟨pa,rfl,a⟩;replace a:=zy a);go_wp2_with (go_at_call 12;apply(hB.o _).mono;rintro e f ⟨pb,rfl,f⟩;have b:=zy (fin.o _ pa pb (a.o.trans f u_)));refine bodyPost_ret (v:=.tuple #[.pointer pa,.pointer pb,Z_ q]) (by simp[results,results5,go_sem]) rfl ?_;exact b
 .rw[n_ h0]at fin;have f:((zu sw).1==0)=false:=by simp;exact h0
  generalize (zu sw).1=q at *;generalize (zu sw).2=q2 at *;go_in;go_wp2_with (go_at_call 12;apply d.o.mono;rintro e w1 ⟨pa,rfl,a⟩;have b:=zy (fin.o _ none none a));refine bodyPost_ret (v:=.tuple #[.pointer none,.pointer none,Z_ q]) (by simp[results,results5,go_sem]) rfl ?_;exact b
def FO{t:PT}(h0:(zu s).1=0)(hp:ze s=.ok (ds,t)){fs:An}{g:PF}(he:zx ds c=some (.recd fs))(hg:g∈fs)(hn:xD (zx ds) s g=none):g.dflt=none:=by
 have hs:=(iC h0 hp).1;have f:qm s ds=[]:=by
  rw[qK hs hp]at h0;split at h0
  .simp at h0
  .simp at h0
  .simp at h0
  .assumption
 unfold qm at f;rw[List.flatMap_eq_nil_iff]at f;obtain⟨d,hd,e⟩:=XE he;have:=f g (by unfold zk;exact b8_.2 ⟨d,hd,by rw[e];exact hg⟩);unfold dfB at this;unfold xD at hn;cases e:g.dflt with
 |none=>rfl
 |some ab=>
  obtain⟨a,b⟩:=ab;rw[e]at this hn;simp only at this hn;rw[hn]at this;simp at this
def Mx{b:BA}{ds':Ar}{t t':PT}{m:Nat}(h:lZ sw b)(h1:(zu sr).1=0)(hp:ze sw=.ok (ds,t))(j:ze sr=.ok (ds',t'))(i:Few (zx ds) (zx ds') t t' m)(hm:m=0\/m=301):∃d x n,rdB b (zx ds) 301 t 0 0=.ok (d,b.size,n)/\Dat (zx ds) d t/\ndT d<=300/\mkP (zx ds) (zx ds') (xD (zx ds') sr) 300 t t' d=some x:=by
 obtain⟨h0,l,l,d,f,a,hn,rfl⟩:=h;rw[hp]at f;cases f;obtain⟨hs,f,l⟩:=iC h0 hp;have hw:=BI (vZ hs hp f l).2.2.2.2 (byT d) 301 d t 0 0 a ⟨M_,λk _=>by rw[bu_]⟩ M_ M_;rw[bu_]at hw;cases hk:mkP (zx ds) (zx ds') (xD (zx ds') sr) 300 t t' d with
 |none=>
  have hu:=PP (λc fs g he hg hn=>FO h1 j he hg hn) 300 t t' d hn a hk;have:=i.hi d hu;unfold kn at this;omega
 |some x=>exact⟨d,x,_,hw,a,hn,hk⟩
def em{w:Aw}{dm:BA}(K:Kit A w)(M:ql):Calls prog 3 #[.string sw,.string sr,.string dm] w λe w'=>e=.returned (.bool true)/\Fr w w' N_:=by
 refine hq_ λG D=>?_;have fin:H_ (∀V,Fr w V N_->G (.returned (.bool true)) V):=zy (λV J=>by rw[D.o];exact⟨rfl,J⟩);have H:=zy (λW (i:Fr w W N_)=>(K.fr i).enc sw dm);have u:=zy (λW (i:Fr w W N_)=>K.fr i);have hB:=zy (λV=>YZ (w:=V) (sw:=sw) (sr:=sr));obtain⟨S,J,L,hP,G⟩:=K;have z:=zy (YY (sw:=sw) (sr:=sr) S J L hP G M);go_in;go_upto_region 2 with(go_at_call 4;apply z.o.mono;rintro e w1 ⟨ok,tx,k,rfl,q,l⟩;replace q:=zy q;replace l:=zy l);rcases l.o with⟨h0,h1,ds,t,ds',t',m,hp,C,I,hw⟩|⟨E,rfl,rfl,hk⟩
 .have D:rh sw sr=0:=by unfold rh;rw[i_ h0,h1]
  rw[D]at hB;have j:=zy (λ(b:BA) (hg:lZ sw b) (hz:b.size<=4000) hm=>show ∃x,∀W,Fr w W N_->Calls prog 9 #[.string sw,.string sr,.string b] W (eJ W b.size x) from by
   obtain⟨d,x,n,G,J,L,M⟩:=Mx hg h1 hp C I hm
   exact⟨x,λW i=>iV (eO (u.o W i) h0 h1 hp C hz G J L M)⟩)
  go_upto_region 6 with(first
   |(go_at_call 5;apply(hB.o _).mono;rintro e Q ⟨pa,pb,rfl,h⟩;replace h:=zy (q.o.trans h u_))
   |(go_at_call 7;apply(H.o _ h).mono;rintro e i ⟨b,g,rfl,f3,hg⟩;replace hg:=zy hg;replace f3:=zy (h.o.trans f3 u_);have a:=zy (fin.o _ f3)))
  by_cases B:g=0
  .subst B;by_cases hz:4000<b.size
   .have O:(4000:Int)<(b.size:Int):=M_;rcases hw with⟨rfl,rfl,rfl,rfl⟩|⟨rfl,rfl,rfl,rfl⟩|⟨_,_,rfl,_,rfl⟩;all_goals
     go_wp2_with go_in;exact a
   .have O:¬(4000:Int)<(b.size:Int):=M_;rcases hw with⟨rfl,rfl,rfl,rfl⟩|⟨rfl,rfl,rfl,rfl⟩|⟨_,_,rfl,_,rfl⟩;case inr.inr=>
     go_wp2_with go_in;exact a
    all_goals
     obtain⟨x,f⟩:=j.o b (hg.o rfl) M_ M_;have i:((b.size:Int)==(b.size:Int))=true:=x7_
     unfold eJ at f;by_cases N:ndT x > 300
     .simp only[i_ N]at f;replace f:=zy f;go_wp2_with (first
       |(go_at_call 9;apply(f.o _ f3).mono;rintro e R ⟨f4,tx,k,n,rfl,rfl,rfl,rfl⟩;rw[KN];have a:=zy (fin.o _ (f3.o.trans f4 u_)))
       |go_in)
      exact a
     .simp only[n_ N]at f;replace f:=zy f;go_wp2_with (first
       |(go_at_call 9;apply(f.o _ f3).mono;rintro e R ⟨f4,tx,k,n,rfl,rfl,rfl⟩;have a:=zy (fin.o _ (f3.o.trans f4 u_)))
       |go_in)
      exact a
  .have f:(g==0)=false:=by simp;exact B
   rcases hw with⟨rfl,rfl,rfl,rfl⟩|⟨rfl,rfl,rfl,rfl⟩|⟨_,_,rfl,_,rfl⟩;all_goals
    go_wp2_with go_in;exact a
 .have i:k=rh sw sr:=hk;rw[<- i]at hB;have f:k≠0:=by
   rw[hk];by_cases h0:(zu sw).1=0
   .rw[i_ h0];exact λh1=>E ⟨h0,h1⟩
   .rw[n_ h0];exact h0
  have j:(k==k)=true:=x7_
  have j:(k==0)=false:=by simp;exact f
  go_wp2_with (first
   |(go_at_call 5;apply(hB.o _).mono;rintro e Q ⟨pa,pb,rfl,h⟩;have a:=zy (fin.o _ (q.o.trans h u_)))
   |go_in)
  all_goals exact a
def Xr(P:Ey)(W:Aw)(ps:List MemPlace):Prop:=∀b off,MemPlace.cell b off∈ps->
 (∃c t,W.heap[b]?=some (.cells c t (0,0)))/\∀u v,W.cell? ⟨b,off,none⟩=some (.iface u v)->Value.okWide P W .any 0 u v
def Wa(nm:String)(text:De):DataW Unit:=.iface nm (.ptr (.agg [.lit (.string text)]))
structure uu(P:Ey)(nm:String)(ti tp:Av):Prop where
 all:∃te ts ms f,P.underlying ti=some (.interface ms)/\(∀u,P.typeName? 3 u=some nm->u=tp)/\P.underlying tp=some (.pointer te)/\P.underlying te=some (.struct #[f])/\f.type=ts/\f.offset=0/\P.underlying ts=some .string/\P.cellsOf te=1/\P.cellsOf ts=1
def ku{W:Aw}{r:List (String×DataW Unit)}{b:List MemPlace}{g:Nat}(T:uu P nm ti tp)(h:DataW.LaidVars P W ((n,Wa nm text)::r) b)(l:Xr P W b)(hg:P.globalNamed n=some g)(G:(P.globals[g]?).map (·.type)=some ti):∃a q,W.var? P n=some #[.iface tp (.pointer (some a))]/\DataW.LaidVars P W r q/\b=[.cell g 0,.cell a.block a.off]++q:=by
 obtain⟨te,ts,ms,f,hi,E,hp,he,C,B,hs,hc,o⟩:=T.all;obtain⟨b,b,cs0,b,b,I,i,b,j,z,D,d⟩:=h;obtain rfl:=Option.some.inj (hg.symm.trans i);obtain rfl:=Option.some.inj (G.symm.trans b);obtain⟨b⟩:=cs0;have H:∀u v,b=[.iface u v]->Value.okWide P W .any 0 u v:=λu v e=>by
  subst e;exact(l g 0 (by rw[d];simp[MemPlace.row])).2 u v (by simpa using World.var?_cell i j 0)
 obtain⟨k,b,rfl,b,b,b,b⟩:=errorString_of_trod hi E hp he C B hs hc o z H;refine⟨k,I,j,D,?_⟩;rw[d,b];simp[MemPlace.row]
def bG{W:Aw}(T:uu P nm ti tp){g:Nat}(hg:P.globalNamed n=some g)(d:(P.globals[g]?).map (·.type)=some ti):∀{l:List (String×DataW Unit)} {ps:List MemPlace},DataW.LaidVars P W l ps->Xr P W ps->(n,Wa nm text)∈l->
  ∃a,W.var? P n=some #[.iface tp (.pointer (some a))]/\.cell a.block a.off∈ps
 | [],_,_,_,hm=>by cases hm
 |(n',d')::r,ps,h,hR,hm=>by
  rcases ao_.1 hm with e|hm
  .cases e;obtain⟨a,q,hv,_,rfl⟩:=ku T h hR hg d;exact⟨a,hv,by simp⟩
  .obtain⟨f,f,cs0,f,f,f,_,_,_,_,i,rfl⟩:=h;obtain⟨a,hv,f⟩:=bG T hg d i (λb off hb=>hR b off zs_) hm;exact⟨a,hv,by simp[f]⟩
def mB{W:Aw}(T:uu P nm ti tp){m:String}(E:n≠m){G:De}{g g':Nat}(hg:P.globalNamed n=some g)(C:(P.globals[g]?).map (·.type)=some ti)(z:P.globalNamed m=some g')(D:(P.globals[g']?).map (·.type)=some ti){a a':Addr}(ha:W.var? P n=some #[.iface tp (.pointer (some a))])(u:W.var? P m=some #[.iface tp (.pointer (some a'))]):∀{l:List (String×DataW Unit)} {ps:List MemPlace},DataW.LaidVars P W l ps->Xr P W ps->ps.Nodup->(n,Wa nm text)∈l->(m,Wa nm G)∈l->a≠a'
 | [],_,_,_,_,hm,_=>by cases hm
 |(n',d')::r,ps,h,hR,hn,hm,d=>by
  rcases ao_.1 hm with e|hr
  .cases e;rcases ao_.1 d with e'|d
   .cases e';exact absurd rfl E
   .obtain⟨b,q,hv,f,rfl⟩:=ku T h hR hg C;obtain⟨j,i,B⟩:=bG T z D f (λx off hb=>hR x off zs_) d;rw[ha]at hv;rw[u]at i;have k:a=b:=by simpa using hv
    have o:a'=j:=by simpa using i
    subst k;subst o;rintro rfl;simp[B]at hn
  .rcases ao_.1 d with e'|d
   .cases e';obtain⟨b,q,hv,f,rfl⟩:=ku T h hR z D;obtain⟨j,i,B⟩:=bG T hg C f (λx off hb=>hR x off zs_) hr;rw[u]at hv;rw[ha]at i;have k:a'=b:=by simpa using hv
    have o:a=j:=by simpa using i
    subst k;subst o;rintro rfl;simp[B]at hn
   .obtain⟨i,i,cs0,i,i,i,_,_,_,_,f,rfl⟩:=h;exact mB T E hg C z D ha u f (λb off hb=>hR b off zs_) (List.Nodup.sublist (List.sublist_append_right _ _) hn) hr d
open Go.ChangeShapes Go.WideShapes Go.ChangeAt
def zD:List (String×DataW Unit):=Rows.acceptedRow.laid
def ry:(zD.filter λx=>x.2.handleName?.isNone)=zD:=K_
def bW:(zD.filter λx=>x.2.handleName?.isSome)=[]:=K_
def iY(os:Os):((World.holding prog os ⟨#[],#[],[]⟩).layVars prog zD).os=os:=World.layVars_os _ _ _
def rj(os:Os):(World.holding prog os ⟨#[],#[],[]⟩).layFits prog zD []=true:=by kernel_rfl
def uS(os:Os):(World.holding prog os ⟨#[],#[],[]⟩).layIfaces prog zD ((World.holding prog os ⟨#[],#[],[]⟩).layVars prog zD)=true:=by kernel_rfl
def dA(os:Os)(b:Dy):laidMetH prog zD (((World.holding prog os ⟨#[],#[],[]⟩).layVars prog zD).forCall (λ_ _=>0) ⟨#[],b,[]⟩).memory:=by
 have a:(zD.filter λx=>(zD.map (·.1)).contains x.1)=zD:=List.filter_eq_self.2 λx hx=>List.contains_iff_mem.2 (a5_.2 ⟨x,hx,rfl⟩);have d:(zD.filter λx=>!(zD.map (·.1)).contains x.1)=[]:=List.filter_eq_nil_iff.2 λx hx=>by rw[List.contains_iff_mem.2 (a5_.2 ⟨x,hx,rfl⟩)];simp
 have h:laidMet prog zD ((World.holding prog os ⟨#[],#[],[]⟩).layVars prog zD):=laidMet_layVars (w0:=World.holding prog os ⟨#[],#[],[]⟩) (zD.map (·.1)) [] (by rw[a]) (by rw[a];exact rj os) (by rw[a];exact uS os) (by rw[d];exact LaidIn.none);refine laidMetH_of_parts ?_ ?_
 .rw[ry];exact h.of_heap (by simp[World.memory,World.forCall,Input.heap])
 .rw[bW];rfl
def uN(os:Os)(a:Dy):(((World.holding prog os ⟨#[],#[],[]⟩).layVars prog zD).forCall (λ_ _=>0) ⟨#[],a,[]⟩).Shaped prog:=World.shaped_of_ZipB K_ K_
end Go.Proofs.YtlmebjdmdogmfaaGreatDoor
