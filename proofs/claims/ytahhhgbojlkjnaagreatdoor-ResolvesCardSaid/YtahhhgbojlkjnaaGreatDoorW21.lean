import Derived.Test.YtahhhgbojlkjnaaGreatDoorW20
set_option maxHeartbeats 16000000
set_option maxRecDepth 100000
set_option linter.defProp false
set_option linter.unusedSimpArgs false
open Go.Proofs.Tryz
namespace Go.Proofs.YtahhhgbojlkjnaaGreatDoor
open Go.RowKit
variable {ds:Ak}{p n m0:Nat}{vk vs:Ax}{ks:Aa}
mutual
def kM(env:Ay):∀(d:DT) (t:PT),okD d->(txT env d t).size+4011<=8022*ndT d
 | .mk k n tx ks ds,t,h=>by
  unfold okD at h;have h1:=wq h.1.1 h.1.2.1;have a:=fk env t n.toNat ks ds 0 0 (k==123) h.2.2.2.1 h.2.2.2.2.2;have a:=fk env t n.toNat ks ds 0 0 false h.2.2.2.1 h.2.2.2.2.2;unfold ndT txT;split
  .rw[zE];simp only[au_,ar_];omega
  split
  .split<;>(rw[zE];simp only[au_,ar_];omega)
  split
  .omega
  split
  .simp only[as_,zE,au_,ar_];omega
  split
  .simp only[as_,zE,au_,ar_];omega
  split
  .rw[zE];simp only[au_,ar_];omega
  split
  .simp only[as_,zE,au_,ar_];omega
  .unfold Ya;split
   .simp only[as_,zE,au_,ar_];omega
   split<;>(simp only[as_,zE,au_,ar_];omega)
def fk(env:Ay)(t:PT)(n:Nat):∀(ks:List BA) (ds:List DT) (i q:Nat) (c:Bool),(∀x∈ks,x.size<=4000)->qo ds->(jn q (xA env t n i c ks ds)).size<=8022*zM ds
 | _,[],_,_,_,_,_=>by simp only[xA,jn];show(0:Nat)<=_;omega
 |ks,d::r,i,q,c,hk,h=>by
  unfold qo at h;have h1:=kM env d (zN env t n i) h.1;have e:=fk env t n ks.tail r (i+1) (q+1) c (λx hx=>hk x (List.mem_of_mem_tail hx)) h.2;have e:(ks.headD noB).size<=4000:=by
   cases ks with
   |nil=>exact aj_ _
   |cons a l=>exact hk a x8_
  have e:(if q=0 then noB else bts [44]).size<=1:=by
   split
   .exact aj_ _
   .rw[zE];exact l_
  have e:(if c=true then ks.headD noB++bts [58] else noB).size<=4001:=by
   split
   .rw[as_,zE];simp only[au_,ar_];omega
   .exact aj_ _
  simp only[xA,jn,zM];simp only[as_];omega
end
def dR(env:Ay)(t:PT)(n:Nat)(keyed:Ap):∀(ds:List DT) (i:Nat) (ks:List BA) (q:Nat),(xA env t n i keyed ks ds).take q=xA env t n i keyed ks (ds.take q)
 | [],i,ks,q=>by simp[xA]
 |d::r,i,ks,0=>by simp[xA]
 |d::r,i,ks,q+1=>by simp only[xA,List.take_succ_cons];rw[dR env t n keyed r (i+1) ks.tail q]
def jy(env:Ay)(t:PT)(n:Nat)(keyed:Ap)(ks:Aa)(ds:Ak)(q:Nat)(hk:∀x∈ks,x.size<=4000)(h:qo ds):(upT env t n keyed ks ds q).size<=8022*zM (ds.take q):=by
 unfold upT;rw[dR];exact fk env t n ks (ds.take q) 0 0 keyed hk (dE h q)
def aB(w0:Aw)(env:Ay)(m:Nat):Prop:=∀(d:DT),ndT d<=m->∀(w:World) (P:Nat->Prop) (B:Nat) (t:PT) (v u:Value) (b:BA),DaV env w P d t v->(∀g,P g->g<B)->w0.heap.size<=B->B<=w.heap.size->yt w0 w->ye w B u b->b.size+8022*ndT d<=90000000->
 Calls prog 36 #[u,v] w (yQ w B (b++txT env d t))
def yt.fru{w0 w w':Aw}{B:Nat}(h:yt w0 w)(a:FrU B w w')(h0:w0.heap.size<=B)(hB:B<=w.heap.size):yt w0 w':=h.fr a.all M_ (λg e=>M_)
section
variable {w0 w:Aw} {env:Ay} {m:Nat} {P:Au} {B:Nat} {u:Ax} {b:BA} {t:PT}
def cwPN1_{p:Prop}(h:p:=by
 have hlt':¬((q:Int)<(ds.length:Int)):=M_;(first|(have:=cc1;have hsz:=jy env t 0 true ks ds q hk.o hok.o)|(have hsz:=jy env t 0 false [] ds q x8_ hok.o));rw[a6_ M_]at hsz;rw[pL M_]at hBu hsz;(first|(have:=cc1;have a:(b1++jn 0 (xA env t 0 0 true ks ds)).size<=100000000:=yq_)|(have a:(b1++jn 0 (xA env t 0 0 false [] ds)).size<=100000000:=yq_))
 clear hsz;replace hFw:=zy hFw;replace hBu:=zy hBu;go_wp2_with (at_builtin;(first|(have:=cc1;refine qm rfl _ _ rfl 125 rfl D_ hBu.o a M_ rfl rfl rfl ?_)|(refine qm rfl _ _ rfl c rfl hc256 hBu.o a M_ rfl rfl rfl ?_));intro a a d e);try go_ret
 rw[Q_.o];exact⟨_,rfl,d,hFw.o.trans e⟩):p:=h
def PN(J:aB w0 env m){la:Ao}{lc:Nat}{Y:Cx}{o c:Nat}{y z:Int}(hy:y=(o:Int))(hz:z=(c:Int))(C:o<256)(hc256:c<256)(hm:zM ds<=m)(hP:∀g,P g->g<B)(h0:w0.heap.size<=B)(hB:B<=w.heap.size)(A:yt w0 w)(hu:ye w B u b)(hs:b.size+8022*(1+zM ds)<=90000000)(ho:w.ownsRow 0 69 1 (.slice la ds.length lc) ds.length ((List.range ds.length).flatMap λi=>[Y i]))(hl:∀g,(Value.slice la ds.length lc).ownBlock=some g->P g)(hd:∀i d,ds[i]?=some d->DaV env w P d (zN env t 0 i) (Y i)):Calls prog 63 #[u,.int .u8 y,.slice la ds.length lc,.int .u8 z] w (yQ w B (b++(bts [o]++(jn 0 (xA env t 0 0 false [] ds)++bts [c])))):=by
 subst hy;subst hz;refine hq_ λE Q_=>?_;have hok:qo ds:=bm (λi d e=>(hd i d e).dat.ok);have E:=xY ds;obtain⟨b1,a⟩:=e_ (b++bts [o]);have E:b1.size=b.size+1:=by rw[a,as_,zE];rfl
 have s:b++(bts [o]++(jn 0 (xA env t 0 0 false [] ds)++bts [c]))=(b1++jn 0 (xA env t 0 0 false [] ds))++bts [c]:=by rw[a];simp only[be_]
 rw[s]at Q_;have F:H_ (∀(f:Value) (W:World),ye W B f (b++bts [o])->FrU B w W->∃q:Nat,Value.int .i64 0=I_ q/\q<=ds.length/\ds.length+1-q<=ds.length+1/\ye W B f (b1++upT env t 0 false [] ds q)/\FrU B w W):=zy λf W h1 l=>⟨0,rfl,aj_ _,M_,by rw[gj,gD,a];exact h1,l⟩;replace ho:=zy ho;replace hd:=zy hd;replace hl:=zy hl;replace hP:=zy hP;replace hok:=zy hok;replace hu:=zy hu;replace A:=zy A;go_in;go_wp2_with (at_builtin;refine qm rfl _ _ rfl o rfl C hu M_ hB rfl rfl rfl ?_;intro G I s C;have E:=zy (F.o G I s C));go_loopg [0,9,10,17] (ds.length+1) (λm v0 s s v W=>∃q:Nat,v=I_ q/\q<=ds.length/\ds.length+1-q<=m/\ye W B v0 (b1++upT env t 0 false [] ds q)/\FrU B w W);case atStart=>exact E
 case round=>
  obtain⟨q,rfl,s,s,hBu,hFw⟩:=hrel;have s:=hFw.size;by_cases D:q<ds.length
  .have hlt':(q:Int)<(ds.length:Int):=M_;have j:ds[q]?=some ds[q]:=ak_ D;generalize ds[q]=d at j;obtain⟨K,L⟩:=yE j;have hsz:=jy env t 0 false [] ds q x8_ hok;have F:b1++upT env t 0 false [] ds (q+1)=(b1++upT env t 0 false [] ds q++if q=0 then noB else bts [44])++txT env d (zN env t 0 q):=by
    rw[gq j];simp only[itT,a2_,if_false,jY,be_]
   have I:(if q=0 then noB else bts [44]).size<=1:=by
    split
    .exact aj_ _
    .rw[zE];exact l_
   obtain⟨g,s,s⟩:=zu ho M_;cases s;have s:=hd.o q d j;obtain⟨T,x,hx⟩:=s.iface;rw[hx]at s;have C:∀g,P g->¬B<=g:=λg h=>by have:=hP.o g h;omega
   have E:wr.cell? ⟨g,q,none⟩=some (.iface T x):=by
    rw[<- hx];exact gp (zk ho hFw.all (λg e=>C g (hl.o g e))) D
   have G:=zy (JP (n:=q) hBu M_ yq_);have H:H_ (∀f w1,ye w1 B f (b1++upT env t 0 false [] ds q++if q=0 then noB else bts [44])->FrU B wr w1->Calls prog 36 #[f,.iface T x] w1 (yQ w1 B (b1++upT env t 0 false [] ds (q+1)))):=zy (λf w1 h1 l=>by
    rw[F]
    have E:=l.size
    have E:=hFw.trans l
    exact J d M_ w1 P B _ _ _ _ (s.fr E.all C) hP h0 M_ (A.o.fru E h0 hB) h1 (by simp only[as_];omega))
   have l:q<=90000000:=M_;replace hFw:=zy hFw;replace j:=zy j;replace hBu:=zy hBu;go_wp2_with (first
    |(go_at_call 99;apply G.o.mono;rintro e w1 ⟨f,rfl,a,r⟩;replace r:=zy r;replace a:=zy a)
    |(go_at_call 36;apply(H.o _ _ a r).mono;rintro e a ⟨a,rfl,a,f⟩;replace f:=zy f;replace a:=zy a))
   go_roundg (ds.length+1-(q+1));case measure=>omega
   case rel=>exact⟨q+1,by simp,D,l_,a,(hFw.o.trans r).trans f⟩
  .exact cwPN1_
end
def QG(env:Ay)(m:Nat):Prop:=∀(d:DT),ndT d<=m->ndT d<=100000->okD d->∀(t:PT),gO env d t->okT env t->∀(w:World) (P Pd:Nat->Prop) (bz:Nat) (ts:List TR) (k:Nat),ZAt w P bz ts env->isT ts k t->∀(kk:Nat) (n:Int) (tx:BA) (vk vs:Value),zF w Pd d (zq kk n tx vk vs)->
 Calls prog 8 #[P_ bz,.agg (zq kk n tx vk vs).toArray,I_ k] w λe w'=>e=.returned (.string (txT env d t))/\Fr w w' N_
section
variable {w:Aw} {P Pd:Au} {bz k:Nat} {ts:Aq} {env:Ay}
def cq1_{p:Prop}(h:p:=by
 (try have _:=cc1;(have e9:65<=c/\c<=70:=by simpa[zZ] using hcn);obtain⟨S,a4⟩:∃q,c=65+q:=⟨c-65,M_⟩;have e5:S<6:=M_;have f:=qW S c a4 e5;have h4:(S:Int)<6:=M_)
 obtain⟨D,c1,rfl,a9⟩:=hD.keys;obtain⟨E,c2,rfl,b8⟩:=hD.sub;unfold isT at hk;(first|(have _:=cc1;obtain⟨g,m,e8,sv,z0,f1,N,z2,ho,b7⟩:=Z.type hk)|(obtain⟨jt,a6,hju⟩:=hk));(first|(have _:=cc1;obtain⟨H,sn,sc,rfl⟩:=zW ho)|(obtain⟨g,m,e8,sv,z0,f1,z1,z2,ho,b7⟩:=Z.type a6));(first|(have _:=cc1;simp only at N)|(simp only[au_,ar_,aw_,a5_,af_]at ho z1;obtain⟨H,cs,rfl⟩:=zu ho M_;have N:=ze ho rfl (k:=0) (x:=I_ jt) rfl));have g6:=zo z0;(first|(have _:=cc1)|(have g7:=zo z1));have g8:=zo N;have g4:(k:Int)<(m:Int):=M_;refine hq_ λg1 Q_=>?_;(first|(have _:=cc1;refine have a1:txT env (.mk 114 0 noB [] ds) (.leaf c p)=bts [40]++(jn 0 (xA env (.leaf c p) 0 0 false [] ds)++bts [41]):=?_;?_)|(refine have a1:txT env (.mk 91 0 noB ks ds) (.wrap 91 p u)=bts [91]++(jn 0 (xA env (.wrap 91 p u) 0 0 false ks ds)++bts [93]):=?_;?_))
 .conv=>lhs;unfold txT
  rw[n_ D_,n_ D_,n_ D_,n_ D_,n_ D_,n_ D_,n_ D_];rfl
 rw[a1]at Q_;(first|(have _:=cc1;obtain⟨so,fv,sb,o2,zz,hN,y0,T,a6,b5,y4⟩:=Z.named e5 (by rw[<- a4];exact he);obtain⟨_,_,_,xs,hfit,b6⟩:=hN;obtain⟨l,G⟩:∃l,l=(w.alloc (.cells (zq 114 0 noB (.slice D 0 c1) (.slice E ds.length c2)).toArray 32)).alloc (.cells #[U_ c,.slice H sn sc] 57):=⟨_,rfl⟩)|(obtain⟨l,G⟩:∃l,l=(w.alloc (.cells (zq 91 0 noB (.slice D ks.length c1) (.slice E ds.length c2)).toArray 32)).alloc (.cells #[.int .u8 91,.slice (some ⟨H,0,none⟩) 1 cs] 57):=⟨_,rfl⟩));have U:Fr w l N_:=G▸((A_ w _).alloc _).alloc _;(first|(have _:=cc1;have I:Blk l w.heap.size (zq 114 0 noB (.slice D 0 c1) (.slice E ds.length c2)) 32:=G▸(B_ w _ _).alloc _)|(have I:Blk l w.heap.size (zq 91 0 noB (.slice D ks.length c1) (.slice E ds.length c2)) 32:=G▸(B_ w _ _).alloc _));(first|(have _:=cc1;refine have O:Blk l (w.heap.size+1) [U_ c,.slice H sn sc] 57:=?_;?_)|(refine have O:Blk l (w.heap.size+1) [.int .u8 91,.slice (some ⟨H,0,none⟩) 1 cs] 57:=?_;?_))
 ·(first|(have _:=cc1;have:=B_ (w.alloc (.cells (zq 114 0 noB (.slice D 0 c1) (.slice E ds.length c2)).toArray 32)) #[U_ c,.slice H sn sc] 57)|(have:=B_ (w.alloc (.cells (zq 91 0 noB (.slice D ks.length c1) (.slice E ds.length c2)).toArray 32)) #[.int .u8 91,S_ H 1 cs] 57));(first|(have _:=cc1;rw[show(w.alloc (.cells (zq 114 0 noB (.slice D 0 c1) (.slice E ds.length c2)).toArray 32)).heap.size=w.heap.size+1 by simp]at this)|(rw[show(w.alloc (.cells (zq 91 0 noB (.slice D ks.length c1) (.slice E ds.length c2)).toArray 32)).heap.size=w.heap.size+1 by simp]at this));rw[G];exact this
 (first|(have _:=cc1;obtain⟨t,M⟩:∃t,t=PT.leaf c p:=⟨_,rfl⟩)|(obtain⟨t,M⟩:∃t,t=PT.wrap 91 p u:=⟨_,rfl⟩));(first|(have _:=cc1;have R:∀(q:Nat) (g:PF),fs[q]?=some g->zN env t 0 q=g.ty:=λq g e=>by rw[M];simp[zN,he,az_,e])|(have R:∀q,zN env t 0 q=u:=λq=>by rw[M];rfl))
 rw[<- M]at Q_;(first|(have _:=cc1;have d0:H_ (∀W,W=l->∃q:Nat,Value.string ⟨#[]⟩=.string (upT env t 0 false [] ds q)/\Value.int .i64 0=I_ q/\q<=ds.length/\ds.length+1-q<=ds.length+1/\Fr w W N_/\Fr l W N_):=zy (λW e=>⟨0,by rw[gj];rfl,rfl,aj_ _,M_,e▸U,e▸A_ _ _⟩))|(have d0:H_ (∀W,W=l->∃q:Nat,Value.string ⟨#[]⟩=.string (upT env t 0 false ks ds q)/\Value.int .i64 0=I_ q/\q<=ds.length/\ds.length+1-q<=ds.length+1/\Fr w W N_/\Fr l W N_):=zy (λW e=>⟨0,by rw[gj];rfl,rfl,aj_ _,M_,e▸U,e▸A_ _ _⟩);have b5:=hok));unfold okD at hok;replace hok:=zy hok;(first|(have _:=cc1)|(replace a9:=zy a9));replace b8:=zy b8;replace I:=zy I;replace O:=zy O;replace R:=zy R;replace M:=zy M;replace Z:=zy Z;replace hju:=zy hju;replace hfit:=zy hfit;(first|(have _:=cc1;replace b6:=zy b6;replace hu:=zy hu;replace hfl:=zy hfl;replace a4:=zy a4;replace T:=zy T)|(replace N:=zy N));have g3:=xY ds;replace G:=zy G;(first|(have _:=cc1;clear hD b7 ho a1 hk U a9 he hcn e9 y0 a6 b5 y4)|(clear hD b7 ho a1 a6 b5 U));(first|(have _:=cc1;simp only[zq,af_,ar_])|(simp only[zq,af_]));go_in;go_wp2;have b9:=zy (d0.o _ G.o.symm);simp only[zq,af_]at b9;(first|(have _:=cc1;go_loopg [11,12,13,14] (ds.length+1) (λm d1 d2 f9 g0 W=>∃q:Nat,d1=.string (upT env t 0 false [] ds q)/\d2=I_ q/\q<=ds.length/\ds.length+1-q<=m/\Fr w W N_/\Fr l W N_))|(go_loopg [11,12,13,14] (ds.length+1) (λm d1 d2 f9 g0 W=>∃q:Nat,d1=.string (upT env t 0 false ks ds q)/\d2=I_ q/\q<=ds.length/\ds.length+1-q<=m/\Fr w W N_/\Fr l W N_)));case atStart=>exact b9.o
 case round=>
  clear d0 b9;obtain⟨q,rfl,rfl,hq,h2,s,z⟩:=hrel;have b0:=(z.bl I.o id).cell 0;(first|(have _:=cc1)|(have b3:=(z.bl I.o id).cell 3));have b4:=(z.bl I.o id).cell 4;(first|(have _:=cc1;have u0:=(z.bl O.o id).cell 0)|(have T:=(z.bl O.o id).cell 1));(first|(have _:=cc1;simp only[zq,aa_,ab_,af_]at b0 b4 u0)|(simp only[zq,aa_,ab_,af_]at b0 b3 b4 T));by_cases a2:q<ds.length
  .have f2:(q:Int)<(ds.length:Int):=M_;have hd:ds[q]?=some ds[q]:=ak_ a2;have a3:ds[q]∈ds:=a9_ a2;generalize ds[q]=d at hd a3;(try have _:=cc1;(have f6:q<fs.length:=by have:=hfl.o;omega);have g9:(q:Int)<(fs.length:Int):=M_;obtain⟨gg,J⟩:∃g,fs[q]?=some g:=⟨_,ak_ f6⟩;obtain⟨num,e6,d9⟩:=b6.o q gg J;obtain⟨V,fc,f0⟩:=zu hfit.o M_;subst f0;have zn:=ze hfit.o rfl e6;rw[a7_]at zn);obtain⟨g5,k',n',e7,h5,h6,rfl,X,⟨x1,w1,h7,rfl⟩,⟨x2,w2,h8,rfl⟩,c0,a7,a8,c3,c4⟩:=b8.o q d hd;obtain⟨t1,t2⟩:=yE hd;have K:=bh hok.o.2.2.2.2.2 d a3;(first|(have _:=cc1;have F:∀W,Fr wr W N_->_:=λW hW=>ih d M_ M_ K gg.ty (hju.o q d gg hd J) (hu.o gg (al_ J)) W P Pd bz ts num ((Z.o.fr s u_).fr hW u_) d9 k' n' e7 _ _ ((X.fr s u_).fr hW u_))|(have F:=ih d M_ M_ K u (hfit.o q d hd) hu wr P Pd bz ts jt (Z.o.fr s u_) hju.o k' n' e7 _ _ (X.fr s u_)));have C:∀(b o:Nat) (v:Value),w.cell? ⟨b,o,none⟩=some v->wr.cell? ⟨b,o,none⟩=some v:=λb o v h=>(World.cell?_of_block (a:=⟨b,o,none⟩) (s.block b (World.block_lt_of_cell? w ⟨b,o,none⟩ h) id)).trans h;have e0:=C _ _ _ c0;have e1:=C _ _ _ a7;have e2:=C _ _ _ a8;have e3:=C _ _ _ c3;have e4:=C _ _ _ c4;(first|(have _:=cc1;have d6:=C _ _ _ zn)|(have d6:=C _ _ _ N.o));(first|(have _:=cc1;have yy:=C _ _ _ T.o)|(have a5:=kM env d u K));(first|(have _:=cc1;have a5:=kM env d gg.ty K)|(have A:=jy env t 0 false ks ds q hok.o.2.2.2.1 hok.o.2.2.2.2.2));(first|(have _:=cc1;have A:=jy env t 0 false [] ds q (by simp) hok.o.2.2.2.2.2)|(have r:=gq (env:=env) (t:=t) (n:=0) (keyed:=false) (ks:=ks) hd));(first|(have _:=cc1;have r:=gq (env:=env) (t:=t) (n:=0) (keyed:=false) (ks:=[]) hd)|(simp only[itT,R.o]at r));(first|(have _:=cc1;simp only[itT,R.o q gg J]at r)|(obtain⟨bd,a0⟩:∃b,txT env d u=b:=⟨_,rfl⟩));(first|(have _:=cc1;obtain⟨bd,a0⟩:=x_ (txT env d gg.ty);obtain⟨ZZ,Y⟩:∃Z,upT env t 0 false [] ds q=Z:=⟨_,rfl⟩)|(obtain⟨ZZ,Y⟩:∃Z,upT env t 0 false ks ds q=Z:=⟨_,rfl⟩));rw[a0]at F r a5;rw[Y]at r A⊢;have g2:bd.size<=900000000:=M_;have d7:ZZ.size<=900000000:=M_;have h3:q<=100000:=M_;replace F:=zy F;replace Y:=zy Y;replace a0:=zy a0;replace hd:=zy hd;(try have _:=cc1;replace J:=zy J);have hf:=zy s;have d8:=zy z;(first|(have _:=cc1;clear c0 a7 a8 c3 c4 C a5 A t1 t2 X K s z a3 zn e6 d9)|(clear c0 a7 a8 c3 c4 C a5 A t1 t2 X K s z a3));by_cases L:q=0
   .have f7:¬(0:Int)<(q:Int):=M_;have f8:¬0<q:=M_;rw[i_ L]at r;replace r:=zy r;replace L:=zy L;(try have _:=cc1;go_wp2;refine tR_ (λW=>z_ W (w.heap.size+1) 0 (U_ c)/\z_ W bz (1+S*5+1) (S_ V fs.length fc)/\z_ W V (q*10+1) (I_ num)) ?_;refine tA_ 0 rfl K_ (λ_ _ _ h=>h) (by rintro W ⟨h1,i,j⟩;go_simp<;>first|rfl|exact f) ?_;refine tA_ 1 rfl K_ (λ_ _ _ h=>h) (by rintro W ⟨h1,i,j⟩;go_simp<;>first|rfl|exact f) ?_;refine tA_ 2 rfl K_ (λ_ _ _ h=>h) (by rintro W ⟨h1,i,j⟩;go_simp<;>first|rfl|exact f) ?_;refine tA_ 3 rfl K_ (λ_ _ _ h=>h) (by rintro W ⟨h1,i,j⟩;go_simp<;>first|rfl|exact f) ?_;refine tA_ 4 rfl K_ (λ_ _ _ h=>h) (by rintro W ⟨h1,i,j⟩;go_simp<;>first|rfl|exact f) ?_;refine tA_ 5 rfl K_ (λ_ _ _ h=>h) (by rintro W ⟨h1,i,j⟩;go_simp<;>first|rfl|exact f) ?_;refine tA_ 6 rfl K_ (λ_ _ _ h=>h) (by rintro W ⟨h1,i,j⟩;go_simp<;>first|rfl|exact f) ?_;refine tA_ 7 rfl K_ (λ_ _ _ h=>h) (by rintro W ⟨h1,i,j⟩;go_simp<;>first|rfl|exact f) ?_;refine tA_ 8 rfl K_ (λ_ _ _ h=>h) (by rintro W ⟨h1,i,j⟩;go_simp<;>first|rfl|exact f) ?_;refine tA_ 9 rfl K_ (λ_ _ _ h=>h) (by rintro W ⟨h1,i,j⟩;go_simp<;>first|rfl|exact f) ?_;refine tA_ 10 rfl K_ (λ_ _ _ h=>h) (by rintro W ⟨h1,i,j⟩;go_simp<;>first|rfl|exact f) ?_;refine tA_ 11 rfl K_ (λ_ _ _ h=>h) (by rintro W ⟨h1,i,j⟩;go_simp<;>first|rfl|exact f) ?_;refine tA_ 12 rfl K_ (λ_ _ _ h=>h) (by rintro W ⟨h1,i,j⟩;go_simp<;>first|rfl|exact f) ?_;refine tA_ 13 rfl K_ (λ_ _ _ h=>h) (by rintro W ⟨h1,i,j⟩;go_simp<;>first|rfl|exact f) ?_;refine tA_ 14 rfl K_ (λ_ _ _ h=>h) (by rintro W ⟨h1,i,j⟩;go_simp<;>first|rfl|exact f) ?_;refine zV K_ ⟨u0,yy,d6⟩ ?_ _);go_wp2_with (go_at_call 8;(first|(have _:=cc1;apply(F.o _ ((A_ wr _).drew)).mono)|(apply F.o.mono));(first|(have _:=cc1;rintro e w5 ⟨rfl,Q⟩)|(rintro e w5 ⟨rfl,y⟩));(first|(have _:=cc1;have y:=zy ((A_ wr N_).drew.trans Q u_);clear Q)|(replace y:=zy y)));go_roundg (ds.length+1-(q+1));case measure=>omega
    case rel=>
     refine⟨q+1,?_,by simp,a2,l_,hf.o.trans y.o u_,d8.o.trans y.o u_⟩;rw[r.o];simp only[a2_,if_false,jY]
   .have f7:(0:Int)<(q:Int):=M_;have f8:0<q:=M_;rw[n_ L]at r;replace r:=zy r;replace L:=zy L;(try have _:=cc1;go_wp2;refine tR_ (λW=>z_ W (w.heap.size+1) 0 (U_ c)/\z_ W bz (1+S*5+1) (S_ V fs.length fc)/\z_ W V (q*10+1) (I_ num)) ?_;refine tA_ 0 rfl K_ (λ_ _ _ h=>h) (by rintro W ⟨h1,i,j⟩;go_simp<;>first|rfl|exact f) ?_;refine tA_ 1 rfl K_ (λ_ _ _ h=>h) (by rintro W ⟨h1,i,j⟩;go_simp<;>first|rfl|exact f) ?_;refine tA_ 2 rfl K_ (λ_ _ _ h=>h) (by rintro W ⟨h1,i,j⟩;go_simp<;>first|rfl|exact f) ?_;refine tA_ 3 rfl K_ (λ_ _ _ h=>h) (by rintro W ⟨h1,i,j⟩;go_simp<;>first|rfl|exact f) ?_;refine tA_ 4 rfl K_ (λ_ _ _ h=>h) (by rintro W ⟨h1,i,j⟩;go_simp<;>first|rfl|exact f) ?_;refine tA_ 5 rfl K_ (λ_ _ _ h=>h) (by rintro W ⟨h1,i,j⟩;go_simp<;>first|rfl|exact f) ?_;refine tA_ 6 rfl K_ (λ_ _ _ h=>h) (by rintro W ⟨h1,i,j⟩;go_simp<;>first|rfl|exact f) ?_;refine tA_ 7 rfl K_ (λ_ _ _ h=>h) (by rintro W ⟨h1,i,j⟩;go_simp<;>first|rfl|exact f) ?_;refine tA_ 8 rfl K_ (λ_ _ _ h=>h) (by rintro W ⟨h1,i,j⟩;go_simp<;>first|rfl|exact f) ?_;refine tA_ 9 rfl K_ (λ_ _ _ h=>h) (by rintro W ⟨h1,i,j⟩;go_simp<;>first|rfl|exact f) ?_;refine tA_ 10 rfl K_ (λ_ _ _ h=>h) (by rintro W ⟨h1,i,j⟩;go_simp<;>first|rfl|exact f) ?_;refine tA_ 11 rfl K_ (λ_ _ _ h=>h) (by rintro W ⟨h1,i,j⟩;go_simp<;>first|rfl|exact f) ?_;refine tA_ 12 rfl K_ (λ_ _ _ h=>h) (by rintro W ⟨h1,i,j⟩;go_simp<;>first|rfl|exact f) ?_;refine tA_ 13 rfl K_ (λ_ _ _ h=>h) (by rintro W ⟨h1,i,j⟩;go_simp<;>first|rfl|exact f) ?_;refine tA_ 14 rfl K_ (λ_ _ _ h=>h) (by rintro W ⟨h1,i,j⟩;go_simp<;>first|rfl|exact f) ?_;refine zV K_ ⟨u0,yy,d6⟩ ?_ _);go_wp2_with (go_at_call 8;(first|(have _:=cc1;apply(F.o _ ((A_ wr _).drew)).mono)|(apply F.o.mono));(first|(have _:=cc1;rintro e w5 ⟨rfl,Q⟩)|(rintro e w5 ⟨rfl,y⟩));(first|(have _:=cc1;have y:=zy ((A_ wr N_).drew.trans Q u_);clear Q)|(replace y:=zy y)));go_roundg (ds.length+1-(q+1));case measure=>omega
    case rel=>
     refine⟨q+1,?_,by simp,a2,l_,hf.o.trans y.o u_,d8.o.trans y.o u_⟩;rw[r.o];simp only[a2_,if_false,jY,be_];rfl
  .have f2:¬((q:Int)<(ds.length:Int)):=M_;(first|(have _:=cc1;have A:=jy env t 0 false [] ds q (by simp) hok.o.2.2.2.2.2)|(have A:=jy env t 0 false ks ds q hok.o.2.2.2.1 hok.o.2.2.2.2.2));rw[a6_ M_]at A;rw[pL M_]at A⊢;(first|(have _:=cc1;have d7:(jn 0 (xA env t 0 0 false [] ds)).size<=900000000:=M_)|(have d7:(jn 0 (xA env t 0 0 false ks ds)).size<=900000000:=M_));replace s:=zy s;(first|(have _:=cc1;clear z A)|(clear z b3 A));go_wp2;try go_ret
   rw[Q_.o];exact⟨by rw[<- be_];rfl,s.o⟩):p:=h
def PJ(ih:QG env m0){u:PT}(hm:1+zM ds<=m0+1)(hb:1+zM ds<=100000)(hfit:∀(i:Nat) (d:DT),ds[i]?=some d->gO env d u)(hu:okT env u)(Z:ZAt w P bz ts env)(hk:isT ts k (.wrap 91 p u))(hD:zF w Pd (.mk 91 0 noB ks ds) (zq 91 0 noB vk vs))(hok:okD (.mk 91 0 noB ks ds)):Calls prog 8 #[P_ bz,.agg (zq 91 0 noB vk vs).toArray,I_ k] w λe w'=>e=.returned (.string (txT env (.mk 91 0 noB ks ds) (.wrap 91 p u)))/\Fr w w' N_:=by
 exact cq1_
def cwGE1_{p:Prop}(h:p:=by
 (first|(have:=cc1;have hq1:(0:Int)<(q:Int):=M_)|(have hq1:¬(0:Int)<(q:Int):=M_));(first|(have:=cc1;have hq2:0<q:=M_)|(have hq2:¬0<q:=M_));(first|(have:=cc1;rw[n_ hq0]at hnx)|(rw[i_ hq0]at hnx));replace hnx:=zy hnx;replace hq0:=zy hq0;go_wp2_with (go_at_call 8;apply hC.o.mono;rintro e w5 ⟨rfl,hf5⟩;replace hf5:=zy hf5);go_roundg (ds.length+1-(q+1));case measure=>omega
 case rel=>
  refine⟨q+1,?_,by simp,hlt,l_,hf.o.trans hf5.o u_,hfb.o.trans hf5.o u_⟩;rw[hnx.o];(first|(have:=cc1;simp only[if_true,be_])|(simp only[if_true,jY,be_]));rfl):p:=h
def GE(ih:QG env m0){u:PT}(hm:1+zM ds<=m0+1)(hb:1+zM ds<=100000)(L:∀(i:Nat) (d:DT),ds[i]?=some d->gO env d u)(hu:okT env u)(Z:ZAt w P bz ts env)(hk:isT ts k (.wrap 123 p u))(I:zF w Pd (.mk 123 0 noB ks ds) (zq 123 0 noB vk vs))(c:okD (.mk 123 0 noB ks ds)):Calls prog 8 #[P_ bz,.agg (zq 123 0 noB vk vs).toArray,I_ k] w λe w'=>e=.returned (.string (txT env (.mk 123 0 noB ks ds) (.wrap 123 p u)))/\Fr w w' N_:=by
 obtain⟨A,c1,rfl,O⟩:=I.keys;obtain⟨C,c2,rfl,V⟩:=I.sub;unfold isT at hk;obtain⟨jt,a7,M⟩:=hk;obtain⟨g,m,d0,sv,z0,d7,z1,z2,ho,b5⟩:=Z.type a7;simp only[au_,ar_,aw_,a5_,af_]at ho z1;obtain⟨H,cs,rfl⟩:=zu ho M_;have E:=ze ho rfl (k:=0) (x:=I_ jt) rfl;have d9:=zo z0;have e5:=zo z1;have d8:(k:Int)<(m:Int):=M_;refine hq_ λb9 F=>?_;have a3:txT env (.mk 123 0 noB ks ds) (.wrap 123 p u)=bts [123]++(jn 0 (xA env (.wrap 123 p u) 0 0 true ks ds)++bts [125]):=by
  conv=>lhs;unfold txT
  rw[n_ D_,n_ D_,n_ D_,n_ D_,n_ D_,n_ D_,n_ D_];rfl
 rw[a3]at F;obtain⟨l,y⟩:=e_ ((w.alloc (.cells (zq 123 0 noB (.slice A ks.length c1) (.slice C ds.length c2)).toArray 32)).alloc (.cells #[.int .u8 123,S_ H 1 cs] 57));have Y:Fr w l N_:=y▸((A_ w _).alloc _).alloc _;have z:Blk l w.heap.size (zq 123 0 noB (.slice A ks.length c1) (.slice C ds.length c2)) 32:=y▸(B_ w _ _).alloc _;have G:Blk l (w.heap.size+1) [.int .u8 123,S_ H 1 cs] 57:=by
  have:=B_ (w.alloc (.cells (zq 123 0 noB (.slice A ks.length c1) (.slice C ds.length c2)).toArray 32)) #[.int .u8 123,S_ H 1 cs] 57;rw[show(w.alloc (.cells (zq 123 0 noB (.slice A ks.length c1) (.slice C ds.length c2)).toArray 32)).heap.size=w.heap.size+1 by simp]at this;rw[y];exact this
 obtain⟨t,D⟩:=e_ (PT.wrap 123 p u);have U:∀q,zN env t 0 q=u:=λq=>by rw[D];rfl
 rw[<- D]at F;have a8:H_ (∀W,W=l->∃q:Nat,Value.string ⟨#[]⟩=.string (upT env t 0 true ks ds q)/\Value.int .i64 0=I_ q/\q<=ds.length/\ds.length+1-q<=ds.length+1/\Fr w W N_/\Fr l W N_):=zy (λW e=>⟨0,by rw[gj];rfl,rfl,aj_ _,M_,e▸Y,e▸A_ _ _⟩);have R:=c;unfold okD at c;replace c:=zy c;replace O:=zy O;replace V:=zy V;replace z:=zy z;replace G:=zy G;replace U:=zy U;replace D:=zy D;replace Z:=zy Z;replace M:=zy M;replace L:=zy L;replace E:=zy E;have d2:=xY ds;replace y:=zy y;clear I b5 ho a3 a7 R Y;simp only[zq,af_];have Q:=zy (c.o.2.2.2.2.1 rfl);go_in;go_wp2;have X:=zy (a8.o _ y.o.symm);simp only[zq,af_]at X;go_loopg [11,12,13,14] (ds.length+1) (λm b7 b8 e9 f0 W=>∃q:Nat,b7=.string (upT env t 0 true ks ds q)/\b8=I_ q/\q<=ds.length/\ds.length+1-q<=m/\Fr w W N_/\Fr l W N_);case atStart=>exact X
 case round=>
  clear a8 X;obtain⟨q,rfl,rfl,hq,e7,f,r⟩:=hrel;have b0:=(r.bl z id).cell 0;have b3:=(r.bl z id).cell 3;have b4:=(r.bl z id).cell 4;have y1:=(r.bl G id).cell 1;simp only[zq,aa_,ab_,af_]at b0 b3 b4 y1;by_cases hlt:q<ds.length
  .have a5:(q:Int)<(ds.length:Int):=M_;have hd:ds[q]?=some ds[q]:=ak_ hlt;have S:ds[q]∈ds:=a9_ hlt;generalize ds[q]=d at hd S;obtain⟨g5,k',n',b6,f1,f2,rfl,a2,⟨x1,w1,f6,rfl⟩,⟨x2,w2,f7,rfl⟩,c0,a0,a1,c3,c4⟩:=V.o q d hd;obtain⟨t1,t2⟩:=yE hd;have T:=bh c.o.2.2.2.2.2 d S;have hC:=ih d M_ M_ T u (L.o q d hd) hu wr P Pd bz ts jt (Z.o.fr f u_) M k' n' b6 _ _ (a2.fr f u_);have j:∀(b o:Nat) (v:Value),w.cell? ⟨b,o,none⟩=some v->wr.cell? ⟨b,o,none⟩=some v:=λb o v h=>(World.cell?_of_block (a:=⟨b,o,none⟩) (f.block b (World.block_lt_of_cell? w ⟨b,o,none⟩ h) id)).trans h;have e0:=j _ _ _ c0;have e1:=j _ _ _ a0;have e2:=j _ _ _ a1;have e3:=j _ _ _ c3;have e4:=j _ _ _ c4;have f8:=j _ _ _ E;have a6:=kM env d u T;have s:=jy env t 0 true ks ds q c.o.2.2.2.1 c.o.2.2.2.2.2;have hnx:=gq (env:=env) (t:=t) (n:=0) (keyed:=true) (ks:=ks) hd;simp only[itT,U.o]at hnx;obtain⟨bd,K⟩:=x_ (txT env d u);obtain⟨ZZ,J⟩:=x_ (upT env t 0 true ks ds q);rw[K]at hC hnx a6;rw[J]at hnx s⊢;have d1:bd.size<=900000000:=M_;have a9:ZZ.size<=900000000:=M_;obtain⟨gk,rfl,a4⟩:=O.o q (by rw[Q.o];exact hlt);have d6:(q:Int)<(ks.length:Int):=by rw[Q.o];exact a5
   have k0:=j _ _ _ a4;have R:(ks.getD q noB).size<=4000:=by
    rw[az_,ak_ (by rw[Q.o];exact hlt)];exact c.o.2.2.2.1 _ (a9_ _)
   obtain⟨key,N⟩:=x_ (ks.getD q noB);rw[N]at k0 R hnx;replace N:=zy N;clear a4;have e8:q<=100000:=M_;replace hC:=zy hC;replace J:=zy J;replace K:=zy K;replace hd:=zy hd;have hf:=zy f;have hfb:=zy r;clear c0 a0 a1 c3 c4 j a6 s t1 t2 a2 T f r S;by_cases hq0:q=0
   .exact cwGE1_
   .have cc1:=Nat;exact cwGE1_
  .have a5:¬((q:Int)<(ds.length:Int)):=M_;have s:=jy env t 0 true ks ds q c.o.2.2.2.1 c.o.2.2.2.2.2;rw[a6_ M_]at s;rw[pL M_]at s⊢;have a9:(jn 0 (xA env t 0 0 true ks ds)).size<=900000000:=M_;replace f:=zy f;clear r b3 s;go_wp2;try go_ret
   rw[F.o];exact⟨by rw[<- be_];rfl,f⟩
end
def oP{o:Dz}{a:Act}{K:Cq}{Q:Ab}(s x:Operand)(ho:o.op=.call { callee:=.builtin .append,args:=#[s,x],argTypes:=#[94,94] }){B g:Nat}{w W:Aw}{v:Ax}{b:BA}{y:Int}(c:Nat)(hy:y=(c:Int))(hc:c<256)(hb:ye w B v b)(d:b.size<=100000000)(hB:B<=w.heap.size)(hg:g=w.heap.size)(hs:a.eval s=v)(hx:a.eval x=S_ g 1 1)(f:W=w.alloc (.cells #[.int .u8 y] 5))(h:∀d w',ye w' B d (b++bts [c])->FrU B w w'->K (a.put o.dst d) w'):o.wp prog a W K Q:=by
 subst hy;subst f;obtain⟨ti,i,j,l,q⟩:=info_parts Wp;obtain⟨z,d,hr,r,f,_,_⟩:=run_append_own_at (P:=prog) (w.alloc (.cells #[U_ c] 5)) B 94 o.type 5 ti _ 1 1 iG i j l q rfl D_ _ b.size (Lib.strCells b) (World.ownsRow.alloc hb _) ⟨g,0,none⟩ 1 1 [U_ c] rfl (zL _ #[U_ c] _ _ hg) zn_ (by unfold maxLen;omega) M_ x4_;unfold Oper.wp execOp;simp only[ho,resolve,invoke,builtin,Sem.run_bind,Sem.run_pure,Result.andThen_ok,List.map_toArray,aw_,a5_,hs,hx,hr];refine h z d ?_ ?_
 .unfold ye;rw[vw,pN hc,as_,zE];exact r
 .exact Fr.mono (((A_ w _).alloc _).gr f (λk hk _=>hk):Fr w d (λg=>v.ownBlock=some g)) (λg _ e=>hb.u8 e)
def KJ{o:Dz}{a:Act}{K:Cq}{Q:Ab}(s x:Operand)(ho:o.op=.call { callee:=.builtin .append,args:=#[s,x],argTypes:=#[94,9] }){B:Nat}{w:Aw}{v:Ax}{b t:BA}(hb:ye w B v b)(hsz:b.size<=100000000)(ht:t.size<=4000)(hB:B<=w.heap.size)(hs:a.eval s=v)(hx:a.eval x=.string t)(h:∀v' w',ye w' B v' (b++t)->FrU B w w'->K (a.put o.dst v') w'):o.wp prog a w K Q:=by
 have cc1:=Nat
 exact cq36_
section
variable {w0 w:Aw} {env:Ay} {m:Nat} {P:Au} {B:Nat} {u:Ax} {b:BA} {t:PT}
def BW(ih:aB w0 env m){la:Ao}{lc:Nat}{Y:Cx}(hm:zM ds<=m)(hP:∀g,P g->g<B)(h0:w0.heap.size<=B)(hB:B<=w.heap.size)(Q:yt w0 w)(hu:ye w B u b)(hs:b.size+8022*(1+zM ds)<=90000000)(hk:∀k∈ks,k.size<=4000)(ho:w.ownsRow 0 133 2 (.slice la ds.length lc) ds.length ((List.range ds.length).flatMap λi=>[.string (ks.getD i noB),Y i]))(hl:∀g,(Value.slice la ds.length lc).ownBlock=some g->P g)(hd:∀i d,ds[i]?=some d->DaV env w P d (zN env t 0 i) (Y i)):Calls prog 64 #[u,.slice la ds.length lc] w (yQ w B (b++(bts [123]++(jn 0 (xA env t 0 0 true ks ds)++bts [125])))):=by
 refine hq_ λb6 Q_=>?_;have hok:qo ds:=bm (λi d e=>(hd i d e).dat.ok);have d0:=xY ds;obtain⟨b1,j⟩:=e_ (b++bts [123]);have b8:b1.size=b.size+1:=by rw[j,as_,zE];rfl
 have a2:b++(bts [123]++(jn 0 (xA env t 0 0 true ks ds)++bts [125]))=(b1++jn 0 (xA env t 0 0 true ks ds))++bts [125]:=by rw[j];simp only[be_]
 rw[a2]at Q_;have a6:H_ (∀(l:Value) (W:World),ye W B l (b++bts [123])->FrU B w W->∃q:Nat,Value.int .i64 0=I_ q/\q<=ds.length/\ds.length+1-q<=ds.length+1/\ye W B l (b1++upT env t 0 true ks ds q)/\FrU B w W):=zy λl W h1 G=>⟨0,rfl,aj_ _,M_,by rw[gj,gD,j];exact h1,G⟩;replace ho:=zy ho;replace hd:=zy hd;replace hl:=zy hl;replace hP:=zy hP;replace hok:=zy hok;replace hu:=zy hu;replace Q:=zy Q;replace hk:=zy hk;go_in;go_wp2_with (at_builtin;refine qm rfl _ _ rfl 123 rfl D_ hu M_ hB rfl rfl rfl ?_;intro v5 w5 a0 a3;have a5:=zy (a6.o v5 w5 a0 a3));go_loopg [0,5,6,12] (ds.length+1) (λm v0 v5 v6 v W=>∃q:Nat,v=I_ q/\q<=ds.length/\ds.length+1-q<=m/\ye W B v0 (b1++upT env t 0 true ks ds q)/\FrU B w W);case atStart=>exact a5
 case round=>
  obtain⟨q,rfl,hq,b9,hBu,hFw⟩:=hrel;have d1:=hFw.size;by_cases X:q<ds.length
  .have hlt':(q:Int)<(ds.length:Int):=M_;have z:ds[q]?=some ds[q]:=ak_ X;generalize ds[q]=d at z;obtain⟨t1,t2⟩:=yE z;have hsz:=jy env t 0 true ks ds q hk hok;obtain⟨K,R⟩:=x_ (ks.getD q noB);obtain⟨C,H⟩:=e_ (b1++upT env t 0 true ks ds q++(if q=0 then noB else bts [44]));have a4:b1++upT env t 0 true ks ds (q+1)=((C++K)++bts [58])++txT env d (zN env t 0 q):=by
    rw[gq z,H];simp only[itT,if_true,R,be_]
   have a9:(if q=0 then noB else bts [44]).size<=1:=by
    split
    .exact aj_ _
    .rw[zE];exact l_
   have a8:K.size<=4000:=by
    rw[<- R,az_];cases b5:ks[q]? with
    |none=>exact aj_ _
    |some y=>exact hk.o y (al_ b5)
   have a7:C.size<=b1.size+8022*zM (ds.take q)+1:=by rw[H];simp only[as_];omega
   obtain⟨g,b7,b4⟩:=zu ho M_;cases b4;have J:=hd.o q d z;obtain⟨T,x,hx⟩:=J.iface;rw[hx]at J;have V:∀g,P g->¬B<=g:=λg h=>by have:=hP.o g h;omega
   obtain⟨m0,m1⟩:=lF (K:=λi=>ks.getD i noB) (zk ho hFw.all (λg e=>V g (hl.o g e))) X;rw[hx]at m1;simp only[R]at m0;obtain⟨A,E⟩:=e_ (wr.alloc (.cells #[.string K,.iface T x] 133));have D:Fr wr A N_:=E▸(A_ wr _).alloc _;have F:Blk A wr.heap.size [.string K,.iface T x] 133:=E▸B_ wr #[.string K,.iface T x] 133;have R:=D.size;have S:∀W,Fr A W N_->Calls prog 99 #[u0,I_ q] W (λe w'=>∃l,e=.returned l/\H_ (ye w' B l C/\FrU B w w'/\Blk w' wr.heap.size [.string K,.iface T x] 133)/\w'.cell? ⟨wr.heap.size,0,none⟩=some (.string K)):=by
    intro W I;have hz:=I.size;have R:ye W B u0 (b1++upT env t 0 true ks ds q):=(ye.fr (ye.fr hBu D u_) I u_);apply(JP (n:=q) R M_ yq_).mono;rintro e w1 ⟨l,rfl,j,s⟩;have G:=s.bl (I.bl F (λf=>f)) D_;refine⟨l,rfl,zy ⟨H▸j,hFw.trans (((FrU.of D).trans (FrU.of I)).trans s),G⟩,?_⟩;rw[G.cell 0];rfl
   have O:∀W l,ye W B l ((C++K)++bts [58])->FrU B w W->Calls prog 36 #[l,.iface T x] W (yQ W B (b1++upT env t 0 true ks ds (q+1))):=by
    intro W l j s;have hz:=s.size;rw[a4];exact ih d M_ W P B _ _ l _ (J.fr s.all V) hP h0 M_ (Q.o.fru s h0 hB) j yo_
   have s:q<=90000000:=M_;have s:C.size<=90000000:=M_;have s:(C++K).size<=90004000:=yq_
   replace S:=zy S;replace O:=zy O;replace hFw:=zy hFw;replace z:=zy z;replace hBu:=zy hBu;replace D:=zy D;replace F:=zy F;go_wp2;rw[<- E];replace E:=zy E;refine tR_ (λW=>z_ W wr.heap.size 0 (.string K)) ?_;refine tY_ 0 ?_;refine tY_ 1 ?_;refine tY_ 3 ?_;refine tY_ 4 ?_;refine zd 2 rfl K_ (by have:=F.o.cell 0;exact this) (λr a=>?_);go_simp;apply(S.o _ ((A_ A _).drew)).mono;rintro e w1 ⟨l,rfl,j,c1⟩;refine a _ _ ?_;refine zd 5 rfl K_ c1 (λr a=>?_);rw[i_ (show Region.wanted _ _=true by kernel_rfl)];refine KJ _ _ rfl j.o.1 M_ a8 (ai_ hB j.o.2.1.size) rfl rfl ?_;intro v6 A s z;refine a _ _ ?_;have l:=z.bl j.o.2.2 D_;have D:=l.c0;have E:=l.c1;have M:=zy (j.o.2.1.trans z);replace s:=zy s;replace l:=zy l;refine tY_ 6 ?_;refine zV K_ D ?_ _;go_wp2;refine tR_ (λW=>z_ W wr.heap.size 1 (.iface T x)) ?_;refine tY_ 0 ?_;refine tY_ 3 ?_;refine tY_ 4 ?_;refine zd 1 rfl K_ E (λr a=>?_);go_simp;refine a _ _ ?_;have z:=M.o.size;have Z:=(l.o.alloc (.cells #[.int .u8 58] 5));have j:=Z.c1;refine zd 2 rfl K_ j (λr a=>?_);rw[i_ (show Region.wanted _ _=true by kernel_rfl)];refine oP _ _ rfl 58 rfl D_ (w:=A.drew) (ye.si s (zw.drew _)) M_ (ai_ hB z) rfl rfl rfl rfl ?_;intro j j a1 U;refine a _ _ ?_;have N:=M.o.drew.trans U;have L:=U.bl ((((A_ A N_).drew)).bl l id) D_;have j:=L.c1;refine zd 5 rfl K_ j (λr a=>?_);go_simp;apply(O.o _ _ a1 N).mono;rintro e j ⟨j,rfl,j,l⟩;refine a _ _ ?_;have r:=(l.bl L D_).c1;have a:=zy (N.trans l);replace j:=zy j;refine tY_ 6 ?_;refine zV K_ r ?_ _;go_wp2;go_roundg (ds.length+1-(q+1));case measure=>omega
   case rel=>exact⟨q+1,by simp,X,l_,j,a⟩
  .have cc1:=Nat;exact cwPN1_
end
section
variable {w0 w:Aw} {env:Ay} {m:Nat} {P:Au} {B:Nat} {u:Ax} {b:BA} {t:PT}
def cC(env:Ay)(n:Nat)(d:DT)(t:PT):txT env (.mk 40 (n:Int) noB [] [d]) t=bts [60]++(xK n++(bts [58]++(txT env d (zN env t n 0)++bts [62]))):=by
 conv=>lhs;unfold txT
 rw[n_ D_,n_ D_,n_ D_,n_ D_,n_ D_,n_ D_,i_ rfl];simp only[xA,jn,a2_,if_false,if_true,jY,gD,bb_]
def KN(R:aB w0 env m)(M:jK w0)(hn:n<=4000){d:DT}{v:Ax}(hm:ndT d<=m)(y:DaV env w P d (zN env t n 0) v)(hP:∀g,P g->g<B)(h0:w0.heap.size<=B)(hB:B<=w.heap.size)(G:yt w0 w)(hu:ye w B u b)(hs:b.size+8022*(1+ndT d)<=90000000):Calls prog 65 #[u,.agg #[I_ n,v]] w (yQ w B (b++txT env (.mk 40 (n:Int) noB [] [d]) t)):=by
 refine hq_ λf L=>?_;obtain⟨T,x,rfl⟩:=y.iface;have V:=wq (n:=(n:Int)) M_ M_;have Z:=kM env d (zN env t n 0) y.dat.ok;have Q:∀g,P g->¬B<=g:=λg h=>by have:=hP g h;omega
 obtain⟨i,r⟩:=e_ (w.alloc (.cells #[I_ n,.iface T x] 135));have l:Fr w i N_:=r▸(A_ w _).alloc _;have q:Blk i w.heap.size [I_ n,.iface T x] 135:=r▸B_ w #[I_ n,.iface T x] 135;have a0:=l.size;have K:ye i B u b:=ye.fr hu l u_;have f:(b++bts [60]).size<=b.size+1:=by rw[as_,zE];exact l_
 have H:∀W f,ye W B f (b++bts [60])->FrU B w W->Calls prog 61 #[f,I_ n,Z_ 10] W (yQ W B ((b++bts [60])++xK n)):=λW f h1 j=>M W B h0 (by have:=j.size;omega) (G.fru j h0 hB) f _ (n:Int) M_ M_ h1 M_;have F:∀W f,ye W B f (((b++bts [60])++xK n)++bts [58])->FrU B w W->Calls prog 36 #[f,.iface T x] W (yQ W B ((((b++bts [60])++xK n)++bts [58])++txT env d (zN env t n 0))):=λW f h1 j=>R d hm W P B _ _ f _ (y.fr j.all Q) hP h0 (by have:=j.size;omega) (G.fru j h0 hB) h1 yo_;have f:b++txT env (.mk 40 (n:Int) noB [] [d]) t=((((b++bts [60])++xK n)++bts [58])++txT env d (zN env t n 0))++bts [62]:=by rw[cC];simp only[be_]
 rw[f]at L;have j:((b++bts [60])++xK n).size<=90000000:=yq_
 have Y:((((b++bts [60])++xK n)++bts [58])++txT env d (zN env t n 0)).size<=100000000:=yo_
 replace H:=zy H;replace F:=zy F;have f:=zy (FrU.of (B:=B) l);replace l:=zy l;have c0:=q.c0;replace q:=zy q;replace K:=zy K;replace r:=zy r;go_in;go_wp2;rw[<- r.o];refine tR_ (λW=>z_ W w.heap.size 0 (I_ n)) ?_;refine tY_ 0 ?_;refine tY_ 3 ?_;refine tY_ 4 ?_;refine zd 1 rfl K_ c0 (λc a=>?_);go_simp;refine a _ _ ?_;have j:=(q.o.alloc (.cells #[.int .u8 60] 5)).c0;refine zd 2 rfl K_ j (λc a=>?_);rw[i_ (show Region.wanted _ _=true by kernel_rfl)];refine oP _ _ rfl 60 rfl D_ (w:=i.drew) (ye.si K (zw.drew _)) M_ (ai_ hB a0) rfl rfl rfl rfl ?_;intro j j N I;refine a _ _ ?_;have C:=f.o.drew.trans I;have z:=I.bl ((((A_ i N_).drew)).bl q id) D_;have f:=z.c0;refine zd 5 rfl K_ f (λc a=>?_);go_simp;apply(H.o _ _ N C).mono;rintro e S ⟨f,rfl,i,j⟩;refine a _ _ ?_;have f:=j.bl z D_;have l:=f.c0;have q:=f.c1;have D:=zy (C.trans j);replace i:=zy i;replace f:=zy f;refine tY_ 6 ?_;refine zV K_ l ?_ _;go_wp2;refine tR_ (λW=>z_ W w.heap.size 1 (.iface T x)) ?_;refine tY_ 0 ?_;refine tY_ 3 ?_;refine tY_ 4 ?_;refine zd 1 rfl K_ q (λc a=>?_);go_simp;refine a _ _ ?_;have l:=D.o.size;have j:=(f.o.alloc (.cells #[.int .u8 58] 5)).c1;refine zd 2 rfl K_ j (λc a=>?_);rw[i_ (show Region.wanted _ _=true by kernel_rfl)];refine oP _ _ rfl 58 rfl D_ (w:=S.drew) (ye.si i (zw.drew _)) M_ (ai_ hB l) rfl rfl rfl rfl ?_;intro i i O J;refine a _ _ ?_;have E:=D.o.drew.trans J;have A:=J.bl ((((A_ S N_).drew)).bl f id) D_;have f:=A.c1;refine zd 5 rfl K_ f (λc a=>?_);go_simp;apply(F.o _ _ O E).mono;rintro e f ⟨f,rfl,f,i⟩;refine a _ _ ?_;have a:=(i.bl A D_).c1;have s:=E.trans i;have c:=s.size;replace s:=zy s;replace f:=zy f;refine tY_ 6 ?_;refine zV K_ a ?_ _;go_wp2_with (at_builtin;refine qm rfl _ _ rfl 62 rfl D_ f Y M_ rfl rfl rfl ?_;intro a a U X);try go_ret
 rw[L.o];exact⟨_,rfl,U,s.o.trans X⟩
end
section
variable {w:Aw} {P Pd:Au} {bz k:Nat} {ts:Aq} {env:Ay}
def PQ(ih:QG env m0){l:Af}{u:PT}{d:DT}(hm:1+ndT d<=m0+1)(hb:1+ndT d<=100000)(R:l[n]?=some u)(a3:gO env d u)(hu:okT env u)(Z:ZAt w P bz ts env)(hk:isT ts k (.alts p l))(O:zF w Pd (.mk 40 (n:Int) noB [] [d]) (zq 40 (n:Int) noB vk vs))(z:okD (.mk 40 (n:Int) noB [] [d])):Calls prog 8 #[P_ bz,.agg (zq 40 (n:Int) noB vk vs).toArray,I_ k] w λe w'=>e=.returned (.string (txT env (.mk 40 (n:Int) noB [] [d]) (.alts p l)))/\Fr w w' N_:=by
 obtain⟨r,c1,rfl,b7⟩:=O.keys;obtain⟨a2,c2,rfl,a9⟩:=O.sub;unfold isT at hk;obtain⟨j,b5,a4⟩:=hk;obtain⟨A,hjt,a5⟩:=wB a4 n u R;obtain⟨g,m,d0,sv,z0,d1,y,z2,ho,b8⟩:=Z.type b5;simp only[af_]at y;have d7:n<j.length:=(am_.1 hjt).1;obtain⟨i,cs,rfl⟩:=zu ho y5_;have zj:=ze ho rfl (k:=n) (x:=I_ A) zh_;have d2:=zo z0;have d6:=zo y;have y:(k:Int)<(m:Int):=M_;have y:(n:Int)<(j.length:Int):=M_;refine hq_ λy D=>?_;have a8:zN env (.alts p l) n 0=u:=by simp[zN,az_,R]
 rw[cC,a8]at D;obtain⟨c,I,J,K,y,y,rfl,a0,⟨U,w1,X,rfl⟩,⟨V,T,Y,rfl⟩,L,M,N,d3,d4⟩:=a9 0 d rfl;simp only[Nat.zero_mul,bp_]at L M N d3 d4;obtain⟨f,s⟩:=e_ ((w.alloc (.cells (zq 40 (n:Int) noB (.slice r 0 c1) (S_ c 1 c2)).toArray 32)).alloc (.cells #[.int .u8 40,S_ i j.length cs] 57));have q:Fr w f N_:=s▸((A_ w _).alloc _).alloc _;have B0:Blk f w.heap.size (zq 40 (n:Int) noB (.slice r 0 c1) (S_ c 1 c2)) 32:=s▸(B_ w _ _).alloc _;have T0:Blk f (w.heap.size+1) [.int .u8 40,S_ i j.length cs] 57:=by
  have:=B_ (w.alloc (.cells (zq 40 (n:Int) noB (.slice r 0 c1) (S_ c 1 c2)).toArray 32)) #[.int .u8 40,S_ i j.length cs] 57;rw[show(w.alloc (.cells (zq 40 (n:Int) noB (.slice r 0 c1) (S_ c 1 c2)).toArray 32)).heap.size=w.heap.size+1 by simp]at this;rw[s];exact this
 unfold okD at z;have a6:=z.1.1;have a7:=z.1.2.1;have S:okD d:=bh z.2.2.2.2.2 d x8_;have b4:=kM env d u S;have b9:=wq a6 a7;have C:∀(W:World),Fr f W N_->(W.cell? ⟨w.heap.size,4,none⟩=some (S_ c 1 c2)/\W.cell? ⟨c,0,none⟩=some (U_ I)/\W.cell? ⟨c,1,none⟩=some (Z_ J)/\W.cell? ⟨c,2,none⟩=some (.string K)/\W.cell? ⟨c,3,none⟩=some (.slice U w1 X)/\W.cell? ⟨c,4,none⟩=some (.slice V T Y)/\W.cell? ⟨w.heap.size+1,1,none⟩=some (S_ i j.length cs)/\W.cell? ⟨w.heap.size,1,none⟩=some (I_ n)/\W.cell? ⟨i,n,none⟩=some (I_ A)):=λW r=>by
  have hF:=q.trans r u_;have y:∀(b o:Nat) (v:Value),w.cell? ⟨b,o,none⟩=some v->W.cell? ⟨b,o,none⟩=some v:=λb o v h=>(World.cell?_of_block (a:=⟨b,o,none⟩) (hF.block b (World.block_lt_of_cell? w ⟨b,o,none⟩ h) id)).trans h;have hB:=r.bl B0 id;have hT:=r.bl T0 id;exact⟨hB.cell 4,y _ _ _ L,y _ _ _ M,y _ _ _ N,y _ _ _ d3,y _ _ _ d4,hT.cell 1,hB.cell 1,y _ _ _ zj⟩
 have E:∀W,Fr f W N_->Calls prog 8 #[P_ bz,.agg (zq I J K (.slice U w1 X) (.slice V T Y)).toArray,I_ A] W λe w'=>e=.returned (.string (txT env d u))/\Fr W w' N_:=λW r=>ih d M_ M_ S u a3 hu W P Pd bz ts A ((Z.fr q u_).fr r u_) a5 I J K _ _ ((a0.fr q u_).fr r u_);obtain⟨bd,Q⟩:=e_ (txT env d u);obtain⟨dd,F⟩:=e_ (xK (n:Int));rw[<- Q]at D E b4;rw[<- F]at D b9;have r:bd.size<=900000000:=M_;replace C:=zy C;replace E:=zy E;replace s:=zy s;replace Q:=zy Q;replace F:=zy F;replace q:=zy q;simp only[zq,af_,au_,ar_,bp_];go_in;go_wp2_with (go_at_call 15;apply(gP a6 a7).mono;rintro e w3 ⟨rfl,r⟩;rw[<- F.o];have G:=zy (s.o▸r:Fr f w3 N_));refine tR_ (λW=>(z_ W w.heap.size 4 (S_ c 1 c2)/\z_ W c 0 (U_ I)/\z_ W c 1 (Z_ J)/\z_ W c 2 (.string K)/\z_ W c 3 (.slice U w1 X)/\z_ W c 4 (.slice V T Y)/\z_ W (w.heap.size+1) 1 (S_ i j.length cs)/\z_ W w.heap.size 1 (I_ n)/\z_ W i n (I_ A))) ?_;refine tY_ 0 ?_;refine tY_ 1 ?_;refine tY_ 2 ?_;refine tY_ 3 ?_;refine tY_ 4 ?_;refine tY_ 5 ?_;refine tY_ 6 ?_;refine tY_ 7 ?_;refine tY_ 8 ?_;refine tY_ 9 ?_;refine tY_ 10 ?_;refine zd 11 rfl K_ (C.o _ G.o.drew) (λK1 a1=>?_);go_simp;apply(E.o _ G.o.drew).mono;rintro e c ⟨rfl,H⟩;refine a1 _ _ ?_;have c:=C.o _ (G.o.drew.trans H u_);replace H:=zy H;refine tY_ 12 ?_;refine zV K_ c ?_ _;go_wp2;try go_ret
 rw[D.o];exact⟨by simp only[be_];rfl,(q.o.trans G u_).drew.trans H u_⟩
end
def Km{sb:BA}{l:Av}(h:sb.data.toList.map UInt8.toNat=l.map Prod.fst)(hn:n<l.length):n+1<=sb.size/\sb.extract n (n+1)=bts [(l.map Prod.fst).getD n 0]:=by
 have a:sb.size=l.length:=by
  have:=congrArg List.length h;simpa using this
 have hg:sb.data.toList.getD n 0=UInt8.ofNat ((l.map Prod.fst).getD n 0):=by
  rw[<- h];simp only[az_,a1_];have a:n<sb.data.toList.length:=by simpa using(show n<sb.size by omega)
  rw[ak_ a];simp
 refine⟨M_,?_⟩;apply bx_;apply Array.toList_inj.1;rw[cj_,Array.toList_extract];have a:n<sb.data.toList.length:=by simpa using(show n<sb.size by omega)
 have e:(sb.data.toList.take (n+1)).drop n=[sb.data.toList.getD n 0]:=by
  rw[a8_,ak_ a,List.drop_append_of_le_length x4_,az_,ak_ a];simp
 simp only[List.extract_eq_take_drop,List.drop_take]at *;have a:(bts [(l.map Prod.fst).getD n 0]).data.toList=[UInt8.ofNat ((l.map Prod.fst).getD n 0)]:=rfl;rw[a,<- hg];simpa using e
section
variable {w:Aw} {P Pd:Au} {bz k:Nat} {ts:Aq} {env:Ay}
def Fk{c:Nat}{l:Av}{o:Ac}(he:env c=some (.enum l o))(hc:zZ c=true)(a2:n<l.length)(b4:l.length<=300)(Z:ZAt w P bz ts env)(hk:isT ts k (.leaf c p))(N:zF w Pd (.mk 101 (n:Int) noB [] []) (zq 101 (n:Int) noB vk vs)):Calls prog 8 #[P_ bz,.agg (zq 101 (n:Int) noB vk vs).toArray,I_ k] w λe w'=>e=.returned (.string (txT env (.mk 101 (n:Int) noB [] []) (.leaf c p)))/\Fr w w' N_:=by
 have a0:65<=c/\c<=70:=yd_
 obtain⟨q,G⟩:∃q,c=65+q:=⟨c-65,M_⟩;have T:q<6:=M_;have hwq:=qW q c G T;have b7:(q:Int)<6:=M_;obtain⟨i,c1,rfl,a1⟩:=N.keys;obtain⟨j,c2,rfl,a4⟩:=N.sub;unfold isT at hk;obtain⟨g,m,a6,sv,z0,a7,z1,z2,ho,a3⟩:=Z.type hk;obtain⟨H,sn,I,rfl⟩:=zW ho;simp only at z1;have a9:=zo z0;have b5:=zo z1;have a8:(k:Int)<(m:Int):=M_;refine hq_ λa5 Q=>?_;obtain⟨so,fv,sb,C,D,hN,Y,y1,y2,y3,y4⟩:=Z.named T (by rw[<- G];exact he);obtain⟨⟨r,x,s,rfl⟩,_,rfl,V⟩:=hN;obtain⟨b8,U⟩:=Km V a2;have S:txT env (.mk 101 (n:Int) noB [] []) (.leaf c p)=sb.extract n (n+1):=by
  conv=>lhs;unfold txT
  rw[n_ D_,n_ D_,n_ D_,n_ D_,n_ D_,i_ rfl,bb_,U]
  congr 2
  simp[fI,he]
 rw[S]at Q;obtain⟨d,f⟩:=e_ ((w.alloc (.cells (zq 101 (n:Int) noB (.slice i 0 c1) (.slice j 0 c2)).toArray 32)).alloc (.cells #[U_ c,.slice H sn I] 57));have E:Fr w d N_:=f▸((A_ w _).alloc _).alloc _;have O:Blk d w.heap.size (zq 101 (n:Int) noB (.slice i 0 c1) (.slice j 0 c2)) 32:=f▸(B_ w _ _).alloc _;have R:Blk d (w.heap.size+1) [U_ c,.slice H sn I] 57:=by
  have:=B_ (w.alloc (.cells (zq 101 (n:Int) noB (.slice i 0 c1) (.slice j 0 c2)).toArray 32)) #[U_ c,.slice H sn I] 57;rw[show(w.alloc (.cells (zq 101 (n:Int) noB (.slice i 0 c1) (.slice j 0 c2)).toArray 32)).heap.size=w.heap.size+1 by simp]at this;rw[f];exact this
 have A:∀(W:World),Fr d W N_->(W.cell? ⟨w.heap.size+1,0,none⟩=some (U_ c)/\W.cell? ⟨bz,1+q*5,none⟩=some (.int .u8 101)/\W.cell? ⟨bz,1+q*5+1,none⟩=some (.slice r x s)/\W.cell? ⟨bz,1+q*5+2,none⟩=some (.string sb)/\W.cell? ⟨bz,1+q*5+3,none⟩=some (Z_ C)/\W.cell? ⟨bz,1+q*5+4,none⟩=some (Z_ D)):=λW F=>by
  have hF:=E.trans F u_;have z:∀(b o:Nat) (v:Value),w.cell? ⟨b,o,none⟩=some v->W.cell? ⟨b,o,none⟩=some v:=λb o v h=>(World.cell?_of_block (a:=⟨b,o,none⟩) (hF.block b (World.block_lt_of_cell? w ⟨b,o,none⟩ h) id)).trans h;have hT:=F.bl R id;exact⟨hT.cell 0,z _ _ _ Y,z _ _ _ y1,z _ _ _ y2,z _ _ _ y3,z _ _ _ y4⟩
 have M:∀(W:World),Fr d W N_->W.cell? ⟨w.heap.size,1,none⟩=some (I_ n):=λW F=>(F.bl O id).cell 1;have X:d.heap.size=w.heap.size+2:=by rw[f];simp
 have b6:(n:Int)<=300:=M_;replace A:=zy A;replace M:=zy M;replace E:=zy E;replace G:=zy G;replace f:=zy f;clear a1 a4 Z N ho a3 hk V U S R O Y y1 y2 y3 y4 he hc a0;simp only[zq,af_,ar_];go_in;go_wp2;change Code.wp _ _ _ _ ((w.alloc (.cells (zq 101 (n:Int) noB (.slice i 0 c1) (.slice j 0 c2)).toArray 32)).alloc (.cells #[U_ c,.slice H sn I] 57));rw[<- f.o];refine tR_ (λW=>z_ W (w.heap.size+1) 0 (U_ c)/\z_ W bz (1+q*5) (.int .u8 101)/\z_ W bz (1+q*5+1) (.slice r x s)/\z_ W bz (1+q*5+2) (.string sb)/\z_ W bz (1+q*5+3) (Z_ C)/\z_ W bz (1+q*5+4) (Z_ D)) ?_;refine tA_ 0 rfl K_ (λ_ _ _ h=>h) xb_ ?_;refine tA_ 1 rfl K_ (λ_ _ _ h=>h) xb_ ?_;refine tA_ 2 rfl K_ (λ_ _ _ h=>h) xb_ ?_;refine tA_ 3 rfl K_ (λ_ _ _ h=>h) xb_ ?_;refine tA_ 4 rfl K_ (λ_ _ _ h=>h) xb_ ?_;refine tA_ 5 rfl K_ (λ_ _ _ h=>h) xb_ ?_;refine tA_ 6 rfl K_ (λ_ _ _ h=>h) xb_ ?_;refine tA_ 7 rfl K_ (λ_ _ _ h=>h) xb_ ?_;refine tA_ 8 rfl K_ (λ_ _ _ h=>h) xb_ ?_;refine zd 9 rfl K_ (A.o _ ((A_ d _).drew)) (λK y=>?_);go_simp;refine y _ _ ?_;clear y K;refine zd 10 rfl K_ (A.o _ (((A_ d _).alloc _).drew)) (λK y=>?_);go_simp;refine y _ _ ?_;clear y K;refine zV K_ (A.o _ (((A_ d _).alloc _).drew)) ?_ _;have L:=B_ d #[.int .u8 101,.slice r x s,.string sb,Z_ C,Z_ D] 39;rw[X]at L;have n2:=L.c2;have J:=(A_ d N_).alloc (.cells #[.int .u8 101,.slice r x s,.string sb,Z_ C,Z_ D] 39);have b1:=M.o _ J;have F9:=zy (E.o.trans J u_);generalize d.alloc (.cells #[.int .u8 101,.slice r x s,.string sb,Z_ C,Z_ D] 39)=W9 at *;clear X L J;go_wp2;try go_ret
 rw[Q.o];exact⟨rfl,F9.o.drew⟩
end
end Go.Proofs.YtahhhgbojlkjnaaGreatDoor
