import Derived.Test.YtahhhgbojlkjnaaGreatDoorW28
set_option maxHeartbeats 16000000
set_option maxRecDepth 100000
set_option linter.defProp false
set_option linter.unusedSimpArgs false
set_option linter.unusedVariables false
open Go.Proofs.Tryz
namespace Go.Proofs.YtahhhgbojlkjnaaGreatDoor
open Go.RowKit
variable {t t':PT}{p:Nat}{d:DT}{ks:Aa}{ds:Ak}{α:Type}
def xB{P:Cc}{fn:Func}{R:Cu}{a:Act}{w:Aw}{b t:Nat}{u0 j u2 m o v0 c f g i:Ax}{l:Az}{r}(e:fn.results=r)(h:Blk w b [u0,j,u2,m,o] t)(j:R (.returned (.tuple (.agg #[v0,c,f,g,i]::l).toArray)) (((((w.setCell ⟨b,0,none⟩ v0).setCell ⟨b,1,none⟩ c).setCell ⟨b,2,none⟩ f).setCell ⟨b,3,none⟩ g).setCell ⟨b,4,none⟩ i))(hr:∀W,fn.results=r->Blk W b [v0,c,f,g,i] t->(results fn a.tmps).run P W=.ok (.tuple (.agg #[v0,c,f,g,i]::l).toArray) W:=by
  intro W e h
  obtain⟨m,o,q,q3,u⟩:=h.d5
  simp[results,e,go_sem,m,o,q,q3,u])(hd:a.defers=[]:=by rfl):bodyPost P fn R .ret a (((((w.setCell ⟨b,0,none⟩ v0).setCell ⟨b,1,none⟩ c).setCell ⟨b,2,none⟩ f).setCell ⟨b,3,none⟩ g).setCell ⟨b,4,none⟩ i):=
 bodyPost_ret (hr _ e (h.fi v0 c f g i)) hd j
structure MX(W:Aw)(B:Ct)(ba bb:Nat)(s s':BA)(ta tb:Aq)(ew er:Ay)(df:Ad):Prop where
 a:SC W ba s ta ew
 b:SC W bb s' tb er
 d:∀c fs q g x,er c=some (.recd fs)->fs[q]?=some g->df g=some x->∃gg n cp v,W.cell? ⟨bb,1+(c-65)*5+1,none⟩=some (S_ gg n cp)/\(∀j y,v[j]?=some y->W.cell? ⟨gg,q*10+5+j,none⟩=some y)/\zF W (λg=>g<B.1/\g≠B.2) x v
 hB:B.1<=W.heap.size
def MX.fr{W W':Aw}{B:Ct}{ba bb:Nat}{s s':BA}{ta tb:Aq}{ew er:Ay}{df:Ad}(h:MX W B ba bb s s' ta tb ew er df)(e:Fr W W' N_):MX W' B ba bb s s' ta tb ew er df:=
 ⟨h.a.fr e,h.b.fr e,λc fs q g x h1 m o=>by
  obtain⟨gg,n,cp,v,f,i,l⟩:=h.d c fs q g x h1 m o
  exact⟨gg,n,cp,v,e.ke f,λj y hy=>e.ke (i j y hy),l.fr e u_⟩,ai_ h.hB e.size⟩
structure MY(ew er:Ay)(df:Ad):Prop where
 ow:jr ew
 or:jr er
 few:uM er
 bad:∀c fs g,er c=some (.recd fs)->g∈fs->yC g.ty=[]
 nw:∀c X,ew c=some X->zZ c=true
 dn:∀c fs g,er c=some (.recd fs)->g∈fs->(df g).isSome=g.dflt.isSome
def uN:∀(l:List PT) (e:List Nat),ji e l=[]->(∀k∈l.map PT.kind,k∉e)/\(l.map PT.kind).Nodup/\∀t∈l,yC t=[]
 | [],_,_=>⟨λk hk=>(by cases hk),List.nodup_nil,λt j=>(by cases j)⟩
 |t::r,e,h=>by
  rw[ji,bu_,bu_]at h;obtain⟨h1,f,g⟩:=h;have hk:t.kind∉e:=λi=>by rw[i_ (.inr i)]at h1;cases h1
  obtain⟨a,b,c⟩:=uN r _ g;rw[aw_];refine⟨λk hm=>?_,List.nodup_cons.2 ⟨λhm=>a _ hm x8_,b⟩,λu hu=>?_⟩
  .rcases aq_.1 hm with rfl|hm
   .exact hk
   .exact λhs=>a k hm (by simp[hs])
  .rcases aq_.1 hu with rfl|hu
   .exact f
   .exact c u hu
def vQ{env:Ay}(h:okT env t)(f:t.isAlts=false):t.kind≠40:=by
 cases t with
 |alts p l=>cases f
 |wrap c p u=>
  unfold okT at h;show c≠40;have:=h.1;omega
 |leaf c p=>
  unfold okT at h;show c≠40;rintro rfl;rcases h with h|⟨h,_⟩
  .simp[zY]at h
  .simp[zZ]at h
def okR(er:Ay)(t:PT):Prop:=okT er t/\xM t/\yC t=[]
def jx(W:Aw)(B:Ct)(r:Cg)(e:Ah)(w':Aw):Prop:=
 ∃(k:Nat) (n:Int) (tx:BA) (a1:Option Addr) (m1 c1:Nat) (a2:Option Addr) (m2 c2:Nat),e=.returned (.tuple #[.agg (zq k n tx (.slice a1 m1 c1) (.slice a2 m2 c2)).toArray,.bool r.isSome])/\Fr W w' N_/\
  ∀x,r=some x->zF w' (λg=>(g<B.1/\g≠B.2)\/W.heap.size<=g) x (zq k n tx (.slice a1 m1 c1) (.slice a2 m2 c2))
def Bo(B:Ct)(ba bb:Nat)(s s':BA)(ta tb:Aq)(ew er:Ay)(df:Ad)(m:Nat)(R:Cz)(t':PT):Prop:=
 ∀(t:PT) (d:DT),ndT d<=m->Dat ew d t->okT ew t->∀(W:World) (w r:Nat),MX W B ba bb s s' ta tb ew er df->isT ta w t->isT tb r t'->∀(k:Nat) (n:Int) (tx:BA) (a1:Option Addr) (m1 c1:Nat) (a2:Option Addr) (m2 c2:Nat),zF W (λg=>g<B.1/\g≠B.2) d (zq k n tx (.slice a1 m1 c1) (.slice a2 m2 c2))->
  Calls prog 13 #[P_ ba,I_ w,P_ bb,I_ r,.agg (zq k n tx (.slice a1 m1 c1) (.slice a2 m2 c2)).toArray] W (jx W B (R t t' d))
def mw(W:Aw)(v:Az):World:=(W.alloc (.cells v.toArray 32)).alloc (.cells zf.toArray 32)
def mZ(W:Aw)(v:Az):Fr W (mw W v) N_:=((A_ W _).alloc _).alloc _
def eD(W:Aw)(v:Az):Blk (mw W v) W.heap.size v 32:=by
 have:=(B_ W v.toArray 32).alloc (.cells zf.toArray 32);simpa[mw] using this
def eR(W:Aw)(v:Az):Blk (mw W v) (W.heap.size+1) zf 32:=by
 have:=B_ (W.alloc (.cells v.toArray 32)) zf.toArray 32;rw[show(W.alloc (.cells v.toArray 32)).heap.size=W.heap.size+1 by simp]at this;exact this
def kt(W:Aw)(v:Az):(mw W v).heap.size=W.heap.size+2:=by simp[mw]
section
variable {W:Aw} {B:Ct} {ba bb w r:Nat} {s s':BA} {ta tb:Aq} {ew er:Ay} {df:Ad}
def FY{m n:Nat}{l:Af}{u:PT}{R:Cz}(ih:Bo B ba bb s s' ta tb ew er df m R t')(hm:ndT d<=m)(hl:l[n]?=some u)(hd:Dat ew d u)(hu:okT ew u)(X:MX W B ba bb s s' ta tb ew er df)(K:isT ta w (.alts p l))(hr:isT tb r t'){a1:Ao}{m1 c1:Nat}{a2:Ao}{m2 c2:Nat}(hD:zF W (λg=>g<B.1/\g≠B.2) (.mk 40 (n:Int) noB [] [d]) (zq 40 (n:Int) noB (.slice a1 m1 c1) (.slice a2 m2 c2))):Calls prog 13 #[P_ ba,I_ w,P_ bb,I_ r,.agg (zq 40 (n:Int) noB (.slice a1 m1 c1) (.slice a2 m2 c2)).toArray] W (jx W B (R u t' d)):=by
 refine hq_ λb6 Q_=>?_;unfold isT at K;obtain⟨i,b4,a5⟩:=K;obtain⟨L,hjt,a6⟩:=wB a5 n u hl;obtain⟨a,c,e,a9⟩:=hD.sub;cases e;obtain⟨b,k',n',a0,K,K,rfl,a4,⟨x1,y1,z1,rfl⟩,⟨x2,y2,z2,rfl⟩,N,O,S,d3,d4⟩:=a9 0 d rfl;simp only[Nat.zero_mul,bp_]at N O S d3 d4;obtain⟨V,j⟩:=e_ (mw W (zq 40 (n:Int) noB (.slice a1 m1 c1) (.slice (some ⟨b,0,none⟩) [d].length c2)));have f:Fr W V N_:=j▸mZ _ _;have B0:Blk V W.heap.size (zq 40 (n:Int) noB (.slice a1 m1 c1) (.slice (some ⟨b,0,none⟩) [d].length c2)) 32:=j▸eD _ _;have B1:Blk V (W.heap.size+1) zf 32:=j▸eR _ _;obtain⟨g,mm,b7,K,sc,z0,K,a3,b5,ho⟩:=X.a.type b4;simp only[af_]at a3;have K:n<i.length:=(am_.1 hjt).1;obtain⟨K,cs,e⟩:=zu ho y5_;cases e;have zj:=ze ho rfl (k:=n) (x:=I_ L) zh_;have b9:(n:Int)<(i.length:Int):=M_;have C0:=f.ke z0;have C1:=f.ke a3;obtain⟨CL,hCL⟩:∃C:World->Prop,H_ (C=λW'=>W'.cell? ⟨ba,0,none⟩=some (S_ g mm b7)/\W'.cell? ⟨g,w*2+1,none⟩=some (S_ K i.length sc)/\W'.cell? ⟨W.heap.size,1,none⟩=some (I_ n)/\W'.cell? ⟨K,n,none⟩=some (I_ L)/\W'.cell? ⟨W.heap.size,4,none⟩=some (.slice (some ⟨b,0,none⟩) [d].length c2)/\W'.cell? ⟨b,0,none⟩=some (U_ k')/\W'.cell? ⟨b,1,none⟩=some (Z_ n')/\W'.cell? ⟨b,2,none⟩=some (.string a0)/\W'.cell? ⟨b,3,none⟩=some (.slice x1 y1 z1)/\W'.cell? ⟨b,4,none⟩=some (.slice x2 y2 z2)):=⟨_,rfl⟩;have mv:H_ (∀W',Fr V W' (λx=>x=W.heap.size+1)->CL W'):=zy (λW' K=>by
  rw[hCL.o]
  have i:Fr W W' N_:=f.trans K (λx hx e=>M_)
  have hB:=K.bl B0 M_
  exact⟨i.ke z0,i.ke b5,hB.cell 1,i.ke zj,hB.cell 4,i.ke N,i.ke O,i.ke S,i.ke d3,i.ke d4⟩)
 have i:H_ (∀W',Fr V W' N_->Calls prog 13 #[P_ ba,I_ L,P_ bb,I_ r,.agg (zq k' n' a0 (.slice x1 y1 z1) (.slice x2 y2 z2)).toArray] W' (jx W' B (R u t' d))):=zy (λW' K=>ih u d hm hd hu W' L r (X.fr (f.trans K u_)) a6 hr k' n' a0 _ _ _ _ _ _ (a4.fr (f.trans K u_) u_));have hB:=X.hB;replace j:=zy j;replace f:=zy f;simp only[zq,af_];go_in;go_upto_region 1 with fail;change Code.wp _ _ _ _ (mw W (zq 40 (n:Int) noB (.slice a1 m1 c1) (.slice (some ⟨b,0,none⟩) [d].length c2)));rw[<- j.o];go_wp2;refine tR_ CL ?_;refine tA_ 0 rfl K_ (λ_ _ _ h=>h) x3_ ?_;refine tA_ 1 rfl K_ (λ_ _ _ h=>h) x3_ ?_;refine tA_ 2 rfl K_ (λ_ _ _ h=>h) x3_ ?_;refine tA_ 3 rfl K_ (λ_ _ _ h=>h) x3_ ?_;refine tA_ 4 rfl K_ (λ_ _ _ h=>h) x3_ ?_;refine tA_ 5 rfl K_ (λ_ _ _ h=>h) x3_ ?_;refine tA_ 6 rfl K_ (λ_ _ _ h=>h) x3_ ?_;refine tA_ 7 rfl K_ (λ_ _ _ h=>h) x3_ ?_;refine tA_ 8 rfl K_ (λ_ _ _ h=>h) x3_ ?_;refine tA_ 9 rfl K_ (λ_ _ _ h=>h) x3_ ?_;refine tA_ 10 rfl K_ (λ_ _ _ h=>h) x3_ ?_;refine tA_ 11 rfl K_ (λ_ _ _ h=>h) x3_ ?_;refine tA_ 12 rfl K_ (λ_ _ _ h=>h) x3_ ?_;refine tA_ 13 rfl K_ (λ_ _ _ h=>h) x3_ ?_;refine tA_ 14 rfl K_ (λ_ _ _ h=>h) x3_ ?_;refine tA_ 15 rfl K_ (λ_ _ _ h=>h) x3_ ?_;refine tA_ 16 rfl K_ (λ_ _ _ h=>h) x3_ ?_;refine tA_ 17 rfl K_ (λ_ _ _ h=>h) x3_ ?_;refine tA_ 18 rfl K_ (λ_ _ _ h=>h) x3_ ?_;refine zd 19 rfl K_ (mv.o _ ((A_ V _).drew)) (λM J=>?_);go_simp;apply(i.o _ ((A_ V _).drew)).mono;rintro e w5 ⟨G,H,I,q,z,A,D,E,F,rfl,b,Z⟩;simp only[zq];refine J _ _ ?_;replace b:=(A_ V N_).drew.trans b u_;have a7:=mv.o _ (b.mono v_);have i:=b.bl B1 id;obtain⟨r0,r1,K,L,N⟩:=i.f5;obtain⟨O,O,O,t3,t4⟩:=i.t5;simp only[zf,zq,aa_,ab_,af_]at r0 r1 K L N;revert Z b i;refine h_ λZ b i=>?_;refine tA_ 20 rfl K_ (λ_ _ _ h=>h) x3_ ?_;refine tA_ 21 rfl K_ (λ_ _ _ h=>h) x3_ ?_;refine zd 22 rfl K_ a7 (λM J=>?_);go_simp;refine J _ _ ?_;have U:=Fr.fi w5 (W.heap.size+1) (U_ G) (Z_ H) (.string I) (.slice q z A) (.slice D E F);have B6:=Blk.fi i (U_ G) (Z_ H) (.string I) (.slice q z A) (.slice D E F);have Y:=(b.o.mono (T:=λx=>x=W.heap.size+1) v_).trans U u_;have a8:=mv.o _ Y;obtain⟨q0,q1,q2,q3,q4⟩:=B6.d5;have b8:H_ (b6 (.returned (.tuple #[.agg (zq G H I (.slice q z A) (.slice D E F)).toArray,.bool (R u t' d).isSome])) (((((w5.setCell ⟨W.heap.size+1,0,none⟩ (U_ G)).setCell ⟨W.heap.size+1,1,none⟩ (Z_ H)).setCell ⟨W.heap.size+1,2,none⟩ (.string I)).setCell ⟨W.heap.size+1,3,none⟩ (.slice q z A)).setCell ⟨W.heap.size+1,4,none⟩ (.slice D E F))):=zy (by
  rw[Q_.o]
  refine⟨G,H,I,q,z,A,D,E,F,rfl,f.o.trans Y (λx hx e=>M_),λx hx=>?_⟩
  have hz:V.heap.size=W.heap.size+2:=by rw[j.o];exact kt _ _
  refine((Z.o x hx).fr U (λy hy e=>?_)).mono (λy _ hy=>?_)
  .have hy:(y<B.1/\y≠B.2)\/V.heap.size<=y:=hy
   omega
  .have hy:(y<B.1/\y≠B.2)\/V.heap.size<=y:=hy
   omega)
 refine tA_ 23 rfl K_ (λ_ _ _ h=>h) x3_ ?_;refine zV K_ a8 ?_ _;go_wp2;refine bodyPost_ret (v:=.tuple #[.agg (zq G H I (.slice q z A) (.slice D E F)).toArray,.bool (R u t' d).isSome]) y1_ rfl ?_;exact b8
end
section
variable {P:Cc} {ops:Cp} {md:Region.Mode} {Q:Ab} {C:Co}
def wm(i j:Nat){e f:Dz}{g:Nat}{c:Dt}{a:Act}{w:Aw}(o:ops[i]?=some e)(u:ops[j]?=some f)(hr:Region.ready md ops c=[i,j])(m:C w)(h:∀K:Act->World->Prop,(∀a' w',yW P md ops C Q g (c.setIfInBounds i true) a' w'->K a' w')->if Region.wanted e (yielded ops a.tmps)=true then e.wp P a w K Q else K (a.put e.dst undef) w)(l:∀K:Act->World->Prop,(∀a' w',yW P md ops C Q g (c.setIfInBounds j true) a' w'->K a' w')->if Region.wanted f (yielded ops a.tmps)=true then f.wp P a w K Q else K (a.put f.dst undef) w):yW P md ops C Q (g+1) c a w:=by
 refine⟨m,λh0=>by rw[h0]at hr;exact absurd hr x8_,λq b=>?_⟩;rw[hr]at b;unfold wpOp;rcases aq_.1 b with rfl|b
 .simp only[o];have:=h _ (λ_ _ h=>h);split
  .rename_i hg;rw[i_ hg]at this;exact .inl this
  .rename_i hg;rw[n_ hg]at this;exact this
 .obtain rfl:q=j:=by simpa using b
  simp only[u];have:=l _ (λ_ _ h=>h);split
  .rename_i hg;rw[i_ hg]at this;exact .inl this
  .rename_i hg;rw[n_ hg]at this;exact this
end
def qe(V:Aw)(B:Ct)(r:Cg)(v b:Ax)(W':Aw):Prop:=
 ∃gx k n tx a1 m1 c1 a2 m2 c2,v=P_ gx/\b=.bool r.isSome/\Fr V W' N_/\V.heap.size<=gx/\Blk W' gx (zq k n tx (.slice a1 m1 c1) (.slice a2 m2 c2)) 32/\∀x,r=some x->zF W' (λg=>((g<B.1/\g≠B.2)\/V.heap.size<=g)/\g≠gx) x (zq k n tx (.slice a1 m1 c1) (.slice a2 m2 c2))
section
variable {V V1 w5:Aw} {B:Ct} {r:Cg} {k:Nat} {n:Int} {tx:BA} {a1:Ao} {m1 c1:Nat} {a2:Ao} {m2 c2:Nat}
def cd(h1:Fr V V1 N_)(a:Fr V1 w5 N_)(b:∀x,r=some x->zF w5 (λg=>(g<B.1/\g≠B.2)\/V1.heap.size<=g) x (zq k n tx (.slice a1 m1 c1) (.slice a2 m2 c2))):qe V B r (P_ w5.heap.size) (.bool r.isSome) (w5.alloc (.cells (zq k n tx (.slice a1 m1 c1) (.slice a2 m2 c2)).toArray 32)):=by
 have c:=h1.size;have c:=a.size;refine⟨_,k,n,tx,a1,m1,c1,a2,m2,c2,rfl,rfl,(h1.trans a u_).alloc _,M_,B_ w5 (zq k n tx (.slice a1 m1 c1) (.slice a2 m2 c2)).toArray 32,λx hx=>((fB (b x hx)).fr ((A_ w5 N_).alloc _) u_).mono (λy _ hy=>?_)⟩;have:=hy.2;have:=hy.1;omega
def pU(h1:Fr V V1 N_)(hB:B.1<=V.heap.size)(c:Fr (V1.alloc (.cells zf.toArray 32)) w5 N_)(f:∀x,r=some x->zF w5 (λg=>(g<B.1/\g≠B.2)\/(V1.alloc (.cells zf.toArray 32)).heap.size<=g) x (zq k n tx (.slice a1 m1 c1) (.slice a2 m2 c2))):qe V B r (P_ V1.heap.size) (.bool r.isSome) (((((w5.setCell ⟨V1.heap.size,0,none⟩ (U_ k)).setCell ⟨V1.heap.size,1,none⟩ (Z_ n)).setCell ⟨V1.heap.size,2,none⟩ (.string tx)).setCell ⟨V1.heap.size,3,none⟩ (.slice a1 m1 c1)).setCell ⟨V1.heap.size,4,none⟩ (.slice a2 m2 c2)):=by
 have b:=Fr.fi w5 V1.heap.size (U_ k) (Z_ n) (.string tx) (.slice a1 m1 c1) (.slice a2 m2 c2);have h:=h1.size;have a:(V1.alloc (.cells zf.toArray 32)).heap.size=V1.heap.size+1:=x8_
 refine⟨_,k,n,tx,a1,m1,c1,a2,m2,c2,rfl,rfl,((h1.alloc _).trans c u_).trans b (λx hx e=>M_),M_,Blk.fi (c.bl (B_ V1 zf.toArray 32) id) _ _ _ _ _,λx hx=>?_⟩;refine((f x hx).fr b (λy hy e=>?_)).mono (λy _ hy=>?_)
 .have e:y=V1.heap.size:=e;rw[a]at hy;omega
 .rw[a]at hy;omega
end
def qe.fr{V W':Aw}{B:Ct}{r:Cg}{v b:Ax}(h:qe V B r v b W'):Fr V W' N_:=by
 obtain⟨_,_,_,_,_,_,_,_,_,_,_,_,h,_⟩:=h;exact h
def lK(ew er:Ay)(t:PT)(rs:Af)(F:PT->Option DT):Option DT:=
 match xp ew er t rs 0 none with
 |none=>none
 |some k=>match rs[k]? with|none=>none|some u=>(F u).map (λx=>.mk 40 (k:Int) noB [] [x])
def qL{W w5:Aw}{B:Ct}{r:Cg}{k:Nat}{n:Int}{tx:BA}{a1:Ao}{m1 c1:Nat}{a2:Ao}{m2 c2:Nat}(hB:B.1<=W.heap.size)(b:Fr W w5 N_)(c:∀x,r=some x->zF w5 (λg=>(g<B.1/\g≠B.2)\/W.heap.size+2<=g) x (zq k n tx (.slice a1 m1 c1) (.slice a2 m2 c2))):jx W B r (.returned (.tuple #[.agg (zq k n tx (.slice a1 m1 c1) (.slice a2 m2 c2)).toArray,.bool r.isSome])) (((((w5.setCell ⟨W.heap.size+1,0,none⟩ (U_ k)).setCell ⟨W.heap.size+1,1,none⟩ (Z_ n)).setCell ⟨W.heap.size+1,2,none⟩ (.string tx)).setCell ⟨W.heap.size+1,3,none⟩ (.slice a1 m1 c1)).setCell ⟨W.heap.size+1,4,none⟩ (.slice a2 m2 c2)):=by
 have a:=Fr.fi w5 (W.heap.size+1) (U_ k) (Z_ n) (.string tx) (.slice a1 m1 c1) (.slice a2 m2 c2);refine⟨k,n,tx,a1,m1,c1,a2,m2,c2,rfl,b.trans a (λx hx e=>M_),λx hx=>((c x hx).fr a (λy hy e=>?_)).mono (λy _ hy=>?_)⟩
 .have hy:(y<B.1/\y≠B.2)\/W.heap.size+2<=y:=hy;omega
 .have hy:(y<B.1/\y≠B.2)\/W.heap.size+2<=y:=hy;omega
section
variable {W:Aw} {B:Ct} {ba bb w r:Nat} {s s':BA} {ta tb:Aq} {ew er:Ay} {df:Ad}
def cwPE1_{p:Prop}(h:p:=by
 go_simp;(first|(have:=cc1;refine hK1 _ _ ?_;clear hK1 K1;refine zd 15 rfl K_ (mv.o _ (f3.o.drew.alloc _)) (λK1 hK1=>?_);go_simp;apply(ih.o _ (f3.o.drew.alloc _)).mono)|(apply(ih.o _ f3.o.drew).mono));rintro e w5 ⟨ek,en,et,e1,e2,e3,e4,e5,e6,rfl,hf5,hv5⟩;simp only[zq];refine hK1 _ _ ?_;clear hK1 K1;(first|(have:=cc1;have X5:=pU f3.o.drew M_ hf5 hv5)|(have X5:=cd f3.o.drew hf5 hv5));(first|(have:=cc1;have N5:Blk w5 w3.heap.size zf 32:=hf5.bl (B_ w3.drew zf.toArray 32) id;have hm5:=mv.o _ ((f3.o.drew.alloc _).trans hf5 u_))|(have G5:=f3.o.drew.trans hf5 u_));replace hf5:=zy hf5;replace X5:=zy X5;(first|(have:=cc1)|(have hm5:=mv.o _ G5));refine tA_ 16 rfl K_ (λ_ _ _ h=>h) x0_ ?_;refine tA_ 17 rfl K_ (λ_ _ _ h=>h) x0_ ?_;refine tA_ 18 rfl K_ (λ_ _ _ h=>h) x0_ ?_;(first|(have:=cc1;have R5:=zy (N5))|(refine zd 19 rfl K_ hm5 (λK1 hK1=>?_);go_simp;refine hK1 _ _ ?_;clear hK1 K1;have R5:=zy (B_ w5 zf.toArray 32)));obtain⟨r0,r1,r2,r3,r4⟩:=R5.o.f5;obtain⟨t0,t1,t2,t3,t4⟩:=R5.o.t5;simp only[zf,zq,aa_,ab_,af_]at r0 r1 r2 r3 r4;(first|(have:=cc1;refine zd 20 rfl K_ hm5 (λK1 hK1=>?_))|(refine zd 20 rfl K_ (mv.o _ (G5.alloc _)) (λK1 hK1=>?_)));go_simp;refine hK1 _ _ ?_;clear hK1 K1;have hm6:=mv.o _ (qe.fr X5.o);refine tA_ 21 rfl K_ (λ_ _ _ h=>h) x0_ ?_;refine zV K_ hm6 ?_ _;(first|(have:=cc1;clear hm5 hm6)|(clear hm5 hm6 G5));go_wp2;go_meet;case rel=>exact X5.o):p:=h
def PE{rs:Af}{F:PT->Option DT}{k:Nat}{n:Int}{tx:BA}{a1:Ao}{m1 c1:Nat}{a2:Ao}{m2 c2:Nat}(ih:∀(W':World) (j:Nat) (u:PT),u∈rs->yw ew er t u=true->isT tb j u->Fr W W' N_->Calls prog 13 #[P_ ba,I_ w,P_ bb,I_ j,.agg (zq k n tx (.slice a1 m1 c1) (.slice a2 m2 c2)).toArray] W' (jx W' B (F u)))(J:t.isAlts=false)(I:okT ew t)(m:okR er (.alts p rs))(X:MX W B ba bb s s' ta tb ew er df)(K:isT ta w t)(hr:isT tb r (.alts p rs)):Calls prog 13 #[P_ ba,I_ w,P_ bb,I_ r,.agg (zq k n tx (.slice a1 m1 c1) (.slice a2 m2 c2)).toArray] W (jx W B (lK ew er t rs F)):=by
 refine hq_ λU f=>?_;obtain⟨V,hV⟩:=e_ (mw W (zq k n tx (.slice a1 m1 c1) (.slice a2 m2 c2)));have c:Fr W V N_:=hV▸mZ _ _;have R:Blk V W.heap.size (zq k n tx (.slice a1 m1 c1) (.slice a2 m2 c2)) 32:=hV▸eD _ _;have S:Blk V (W.heap.size+1) zf 32:=hV▸eR _ _;have hz:V.heap.size=W.heap.size+2:=y9_
 obtain⟨h1,h2,h3⟩:=m;unfold okT at h1;unfold xM at h2;unfold yC at h3;obtain⟨_,a0,_⟩:=uN rs [] h3;have m:=X.fr c;have l:=zy (oz m.a m.b K hr I h1.2 J a0 h2.1);obtain⟨x,hx,Y⟩:=xD K;obtain⟨ga,na,ca,_,_,c0,a8,a4,_,_⟩:=m.a.type hx;rw[Y]at a4;have a6:((t.kind:Int)==40)=false:=by
  have:=vQ I J;simp;omega
 unfold isT at hr;obtain⟨L,a3,H⟩:=hr;obtain⟨g,mm,a5,N,sc,z0,a7,z1,O,ho⟩:=m.b.type a3;simp only[af_]at z1;have hB:=X.hB;replace hV:=zy hV;replace c:=zy c;cases hp:xp ew er t rs 0 none with
 |none=>
  rw[hp]at l;have E:lK ew er t rs F=none:=by unfold lK;rw[hp]
  rw[E]at f;have A:=zy (λ(w5:World) (h:Fr W w5 N_)=>(show U _ _ from f.o▸qL (r:=none) (k:=0) (n:=0) (tx:=⟨#[]⟩) (a1:=none) (m1:=0) (c1:=0) (a2:=none) (m2:=0) (c2:=0) hB h (λ_ h=>by cases h)));replace l:=zy l;generalize t.kind=tk at *;go_in;go_upto_region 1 with fail;change Code.wp _ _ _ _ (mw W (zq k n tx (.slice a1 m1 c1) (.slice a2 m2 c2)));rw[<- hV.o];go_wp2_with (go_at_call 27;apply l.o.mono;rintro e w5 ⟨rfl,f5⟩;have R5:=zy (f5.bl S id);obtain⟨r0,r1,r2,r3,r4⟩:=R5.o.f5;obtain⟨t0,t1,t2,t3,t4⟩:=R5.o.t5;simp only[zf,zq,aa_,ab_,af_]at r0 r1 r2 r3 r4;have i:=zy (c.o.trans f5 u_);simp only[wI]);exact xB results13 R5.o (A.o _ i)
 |some q=>
  rw[hp]at l;obtain⟨u,hu,hm⟩:=lj rs 0 none rs (λj m=>by cases m) (λj=>by rw[bp_]) q hp;obtain⟨M,hjt,Z⟩:=wB H q u hu;have E:lK ew er t rs F=(F u).map (λx=>.mk 40 (q:Int) noB [] [x]):=by unfold lK;rw[hp];simp only[hu]
  rw[E]at f;have m:q<L.length:=(am_.1 hjt).1;obtain⟨m,cs,e⟩:=zu ho y5_;cases e;have zj:=ze ho rfl (k:=q) (x:=I_ M) zh_;have I:(q:Int)<(L.length:Int):=M_;have I:¬((q:Int)<0):=M_;obtain⟨T,hCL⟩:∃C:World->Prop,H_ (C=λW'=>W'.cell? ⟨bb,0,none⟩=some (S_ g mm a5)/\W'.cell? ⟨g,r*2+1,none⟩=some (S_ m L.length sc)/\W'.cell? ⟨m,q,none⟩=some (I_ M)/\W'.cell? ⟨W.heap.size,0,none⟩=some (U_ k)/\W'.cell? ⟨W.heap.size,1,none⟩=some (Z_ n)/\W'.cell? ⟨W.heap.size,2,none⟩=some (.string tx)/\W'.cell? ⟨W.heap.size,3,none⟩=some (.slice a1 m1 c1)/\W'.cell? ⟨W.heap.size,4,none⟩=some (.slice a2 m2 c2)):=⟨_,rfl⟩;have mv:H_ (∀W',Fr V W' N_->T W'):=zy (λW' m=>by
   rw[hCL.o]
   have hB:=m.bl R id
   exact⟨m.ke z0,m.ke O,m.ke zj,hB.cell 0,hB.cell 1,hB.cell 2,hB.cell 3,hB.cell 4⟩)
  replace ih:=zy (λW' (h:Fr V W' N_)=>ih W' M u (al_ hu) hm Z (c.o.trans h u_));generalize t.kind=tk at *;go_in;go_upto_region 1 with fail;change Code.wp _ _ _ _ (mw W (zq k n tx (.slice a1 m1 c1) (.slice a2 m2 c2)));rw[<- hV.o];go_upto_region 7 with(go_at_call 27;apply l.o.mono;rintro e w3 ⟨rfl,f3⟩;simp only[wI];replace f3:=zy f3);go_cut [13,14] (λv b W'=>qe V B (F u) v b W');case first=>
   refine tR_ T ?_;refine tA_ 0 rfl K_ (λ_ _ _ h=>h) x0_ ?_;refine tA_ 1 rfl K_ (λ_ _ _ h=>h) x0_ ?_;refine tA_ 2 rfl K_ (λ_ _ _ h=>h) x0_ ?_;refine tA_ 3 rfl K_ (λ_ _ _ h=>h) x0_ ?_;refine tA_ 4 rfl K_ (λ_ _ _ h=>h) x0_ ?_;refine tA_ 5 rfl K_ (λ_ _ _ h=>h) x0_ ?_;refine tA_ 6 rfl K_ (λ_ _ _ h=>h) x0_ ?_;refine tA_ 7 rfl K_ (λ_ _ _ h=>h) x0_ ?_;refine tA_ 8 rfl K_ (λ_ _ _ h=>h) x0_ ?_;refine tA_ 9 rfl K_ (λ_ _ _ h=>h) x0_ ?_;refine tA_ 10 rfl K_ (λ_ _ _ h=>h) x0_ ?_;refine tA_ 11 rfl K_ (λ_ _ _ h=>h) x0_ ?_;refine tA_ 12 rfl K_ (λ_ _ _ h=>h) x0_ ?_;refine tA_ 13 rfl K_ (λ_ _ _ h=>h) x0_ ?_;refine tA_ 14 rfl K_ (λ_ _ _ h=>h) x0_ ?_;refine wm 15 19 rfl rfl K_ (mv.o _ f3.o.drew) (λK1 hK1=>?_) (λK1 hK1=>?_)
   .exact cwPE1_
   .have cc1:=Nat;exact cwPE1_
  case rest=>
   obtain⟨gx,ek,en,et,e1,e2,e3,e4,e5,e6,rfl,rfl,f5,l,X5,hv5⟩:=hcut;obtain⟨i,D⟩:=e_ (((((wc.setCell ⟨W.heap.size+1,0,none⟩ (.int .u8 40)).setCell ⟨W.heap.size+1,1,none⟩ (I_ q)).setCell ⟨W.heap.size+1,2,none⟩ (.string noB)).setCell ⟨W.heap.size+1,3,none⟩ (L_)).setCell ⟨W.heap.size+1,4,none⟩ (S_ wc.heap.size 1 1));have G:Fr wc i (λx=>x=W.heap.size+1):=D▸Fr.fi wc _ _ _ _ _ _;have N:i.heap.size=wc.heap.size:=by rw[D];simp
   have A:=zy (show U (.returned (.tuple #[.agg (zq 40 (q:Int) noB (L_) (S_ wc.heap.size 1 1)).toArray,.bool (F u).isSome])) (i.alloc (.cells #[U_ ek,Z_ en,.string et,.slice e1 e2 e3,.slice e4 e5 e6] 32)) by
    rw[f.o]
    have hs:=f5.size
    refine⟨40,(q:Int),noB,none,0,0,some ⟨wc.heap.size,0,none⟩,1,1,by rw[Option.isSome_map],((c.o.trans f5 u_).trans G (λx hx e=>M_)).alloc _,λy hy=>?_⟩
    obtain⟨x,hx,rfl⟩:=b9_.1 hy
    have ho:=World.ownsRow_lit (base:=0) (e:=32) (size:=5) i #[U_ ek,Z_ en,.string et,.slice e1 e2 e3,.slice e4 e5 e6] 1 o_ zw_ rfl
    rw[N]at ho
    refine zF.one (((hv5 x hx).fr (G.alloc _) (λz hz e=>?_)).mono (λz _ hz=>?_)) wc.heap.size M_ ho 40 (q:Int) noB
    .have:=hz.1
     omega
    .have:=hz.1
     omega)
   have R5:=zy (f5.bl S id);obtain⟨r0,r1,r2,r3,r4⟩:=R5.o.f5;obtain⟨t0,t1,t2,t3,t4⟩:=R5.o.t5;simp only[zf,zq,aa_,ab_,af_]at r0 r1 r2 r3 r4;obtain⟨c,i,l,m,E⟩:=X5.f5;simp only[zq,aa_,ab_]at c i l m E;have c:=R5.o.lt;replace X5:=zy X5;rw[D]at A;go_wp2;have c:=(Blk.fi R5 (.int .u8 40) (I_ q) (.string ⟨#[]⟩) (L_) (S_ wc.heap.size 1 1)).alloc (.cells #[U_ ek,Z_ en,.string et,.slice e1 e2 e3,.slice e4 e5 e6] 32);obtain⟨q0,q1,q2,q3,q4⟩:=c.d5;refine bodyPost_ret (v:=.tuple #[.agg (zq 40 (q:Int) ⟨#[]⟩ (L_) (S_ wc.heap.size 1 1)).toArray,.bool (F u).isSome]) y1_ rfl ?_;exact A
end
section
variable {W:Aw} {B:Ct} {ba bb w r:Nat} {s s':BA} {ta tb:Aq} {ew er:Ay} {df:Ad}
def PI{k:Nat}{n:Int}{tx:BA}{a1:Ao}{m1 c1:Nat}{a2:Ao}{m2 c2:Nat}(hm:yw ew er t t'=false)(j:t.isAlts=false)(l:t'.isAlts=false)(g:okT ew t)(i:okT er t')(X:MX W B ba bb s s' ta tb ew er df)(m:isT ta w t)(hr:isT tb r t'):Calls prog 13 #[P_ ba,I_ w,P_ bb,I_ r,.agg (zq k n tx (.slice a1 m1 c1) (.slice a2 m2 c2)).toArray] W (jx W B none):=by
 refine hq_ λE q=>?_;obtain⟨V,hV⟩:=e_ (mw W (zq k n tx (.slice a1 m1 c1) (.slice a2 m2 c2)));have f:Fr W V N_:=hV▸mZ _ _;have D:Blk V (W.heap.size+1) zf 32:=hV▸eR _ _
 have c:=X.fr f;have z:=zy (jP c.a c.b m hr g i j l);rw[hm]at z;obtain⟨x,hx,u⟩:=xD m;obtain⟨y,hy,v⟩:=xD hr;obtain⟨F,F,F,F,F,c0,F,F,G,ho⟩:=c.a.type hx;obtain⟨I,nb,I,I,I,z0,I,J,K,I⟩:=c.b.type hy;rw[u]at F;rw[v]at J;have F:((t.kind:Int)==40)=false:=by
  have:=vQ g j;simp;omega
 have F:((t'.kind:Int)==40)=false:=by
  have:=vQ i l;simp;omega
 have hB:=X.hB;replace hV:=zy hV;replace f:=zy f;have H:=zy (λ(w5:World) (h:Fr W w5 N_)=>(show E _ _ from q.o▸qL (r:=none) (k:=0) (n:=0) (tx:=⟨#[]⟩) (a1:=none) (m1:=0) (c1:=0) (a2:=none) (m2:=0) (c2:=0) hB h (λ_ h=>by cases h)));generalize t.kind=tk at *;generalize t'.kind=tk' at *;go_in;go_upto_region 1 with fail;change Code.wp _ _ _ _ (mw W (zq k n tx (.slice a1 m1 c1) (.slice a2 m2 c2)));rw[<- hV.o];go_wp2_with (go_at_call 28;apply z.o.mono;rintro e w5 ⟨rfl,f5⟩;have c:=zy (f5.bl D id);obtain⟨r0,r1,g,i,j⟩:=c.o.f5;obtain⟨l,l,l,t3,t4⟩:=c.o.t5;simp only[zf,zq,aa_,ab_,af_]at r0 r1 g i j;have g:=zy (f.o.trans f5 u_));exact xB results13 c.o (H.o _ g)
def KI{k:Nat}{n:Int}{tx:BA}{a1:Ao}{m1 c1:Nat}{a2:Ao}{m2 c2:Nat}(hm:yw ew er t t'=true)(hk:k≠91/\k≠123/\k≠101/\k≠114)(S:zF W (λg=>g<B.1/\g≠B.2) (.mk k n tx ks ds) (zq k n tx (.slice a1 m1 c1) (.slice a2 m2 c2)))(I:t.isAlts=false)(J:t'.isAlts=false)(G:okT ew t)(H:okT er t')(X:MX W B ba bb s s' ta tb ew er df)(K:isT ta w t)(hr:isT tb r t'):Calls prog 13 #[P_ ba,I_ w,P_ bb,I_ r,.agg (zq k n tx (.slice a1 m1 c1) (.slice a2 m2 c2)).toArray] W (jx W B (some (.mk (if t'.kind=108 then 108 else k) n tx ks ds))):=by
 refine hq_ λM u=>?_;obtain⟨V,hV⟩:=e_ (mw W (zq k n tx (.slice a1 m1 c1) (.slice a2 m2 c2)));have m:Fr W V N_:=hV▸mZ _ _;have T:Blk V W.heap.size (zq k n tx (.slice a1 m1 c1) (.slice a2 m2 c2)) 32:=hV▸eD _ _;have U:Blk V (W.heap.size+1) zf 32:=hV▸eR _ _;have hz:V.heap.size=W.heap.size+2:=y9_
 have j:=X.fr m;have R:=zy (jP j.a j.b K hr G H I J);rw[hm]at R;obtain⟨x,hx,N⟩:=xD K;obtain⟨y,hy,O⟩:=xD hr;obtain⟨ga,na,ca,sa,sc,c0,b5,Z,a0,ho⟩:=j.a.type hx;obtain⟨gb,nb,cb,b6,b7,z0,b4,L,z2,a3⟩:=j.b.type hy;rw[N]at Z;rw[O]at L;have a8:((t.kind:Int)==40)=false:=by
  have:=vQ G I;simp;omega
 have a9:((t'.kind:Int)==40)=false:=by
  have:=vQ H J;simp;omega
 have hB:=X.hB;replace hV:=zy hV;replace m:=zy m;have a7:((k:Int)==91)=false:=x4_
 have a6:((k:Int)==123)=false:=x4_
 have a4:((k:Int)==101)=false:=x4_
 have a5:((k:Int)==114)=false:=x4_
 clear X j hx N K hy O hr I J G H ho a3 a0 z2 hm hk;generalize t.kind=tk at *;generalize t'.kind=tk' at *;go_in;go_upto_region 1 with fail;change Code.wp _ _ _ _ (mw W (zq k n tx (.slice a1 m1 c1) (.slice a2 m2 c2)));rw[<- hV.o];go_upto_region 13 with(go_at_call 28;apply R.o.mono;rintro e l ⟨rfl,f3⟩;have D3:=f3.bl T id;obtain⟨v,z,A,d3,d4⟩:=D3.f5;simp only[zq,aa_,ab_]at v z A d3 d4;have f3':=zy f3;replace D3:=zy D3);obtain⟨i,hw4⟩:=e_ (l.alloc (.cells (zq k n tx (.slice a1 m1 c1) (.slice a2 m2 c2)).toArray 32));have f4:Fr V i N_:=ye_
 have q:Blk i l.heap.size (zq k n tx (.slice a1 m1 c1) (.slice a2 m2 c2)) 32:=by rw[hw4];exact B_ l (zq k n tx (.slice a1 m1 c1) (.slice a2 m2 c2)).toArray 32
 have D:Blk i W.heap.size (zq k n tx (.slice a1 m1 c1) (.slice a2 m2 c2)) 32:=yg_
 have c:=f4.bl U id;have s3:=f3'.o.size;change Code.wp _ _ _ _ (l.alloc (.cells (zq k n tx (.slice a1 m1 c1) (.slice a2 m2 c2)).toArray 32));rw[<- hw4];generalize l.heap.size=bo at *;clear v z A d3 d4 D3 f3' hw4;replace z0:=f4.ke z0;replace L:=f4.ke L;obtain⟨v,z,A,d3,d4⟩:=D.f5;simp only[zf,zq,aa_,ab_,af_]at v z A d3 d4;obtain⟨o0,o1,o2,o3,o4⟩:=q.f5;simp only[zf,zq,aa_,ab_,af_]at o0 o1 o2 o3 o4;obtain⟨p0,p1,p2,p3,p4⟩:=q.t5;obtain⟨r0,r1,r2,r3,r4⟩:=c.f5;simp only[zf,zq,aa_,ab_,af_]at r0 r1 r2 r3 r4;obtain⟨t0,t1,t2,t3,t4⟩:=c.t5;have f5:=zy (m.o.trans f4 u_);have F:H_ (W.heap.size+2<=bo):=zy M_;replace c:=zy c;replace q:=zy q;by_cases f:tk'=108
 .have e8:((tk':Int)==108)=true:=x4_
  rw[i_ f]at u;replace f:=zy f;have bl:bo≠W.heap.size+1:=by have:=F.o;omega
  have E:=zy (show M _ _ from u.o▸qL (r:=some (.mk 108 n tx ks ds)) (w5:=i.setCell ⟨bo,0,none⟩ (.int .u8 108)) (k:=108) (a1:=a1) (m1:=m1) (c1:=c1) (a2:=a2) (m2:=m2) (c2:=c2) hB (f5.o.setCell _ _ (λh=>absurd h (by have:=F.o;show ¬bo<_;omega))) (λx hx=>by cases hx;exact(((S.kind 108).fr f5 u_).fr (V_ _ _ _) (λy hy e=>by have e:y=bo:=e;have:=F.o;have:y<B.1/\y≠B.2:=hy;omega)).mono (λ_ _ h=>.inl h)));have Y:=zy ((V_ i ⟨bo,0,none⟩ (.int .u8 108)).bl c (λe=>bl e.symm));clear D f4;go_wp2;exact xB results13 Y.o E.o
 .have e8:((tk':Int)==108)=false:=x4_
  rw[n_ f]at u;have E:=zy (show M _ _ from u.o▸qL (r:=some (.mk k n tx ks ds)) (w5:=i) (a1:=a1) (m1:=m1) (c1:=c1) (a2:=a2) (m2:=m2) (c2:=c2) hB f5 (λx hx=>by cases hx;exact(S.fr f5 u_).mono (λ_ _ h=>.inl h)));replace f:=zy f;clear D f4;go_wp2;exact xB results13 c.o E.o
def KS{n:Int}{tx:BA}{a1:Ao}{m1 c1:Nat}{a2:Ao}{m2 c2:Nat}{H:Cg}(q:∀W',Fr W W' N_->Calls prog 31 #[P_ ba,I_ w,P_ bb,I_ r,.agg (zq 114 n tx (.slice a1 m1 c1) (.slice a2 m2 c2)).toArray] W' (jx W' B H))(hm:yw ew er t t'=true)(D:t.isAlts=false)(E:t'.isAlts=false)(z:okT ew t)(A:okT er t')(X:MX W B ba bb s s' ta tb ew er df)(F:isT ta w t)(hr:isT tb r t'):Calls prog 13 #[P_ ba,I_ w,P_ bb,I_ r,.agg (zq 114 n tx (.slice a1 m1 c1) (.slice a2 m2 c2)).toArray] W (jx W B H):=by
 refine hq_ λR S=>?_;obtain⟨V,hV⟩:=e_ (mw W (zq 114 n tx (.slice a1 m1 c1) (.slice a2 m2 c2)));have c:Fr W V N_:=hV▸mZ _ _;have M:Blk V W.heap.size (zq 114 n tx (.slice a1 m1 c1) (.slice a2 m2 c2)) 32:=hV▸eD _ _;have N:Blk V (W.heap.size+1) zf 32:=hV▸eR _ _;have hz:V.heap.size=W.heap.size+2:=y9_
 have f:=X.fr c;have K:=zy (jP f.a f.b F hr z A D E);rw[hm]at K;obtain⟨x,hx,I⟩:=xD F;obtain⟨y,hy,J⟩:=xD hr;obtain⟨ga,na,ca,sa,sc,c0,a6,T,U,ho⟩:=f.a.type hx;obtain⟨gb,nb,cb,a7,a8,z0,a5,z1,z2,a0⟩:=f.b.type hy;rw[I]at T;rw[J]at z1;have a3:((t.kind:Int)==40)=false:=by
  have:=vQ z D;simp;omega
 have a4:((t'.kind:Int)==40)=false:=by
  have:=vQ A E;simp;omega
 have hB:=X.hB;replace hV:=zy hV;replace c:=zy c;replace q:=zy (λW' (h:Fr V W' N_)=>q W' (c.o.trans h u_));clear X f hx I F hy J hr D E z A ho a0 U z2 hm;generalize t.kind=tk at *;generalize t'.kind=tk' at *;go_in;go_upto_region 1 with fail;change Code.wp _ _ _ _ (mw W (zq 114 n tx (.slice a1 m1 c1) (.slice a2 m2 c2)));rw[<- hV.o];go_upto_region 13 with(go_at_call 28;apply K.o.mono;rintro e g ⟨rfl,f3⟩;have D3:=f3.bl M id;obtain⟨j,l,m,d3,d4⟩:=D3.f5;simp only[zq,aa_,ab_]at j l m d3 d4;have f3':=zy f3;replace D3:=zy D3);obtain⟨i,hw4⟩:=e_ (g.alloc (.cells (zq 114 n tx (.slice a1 m1 c1) (.slice a2 m2 c2)).toArray 32));have f4:Fr V i N_:=ye_
 have O:Blk i g.heap.size (zq 114 n tx (.slice a1 m1 c1) (.slice a2 m2 c2)) 32:=by rw[hw4];exact B_ g (zq 114 n tx (.slice a1 m1 c1) (.slice a2 m2 c2)).toArray 32
 have G:Blk i W.heap.size (zq 114 n tx (.slice a1 m1 c1) (.slice a2 m2 c2)) 32:=yg_
 have u:=f4.bl N id;have s3:=f3'.o.size;change Code.wp _ _ _ _ (g.alloc (.cells (zq 114 n tx (.slice a1 m1 c1) (.slice a2 m2 c2)).toArray 32));rw[<- hw4];generalize g.heap.size=bo at *;clear j l m d3 d4 D3 f3' hw4;obtain⟨j,l,m,d3,d4⟩:=G.f5;simp only[zf,zq,aa_,ab_,af_]at j l m d3 d4;have Z:=zy (q.o i f4);replace f4:=zy f4;replace u:=zy u;clear G O q;go_wp2_with (go_at_call 31;apply Z.o.mono;rintro e w5 ⟨ek,en,et,e1,e2,e3,e4,e5,e6,rfl,f5,L⟩;have v:=zy (f5.bl u id);obtain⟨r0,r1,r2,r3,r4⟩:=v.o.f5;obtain⟨t0,t1,t2,t3,t4⟩:=v.o.t5;simp only[zf,zq,aa_,ab_,af_]at r0 r1 r2 r3 r4;have Y:=zy (show R _ _ from S.o▸qL hB ((c.o.trans f4 u_).trans f5 u_) (λx hx=>(L x hx).mono (λy _ hy=>(by have:=f4.o.size;have hy:(y<B.1/\y≠B.2)\/i.heap.size<=y:=hy;omega))));clear f5 L;simp only[zq]);exact xB results13 v.o Y.o
end
def jx.drew{W w':Aw}{B:Ct}{r:Cg}{e:Ah}(h:jx W B r e w'):jx W B r e w'.drew:=by
 obtain⟨k,n,tx,a1,m1,c1,a2,m2,c2,h1,a,b⟩:=h;exact⟨k,n,tx,a1,m1,c1,a2,m2,c2,h1,a.drew,λx hx=>(b x hx).fr (A_ w' N_).drew u_⟩
def zF.numb{w:Aw}{P:Au}{k:Nat}{n:Int}{tx:BA}{vk vs:Ax}(h:zF w P (.mk k n tx ks ds) (zq k n tx vk vs))(m:Int):zF w P (.mk k m tx ks ds) (zq k m tx vk vs):=by
 have cc1:=Nat
 exact cq34_
def Fu{sb:BA}{l:Av}{u:Ac}{o:Int}(h:sb.data.toList.map UInt8.toNat=l.map Prod.fst)(ho:o=(match u with|none=>-1|some (c,_)=>plc sb c))(c:Nat):(if plc sb c<0 then o else plc sb c)=wI (qE l u c):=by
 rw[ly h];unfold qE;cases (l.map Prod.fst).findIdx? (λx=>x==c) with
 |some k=>exact n_ (by show ¬((k:Int)<0);omega)
 |none=>
  simp only;rw[i_ D_,ho];cases u with
  |none=>rfl
  |some y=>
   obtain⟨y,z⟩:=y;simp only;rw[ly h];cases (l.map Prod.fst).findIdx? (λx=>x==y)<;>rfl
section
variable {W:Aw} {B:Ct} {ba bb w r:Nat} {s s':BA} {ta tb:Aq} {ew er:Ay} {df:Ad}
def KE{c p' q:Nat}{lw lr:Av}{uo u:Ac}{a1:Ao}{m1 c1:Nat}{a2:Ao}{m2 c2:Nat}(hn:zZ c=true)(d8:ew c=some (.enum lw uo))(d7:er c=some (.enum lr u))(hq:q<lw.length)(hl:lr.length<=300)(hm:yw ew er (.leaf c p) (.leaf c p')=true)(hD:zF W (λg=>g<B.1/\g≠B.2) (.mk 101 (q:Int) noB [] []) (zq 101 (q:Int) noB (.slice a1 m1 c1) (.slice a2 m2 c2)))(a8:okT ew (.leaf c p))(a9:okT er (.leaf c p'))(X:MX W B ba bb s s' ta tb ew er df)(hw:isT ta w (.leaf c p))(hr:isT tb r (.leaf c p')):Calls prog 13 #[P_ ba,I_ w,P_ bb,I_ r,.agg (zq 101 (q:Int) noB (.slice a1 m1 c1) (.slice a2 m2 c2)).toArray] W (jx W B ((qE lr u ((lw.map Prod.fst).getD q 0)).map (λ(q:Nat)=>DT.mk 101 (q:Int) noB [] []))):=by
 refine hq_ λe2 Q_=>?_;obtain⟨V,hV⟩:=e_ (mw W (zq 101 (q:Int) noB (.slice a1 m1 c1) (.slice a2 m2 c2)));have F0:Fr W V N_:=hV▸mZ _ _;have B0:Blk V W.heap.size (zq 101 (q:Int) noB (.slice a1 m1 c1) (.slice a2 m2 c2)) 32:=hV▸eD _ _;have B1:Blk V (W.heap.size+1) zf 32:=hV▸eR _ _;have hz:V.heap.size=W.heap.size+2:=y9_
 have F:=X.fr F0;have hC:=zy (jP F.a F.b hw hr a8 a9 rfl rfl);rw[hm]at hC;obtain⟨x,hx,ex⟩:=xD hw;obtain⟨y,hy,ey⟩:=xD hr;obtain⟨ga,na,ca,sa,sc,c0,f0,a5,e3,ho⟩:=F.a.type hx;obtain⟨gb,nb,cb,f1,f2,z0,e9,z1,z2,e7⟩:=F.b.type hy;rw[ex]at a5;rw[ey]at z1;have e5:(((PT.leaf c p).kind:Int)==40)=false:=by
  have:=vQ a8 rfl;simp;omega
 have e6:(((PT.leaf c p').kind:Int)==40)=false:=by
  have:=vQ a9 rfl;simp;omega
 have hB:=X.hB;replace hV:=zy hV;replace F0:=zy F0;have a4:=zy (λV' (h:Fr V V' N_)=>kC (F.b.fr h) hy);have a3:=zy (λV' (h:Fr V V' N_)=>kC (F.a.fr h) hx);rw[ey]at a4;rw[ex]at a3;clear X F hx ex hw hy ey hr a8 a9 ho e7 e3 z2 hm;simp only[PT.kind]at a5 z1 e5 e6 a3 a4;go_in;go_upto_region 1 with fail;change Code.wp _ _ _ _ (mw W (zq 101 (q:Int) noB (.slice a1 m1 c1) (.slice a2 m2 c2)));rw[<- hV.o];go_upto_region 13 with(go_at_call 28;apply hC.o.mono;rintro e w3 ⟨rfl,f3⟩;have D3:=f3.bl B0 id;obtain⟨U,Y,Z,d3,d4⟩:=D3.f5;simp only[zq,aa_,ab_]at U Y Z d3 d4;have f3':=zy f3;replace D3:=zy D3);obtain⟨w4,hw4⟩:=e_ (w3.alloc (.cells (zq 101 (q:Int) noB (.slice a1 m1 c1) (.slice a2 m2 c2)).toArray 32));have f4:Fr V w4 N_:=ye_
 have l:Blk w4 w3.heap.size (zq 101 (q:Int) noB (.slice a1 m1 c1) (.slice a2 m2 c2)) 32:=by rw[hw4];exact B_ w3 (zq 101 (q:Int) noB (.slice a1 m1 c1) (.slice a2 m2 c2)).toArray 32
 have D4:Blk w4 W.heap.size (zq 101 (q:Int) noB (.slice a1 m1 c1) (.slice a2 m2 c2)) 32:=yg_
 have J:=f4.bl B1 id;have s3:=f3'.o.size;change Code.wp _ _ _ _ (w3.alloc (.cells (zq 101 (q:Int) noB (.slice a1 m1 c1) (.slice a2 m2 c2)).toArray 32));rw[<- hw4];generalize w3.heap.size=bo at *;clear U Y Z d3 d4 D3 f3' hw4;obtain⟨U,Y,Z,d3,d4⟩:=D4.f5;simp only[zf,zq,aa_,ab_,af_]at U Y Z d3 d4;replace l:=zy l;replace J:=zy J;replace D4:=zy D4;have F4:=zy f4;go_upto_region 27 with(first
  |(go_at_call 29;apply(a4.o _ F4).mono;rintro e w5 ⟨e0,b7,d0,b8,D,M,n',rfl,f5,v5⟩;obtain⟨v5,-⟩:=qI.yes v5 hn;rw[d7]at v5;clear a4;replace f5:=zy f5)
  |(go_at_call 29;apply(a3.o _ ((F4.o.trans f5 u_).alloc _)).mono;rintro e N ⟨so,fa,fn,fc,sb,o,n,rfl,G,v6⟩;obtain⟨v6,-⟩:=qI.yes v6 hn;rw[d8]at v6;clear a3;replace G:=zy G))
 obtain⟨E,L⟩:=e_ (N.alloc (.cells #[.int .u8 so,.slice fa fn fc,.string sb,Z_ o,Z_ n] 39));have S:Fr w4 E N_:=by rw[L];exact((f5.o.alloc _).trans G u_).alloc _
 have y1:E.cell? ⟨w5.heap.size,2,none⟩=some (.string D):=by rw[L];exact((G.o.bl (B_ w5 #[.int .u8 e0,.slice b7 d0 b8,.string D,Z_ M,Z_ n'] 39) id).alloc _).cell 2
 have y2:E.cell? ⟨w5.heap.size,3,none⟩=some (Z_ M):=by rw[L];exact((G.o.bl (B_ w5 #[.int .u8 e0,.slice b7 d0 b8,.string D,Z_ M,Z_ n'] 39) id).alloc _).cell 3
 have y3:E.cell? ⟨N.heap.size,2,none⟩=some (.string sb):=by rw[L];exact(B_ N #[.int .u8 so,.slice fa fn fc,.string sb,Z_ o,Z_ n] 39).cell 2
 have e4:=l.o.lt;have s5:=f5.o.size;have s6:=G.o.size;have a7:bo≠w5.heap.size:=M_;have d2:bo≠N.heap.size:=by simp at s6;omega
 change Code.wp _ _ _ _ (N.alloc (.cells #[.int .u8 so,.slice fa fn fc,.string sb,Z_ o,Z_ n] 39));rw[<- L];replace D4:=zy (S.bl D4 id);replace l:=zy (S.bl l id);replace J:=zy (S.bl J id);have f7:=zy ((F0.o.trans F4 u_).trans S u_);obtain⟨-,b5,-⟩:=v6;obtain⟨-,b4,e1⟩:=v5;have K:q<sb.size:=by
  have:=congrArg List.length b5;simp only[bm_,Array.length_toList]at this;show q<sb.data.size;omega
 have e8:D.size<=100000:=by
  have:=congrArg List.length b4;simp only[bm_,Array.length_toList]at this;show D.data.size<=100000;omega
 have d6:(lw.map Prod.fst).getD q 0=(sb[q]'K).toNat:=by
  rw[<- b5,az_,a1_];rw[ak_ (by simpa using K)];rfl
 rw[d6]at Q_;have A:=Fu b4 e1 (sb[q]'K).toNat;generalize qE lr u (sb[q]'K).toNat=RS at *;have a6:=zy (jm D (sb[q]'K).toNat · e8);obtain⟨v,hv⟩:=x_ (plc D (sb[q]'K).toNat);rw[hv]at A a6;replace hv:=zy hv;replace A:=zy A;clear L b5 b4 e1 f5 G S F4 d6 d8 d7 e4 s5 s6 f4 c0 a5 z0 z1 U Y Z d3 d4;obtain⟨I,hCL⟩:∃C:World->Prop,H_ (C=λW'=>W'.cell? ⟨w5.heap.size,2,none⟩=some (.string D)/\W'.cell? ⟨N.heap.size,2,none⟩=some (.string sb)/\W'.cell? ⟨W.heap.size,1,none⟩=some (I_ q)):=⟨_,rfl⟩;refine tR_ I ?_;refine tA_ 0 rfl K_ (λ_ _ _ h=>h) xe_ ?_;refine tA_ 1 rfl K_ (λ_ _ _ h=>h) xe_ ?_;refine tA_ 2 rfl K_ (λ_ _ _ h=>h) xe_ ?_;refine tA_ 3 rfl K_ (λ_ _ _ h=>h) xe_ ?_;refine tA_ 4 rfl K_ (λ_ _ _ h=>h) xe_ ?_;refine tA_ 5 rfl K_ (λ_ _ _ h=>h) xe_ ?_;refine tA_ 6 rfl K_ (λ_ _ _ h=>h) xe_ ?_;refine zd 7 rfl K_ zd_ (λT z=>?_);go_simp;apply(a6.o _).mono;rintro e w8 ⟨rfl,rfl⟩;refine z _ _ ?_;clear z T;refine tA_ 8 rfl K_ (λ_ _ _ h=>h) xe_ ?_;refine zd 9 rfl K_ zd_ (λT z=>?_);have o1:=l.o.cell 1;have p1:=l.o.th 1;simp only[zq,aa_,ab_]at o1;go_simp;refine z _ _ ?_;clear z T;obtain⟨O,a0⟩:=e_ ((E.setCell ⟨bo,1,none⟩ (Z_ v)).drew);have i:Blk O bo (zq 101 v noB (.slice a1 m1 c1) (.slice a2 m2 c2)) 32:=by rw[a0];exact(l.o.set 1 (Z_ v)).drew
 have E9:Fr E O (λx=>x=bo):=by rw[a0];exact(V_ E ⟨bo,1,none⟩ (Z_ v)).drew
 have j:=E9.bl J M_;have kp:∀{b o:Nat} {x:Value},b≠bo->E.cell? ⟨b,o,none⟩=some x->O.cell? ⟨b,o,none⟩=some x:=λ{b o x} hb hx=>(World.cell?_of_block (a:=⟨b,o,none⟩) (E9.block _ (zo hx) hb)).trans hx;have Y9:O.cell? ⟨w5.heap.size,3,none⟩=some (Z_ M):=kp (Ne.symm a7) y2;have m:=f7.o.trans E9 (λx hx e=>M_);have H:I O:=by rw[hCL.o];exact⟨kp (Ne.symm a7) y1,kp (Ne.symm d2) y3,kp M_ (D4.o.cell 1)⟩
 rw[a0]at H;refine zV K_ H ?_ _;rw[<- a0];have o9:=i.cell 1;have p9:=i.th 1;simp only[zq,aa_,ab_]at o9;revert i j m;refine h_ λi j m=>?_;clear a0 H kp E9 o1 p1 y1 y2 y3 D4 l J hCL a6 a7 d2 f7;go_upto_if 175 with fail;go_cut [] (λW'=>Fr W W' N_/\Blk W' bo (zq 101 (wI RS) noB (.slice a1 m1 c1) (.slice a2 m2 c2)) 32/\Blk W' (W.heap.size+1) zf 32);case first=>
  by_cases d9:v<0
  .rw[i_ d9]at A;go_wp2;go_meet;case rel=>
    rw[<- A.o];have R:=V_ O ⟨bo,1,none⟩ (Z_ M);exact⟨m.o.trans R (λx hx e=>by have e:x=bo:=e;omega),i.o.set 1 (Z_ M),R.bl j (by show ¬W.heap.size+1=bo;omega)⟩
  .rw[n_ d9]at A;go_wp2;go_meet;case rel=>
    rw[<- A.o];exact⟨m,i,j⟩
 case rest=>
  clear o9 p9 Y9 i j m;obtain⟨m,i,j⟩:=hcut;have d1:=zy (show RS.isSome=decide (wI RS≥0) by cases RS with|none=>rfl|some k=>exact(decide_eq_true (show(k:Int)≥0 by omega)).symm);have b9:=zy (show e2 _ _ from Q_.o▸jx.drew (qL (r:=RS.map (λ(q:Nat)=>DT.mk 101 (q:Int) noB [] [])) (w5:=wc) (k:=101) (n:=wI RS) (tx:=noB) (a1:=a1) (m1:=m1) (c1:=c1) (a2:=a2) (m2:=m2) (c2:=c2) hB m (λx hx=>by
   obtain⟨y,hy,rfl⟩:=b9_.1 hx
   rw[hy]
   exact(((hD.numb (y:Int)).fr m u_).mono (λ_ _ h=>.inl h)))))
  rw[Option.isSome_map,d1.o]at b9;clear Q_ d1 A;generalize wI RS=vv at *;obtain⟨r0,r1,r2,r3,r4⟩:=j.f5;simp only[zf,zq,aa_,ab_,af_]at r0 r1 r2 r3 r4;obtain⟨t0,t1,t2,t3,t4⟩:=j.t5;obtain⟨I,hCL⟩:∃C:World->Prop,H_ (C=λW'=>W'.cell? ⟨bo,0,none⟩=some (.int .u8 101)/\W'.cell? ⟨bo,1,none⟩=some (Z_ vv)/\W'.cell? ⟨bo,2,none⟩=some (.string noB)/\W'.cell? ⟨bo,3,none⟩=some (.slice a1 m1 c1)/\W'.cell? ⟨bo,4,none⟩=some (.slice a2 m2 c2)):=⟨_,rfl⟩;have R:=Fr.fi wc (W.heap.size+1) (.int .u8 101) (Z_ vv) (.string noB) (.slice a1 m1 c1) (.slice a2 m2 c2);have b6:I (((((wc.setCell ⟨W.heap.size+1,0,none⟩ (.int .u8 101)).setCell ⟨W.heap.size+1,1,none⟩ (Z_ vv)).setCell ⟨W.heap.size+1,2,none⟩ (.string noB)).setCell ⟨W.heap.size+1,3,none⟩ (.slice a1 m1 c1)).setCell ⟨W.heap.size+1,4,none⟩ (.slice a2 m2 c2)).drew:=by
   have f:=(R.bl i M_).drew;rw[hCL.o];exact⟨f.cell 0,f.cell 1,f.cell 2,f.cell 3,f.cell 4⟩
  have H:I wc.drew:=by
   have f:=i.drew;rw[hCL.o];exact⟨f.cell 0,f.cell 1,f.cell 2,f.cell 3,f.cell 4⟩
  replace j:=zy j;go_wp2;refine tR_ I ?_;refine tA_ 0 rfl K_ (λ_ _ _ h=>h) xh_ ?_;refine tA_ 1 rfl K_ (λ_ _ _ h=>h) xh_ ?_;refine tA_ 2 rfl K_ (λ_ _ _ h=>h) xh_ ?_;refine tA_ 3 rfl K_ (λ_ _ _ h=>h) xh_ ?_;refine zd 4 rfl K_ H (λT z=>?_);go_simp;refine z _ _ ?_;clear z T;refine tA_ 5 rfl K_ (λ_ _ _ h=>h) xh_ ?_;refine zV K_ b6 ?_ _;clear b6 H i R;go_wp2;have L5:=Blk.fi j (.int .u8 101) (Z_ vv) (.string noB) (.slice a1 m1 c1) (.slice a2 m2 c2);obtain⟨q0,q1,q2,q3,q4⟩:=L5.d5;refine bodyPost_ret (v:=.tuple #[.agg (zq 101 vv noB (.slice a1 m1 c1) (.slice a2 m2 c2)).toArray,.bool (decide (vv≥0))]) y1_ rfl ?_;exact b9
end
def Pv(W:Aw)(B:Ct)(bo:Nat)(vs:Ax)(g:Nat):Prop:=((g<B.1/\g≠B.2)\/W.heap.size+2<=g)/\vs.ownBlock≠some g/\g≠bo
structure MR(W:Aw)(B:Ct)(bo:Nat)(v0:Az)(k:Nat)(n:Int)(tx:BA)(vk vs:Ax)(acc:Ak)(V:Aw):Prop where
 fr:Fr W V N_
 o:Blk V bo (zq k n tx vk vs) 32
 b0:Blk V W.heap.size v0 32
 b1:Blk V (W.heap.size+1) zf 32
 ob:W.heap.size+2<=bo
 hB:B.1<=W.heap.size
 nb:vs.ownBlock≠some bo
 row:jg V (W.heap.size+2) (Pv W B bo vs) vs acc
section
variable {W V V':Aw} {B:Ct} {bo:Nat} {v0:Az} {k:Nat} {n:Int} {tx:BA} {vk vs:Ax} {acc:Ak}
def MR.call(M:MR W B bo v0 k n tx vk vs acc V)(a:Fr V V' N_):MR W B bo v0 k n tx vk vs acc V':=
 ⟨M.fr.trans a u_,a.bl M.o id,a.bl M.b0 id,a.bl M.b1 id,M.ob,M.hB,M.nb,M.row.fr a u_ u_⟩
def MR.item(M:MR W B bo v0 k n tx vk vs acc V){o:Cj}{w5:Aw}{c:Ax}{v:Az}{X:Nat->List Value}(hX:∀i d,acc[i]?=some d->zF V (Pv W B bo vs) d (X i))(hd:zF V (Pv W B bo vs) d v)(hg:(V.alloc o).grownBy w5 vs.ownBlock)(ho:w5.ownsRow (W.heap.size+2) 32 5 c (acc.length+1) ((List.range acc.length).flatMap X++v))(y:∀g,vs.ownBlock=some g->W.heap.size+2<=g/\g<V.heap.size)(hl:c.ownBlock=vs.ownBlock\/c.ownBlock=some (V.alloc o).heap.size):MR W B bo v0 k n tx vk c (acc++[d]) (w5.setCell ⟨bo,4,none⟩ c):=by
 have u:=M.ob;have z:=M.o.lt;have m:Fr V w5 (λg=>vs.ownBlock=some g):=T_ ((A_ V _).alloc o) hg (λk e _=>e);have q:=V_ w5 ⟨bo,4,none⟩ c;have f:Fr V (w5.setCell ⟨bo,4,none⟩ c) (λg=>vs.ownBlock=some g\/g=bo):=(m.mono (λ_ _ e=>.inl e)).trans q (λ_ _ e=>.inr e);have hs:(V.alloc o).heap.size=V.heap.size+1:=x8_
 have j:∀g,c.ownBlock=some g->vs.ownBlock=some g\/V.heap.size<=g:=λg e=>by
  rcases hl with h|h
  .exact .inl (h▸e)
  .rw[h]at e;simp only[ae_]at e;exact .inr M_
 have l:∀g,g<W.heap.size+2->¬(vs.ownBlock=some g\/g=bo):=λg A e=>by
  rcases e with e|e
  .have:=y g e;omega
  .omega
 have R:=jg.snoc (P:=λg=>Pv W B bo vs g/\g<V.heap.size) (λi d e=>(hX i d e).mono (λ_ a b=>⟨b,a⟩)) (hd.mono (λ_ a b=>⟨b,a⟩)) f (λg hp e=>by
  rcases e with e|e
  .exact hp.1.2.1 e
  .exact hp.1.2.2 e) (zk ho q (λg e e'=>by
  have e':g=bo:=e'
  subst e'
  rcases j g e with h|h
  .exact M.nb h
  .omega))
 refine⟨M.fr.trans f (λx hx e=>l x M_ e),?_,f.bl M.b0 (l _ M_),f.bl M.b1 (l _ M_),u,M.hB,λe=>?_,R.mono (λg _ hp=>⟨hp.1.1,λe=>?_,hp.1.2.2⟩)⟩
 .exact(m.bl M.o (λe=>M.nb e)).set 4 c
 .rcases j bo e with h|h
  .exact M.nb h
  .omega
 .rcases j g e with h|h
  .exact hp.1.2.1 h
  .have:=hp.2;omega
def zF.swap{w:Aw}{P f Q:Au}{b:Nat}{ds':Ak}{c:Ax}(h:zF w P (.mk k n tx ks ds) (zq k n tx vk vs))(hs:jg w b f c ds')(h1:∀g,P g->Q g)(l:∀g,f g->Q g)(m:∀g,c.ownBlock=some g->Q g):zF w Q (.mk k n tx ks ds') (zq k n tx vk c):=by
 generalize j:zq k n tx vk vs=v at h;cases h with
 |mk X hk hkP hs' hsP hd=>
  simp only[zq,List.cons.injEq,and_true]at j;obtain⟨_,_,_,rfl,rfl⟩:=j;obtain⟨Y,a,b⟩:=hs;exact .mk Y hk (λg e=>h1 g (hkP g e)) (yP a) m (λi d e=>(b i d e).mono (λg _ hg=>l g hg))
def MR.take(M:MR W B bo v0 k n tx vk vs acc V){x:DT}{v:Az}{gx:Nat}(hd:zF V' (λg=>((g<B.1/\g≠B.2)\/V.heap.size<=g)/\g≠gx) x v):zF V' (Pv W B bo vs) x v:=by
 refine hd.mono (λg _ hg=>?_);have b:=M.b1.lt;have b:=M.ob;have b:=M.o.lt;have b:=M.hB;have b:=hg.1;obtain⟨X,a,_⟩:=M.row;refine⟨M_,λe=>?_,M_⟩;have:=a.lt g e;omega
end
def tn{β:Type}{g:α->Option β}{a:α}{r:List α}:yb g (a::r)=match g a with|none=>none|some b=>match yb g r with|none=>none|some l=>some (b::l):=rfl
def ahO(acc:Ak)(r:Option (List DT)):Option (List DT):=r.map (acc ++ ·)
def rZ{g:α->Option DT}{acc:Ak}{ds:List α}{i:Nat}{d:α}{x:DT}(hd:ds[i]?=some d)(hx:g d=some x):ahO acc (yb g (ds.drop i))=ahO (acc++[x]) (yb g (ds.drop (i+1))):=by
 obtain⟨hl,rfl⟩:=am_.1 hd;rw[bc_ hl,tn,hx];unfold ahO;cases yb g (ds.drop (i+1)) with
 |none=>rfl
 |some l=>simp
def rX{g:α->Option DT}{acc:Ak}{ds:List α}{i:Nat}{d:α}(hd:ds[i]?=some d)(hx:g d=none):ahO acc (yb g (ds.drop i))=none:=by
 obtain⟨hl,rfl⟩:=am_.1 hd;rw[bc_ hl,tn,hx];rfl
end Go.Proofs.YtahhhgbojlkjnaaGreatDoor
