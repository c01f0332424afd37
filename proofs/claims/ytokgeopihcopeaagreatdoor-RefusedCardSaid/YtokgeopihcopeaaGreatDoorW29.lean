import Derived.Test.YtokgeopihcopeaaGreatDoorW28
set_option linter.unusedVariables false
set_option maxHeartbeats 16000000
set_option maxRecDepth 100000
set_option linter.defProp false
set_option linter.unusedSimpArgs false
open Go.Proofs.Tryz
namespace Go.Proofs.YtokgeopihcopeaaGreatDoor
open Go.RowKit
set_option maxRecDepth 100000
set_option linter.defProp false
variable {ua va:Am}{uc B un vc i:Nat}{bT:Av}{bx:Ax}{w:Aw}{q:Int}
@[go_sem]def Ur:=yI 307 208
@[go_sem]def Jt:=vt 307 208 (.agg #[])
section
variable {W:Aw} {R:Bt} {fb:Nat} {wT:Av} {wx:Ax}
def cq8_{p:Prop}(h:p:=by
 refine hq_ λA t=>?_;have k:H_ (∀o,Fr W ((W.alloc (.cells #[O_,.nilIface] 85)).alloc o) N_/\Blk ((W.alloc (.cells #[O_,.nilIface] 85)).alloc o) W.heap.size [O_,.nilIface] 85):=zy (λo=>⟨((A_ W _).alloc _).alloc _,(B_ W _ _).alloc _⟩);replace h:=zy h;(first|(have:=cc4;have n0:=Jt 280 D_)|(have:=cc5;have D:=yt hc)|(skip));go_in;go_wp2_with ((first|go_at_call 161|go_at_call 162|go_at_call 160|go_at_call 159|go_at_call 92|go_at_call 158);apply(h.o _ ?fr ?bl).mono;(case fr=>exact(k.o _).1);(case bl=>exact(k.o _).2);rintro e J ⟨n,d,rfl,hd,hb,f⟩;have u:=hb.cell 0;have z:=hb.cell 1;have G:=hb.th 0;have H:=hb.th 1;have E:=(λW a m=>run_store prog W a d m hd.one);have b:=(hb.set 0 (I_ n)).set 1 d;have l:=b.cell 0;have s:=b.cell 1;simp only[an_,ap_,aa_,ab_]at u z l s;replace f:=zy f;clear b hb hd);refine bodyPost_ret (v:=.agg #[I_ n,d]) (by simp[results,results92,go_sem,l,s]) rfl ?_;rw[t.o];exact f.o):p:=h
def sW{tb:Nat}(hc:W.cell? ⟨fb,4,none⟩=some (P_ tb))(h:∀W1,Fr W W1 N_->Blk W1 W.heap.size [O_,.nilIface] 85->Calls prog 158 #[P_ tb,.iface wT wx] W1 (kL W R)):Calls prog 92 #[P_ fb,.iface 307 (.agg #[]),.iface wT wx] W R:=by
 have cc5:=Nat
 exact cq8_
def sQ(h:∀W1,Fr W W1 N_->Blk W1 W.heap.size [O_,.nilIface] 85->Calls prog 159 #[P_ fb,.agg #[.slice ua un uc,.iface bT bx]] W1 (kL W R)):Calls prog 92 #[P_ fb,.iface 277 (.agg #[.slice ua un uc,.iface bT bx]),.iface wT wx] W R:=by
 have cc3:=Nat
 exact cq8_
def eP{n0:Int}(h:∀W1,Fr W W1 N_->Blk W1 W.heap.size [O_,.nilIface] 85->Calls prog 92 #[P_ fb,.iface bT bx,.iface wT wx] W1 (kL W R)):Calls prog 92 #[P_ fb,.iface 280 (.agg #[Z_ n0,.iface bT bx]),.iface wT wx] W R:=by
 have cc4:=Nat
 exact cq8_
def lz{aT:Av}{ax:Ax}(h:∀W1,Fr W W1 N_->Blk W1 W.heap.size [O_,.nilIface] 85->Calls prog 160 #[P_ fb,.agg #[.iface aT ax,.iface bT bx],.iface wT wx] W1 (kL W R)):Calls prog 92 #[P_ fb,.iface 282 (.agg #[.iface aT ax,.iface bT bx]),.iface wT wx] W R:=by
 have cc2:=Nat
 exact cq8_
def ui{p:Int}{vn:Nat}{a b:Am}(h:∀W1,Fr W W1 N_->Blk W1 W.heap.size [O_,.nilIface] 85->Calls prog 161 #[.agg #[Z_ p,.slice ua un uc,.pointer a,Z_ q,.slice va vn vc,.pointer b]] W1 (kL W R)):Calls prog 92 #[P_ fb,.iface 285 (.agg #[Z_ p,.slice ua un uc,.pointer a,Z_ q,.slice va vn vc,.pointer b]),.iface wT wx] W R:=by
 exact cq8_
def cd{p:Int}{vn:Nat}(h:∀W1,Fr W W1 N_->Blk W1 W.heap.size [O_,.nilIface] 85->Calls prog 162 #[P_ fb,.agg #[Z_ p,.slice ua un uc,Z_ q,.slice va vn vc]] W1 (kL W R)):Calls prog 92 #[P_ fb,.iface 288 (.agg #[Z_ p,.slice ua un uc,Z_ q,.slice va vn vc]),.iface wT wx] W R:=by
 have cc1:=Nat
 exact cq8_
def eB(h:∀b,Fr W b N_->R (.returned (.agg #[O_,.nilIface])) b):Calls prog 92 #[P_ fb,.iface 275 (.agg #[]),.iface wT wx] W R:=by
 refine hq_ λb s=>?_;obtain⟨w1,hw1⟩:=e_ (W.alloc (.cells #[O_,.nilIface] 85));have k:Fr W w1 N_:=xy_
 have b:Blk w1 W.heap.size [O_,.nilIface] 85:=ya_
 have t:=b.cell 0;have u:=b.cell 1;have f:=b.th 0;have f:=b.th 1;have f:=(b.set 0 (O_)).set 1 .nilIface;have l:=f.cell 0;have m:=f.cell 1;simp only[an_,ap_,aa_,ab_]at t u l m;have fin:=zy (h _ (k.trans (J_ w1 W.heap.size 0 1 (O_) .nilIface) (λx hx e=>M_)));replace hw1:=zy hw1;go_in;go_upto_region 1 with fail;rw[<- hw1.o];go_wp2;refine bodyPost_ret (v:=.agg #[O_,.nilIface]) (by simp[results,results92,go_sem,l,m]) rfl ?_;rw[s.o];exact fin
end
def Gu(W:Aw)(lw lr:As)(o:Ac)(e:Ak)(w':Aw):Prop:=
 Fr W w' N_/\((e=.returned (.agg #[O_,.nilIface])/\∀(i:Nat) (c:Nat×Nat),lw[i]?=some c->qh lr o c.1≠none)\/∃(i:Nat) (c:Nat×Nat),lw[i]?=some c/\qh lr o c.1=none/\e=.returned (.agg #[Z_ 1,.iface 154 (.agg #[U_ c.1,I_ i])]))
def BF{W:Aw}{g cap:Nat}{l:As}(ho:W.ownsRow 0 191 2 (S_ g l.length cap) l.length (zE l)){c:Nat×Nat}(hi:l[i]?=some c):W.cell? ⟨g,i*2,none⟩=some (I_ c.2)/\W.cell? ⟨g,i*2+1,none⟩=some (U_ c.1):=by
 have h0:=gY (f:=λq:Nat×Nat=>[Value.int .i64 (q.2:Int),Value.int .u8 (q.1:Int)]) (w:=2) (l:=l) (λx _=>rfl) (j:=0) hi M_;have h1:=gY (f:=λq:Nat×Nat=>[Value.int .i64 (q.2:Int),Value.int .u8 (q.1:Int)]) (w:=2) (l:=l) (λx _=>rfl) (j:=1) hi M_;exact⟨zr ho rfl h0,zr ho rfl h1⟩
def Vt{W:Aw}{Q:Az}{lw lr:As}{o:Ac}{p:Int}{a b:Am}(hw:W.ownsRow 0 191 2 (.slice ua lw.length uc) lw.length (zE lw))(hr:W.ownsRow 0 191 2 (.slice va lr.length vc) lr.length (zE lr))(hu:qb W Q o (.pointer b))(hl:lw.length<=300)(Y:lr.length<=300):Calls prog 161 #[.agg #[Z_ p,.slice ua lw.length uc,.pointer a,Z_ q,.slice va lr.length vc,.pointer b]] W (Gu W lw lr o):=by
 obtain⟨M,u⟩:=y_ (Gu W lw lr o);rw[<- u.o];obtain⟨w1,hw1⟩:=e_ ((W.alloc (.cells #[Z_ p,.slice ua lw.length uc,.pointer a,Z_ q,.slice va lr.length vc,.pointer b] 285)).alloc (.cells #[O_,.nilIface] 85));have s:Fr W w1 N_:=x9_
 have A:Blk w1 W.heap.size [Z_ p,.slice ua lw.length uc,.pointer a,Z_ q,.slice va lr.length vc,.pointer b] 285:=xe_
 have K:Blk w1 (W.heap.size+1) [O_,.nilIface] 85:=by
  rw[hw1];have:=B_ (W.alloc (.cells #[Z_ p,.slice ua lw.length uc,.pointer a,Z_ q,.slice va lr.length vc,.pointer b] 285)) #[O_,.nilIface] 85;rw[zm]at this;exact this
 have c1:=A.c1;have D:H_ (∀V,Fr w1 V N_->V.cell? ⟨W.heap.size,3,none⟩=some (Z_ q)/\V.cell? ⟨W.heap.size,4,none⟩=some (.slice va lr.length vc)/\V.cell? ⟨W.heap.size,5,none⟩=some (.pointer b)/\Blk V (W.heap.size+1) [O_,.nilIface] 85):=zy (λV f=>by
  have k:=f.bl A id
  exact⟨k.cell 3,k.cell 4,k.cell 5,f.bl K id⟩)
 have item:H_ (∀V (i:Nat) (c:Nat×Nat),Fr w1 V N_->lw[i]?=some c->∃g,ua=some ⟨g,0,none⟩/\V.cell? ⟨g,i*2,none⟩=some (I_ c.2)/\V.cell? ⟨g,i*2+1,none⟩=some (U_ c.1)):=zy (λV i c f hi=>by
  have o1:=zj hw (s.trans f u_) u_
  obtain⟨g,a1,e⟩:=zg o1 (o1_ ((ak_.1 hi).1))
  cases e
  exact⟨g,rfl,BF o1 hi⟩)
 have rd:H_ (∀V c,Fr w1 V N_->Calls prog 191 #[.agg #[Z_ q,.slice va lr.length vc,.pointer b],.int .u8 ((c:Nat):Int)] V λe w'=>e=.returned (gv (qh lr o c))/\Fr V w' N_):=zy (λV c f=>by
  have hf:=s.trans f u_
  exact rl (zj hr hf u_) (hu.fr hf u_) Y)
 have no:H_ (∀V,Fr w1 V N_->(∀(i:Nat) (c:Nat×Nat),lw[i]?=some c->qh lr o c.1≠none)->M (.returned (.agg #[O_,.nilIface])) ((V.setCell ⟨W.heap.size+1,0,none⟩ (O_)).setCell ⟨W.heap.size+1,1,none⟩ .nilIface)):=zy (λV f k=>by
  rw[u.o]
  exact⟨(s.trans f u_).trans (J_ V (W.heap.size+1) 0 1 _ _) (λx hx e=>M_),.inl ⟨rfl,k⟩⟩)
 have a0:H_ (∀V (i:Nat) (c:Nat×Nat),Fr w1 V N_->lw[i]?=some c->qh lr o c.1=none->M (.returned (.agg #[Z_ 1,.iface 154 (.agg #[U_ c.1,I_ i])])) ((V.setCell ⟨W.heap.size+1,0,none⟩ (Z_ 1)).setCell ⟨W.heap.size+1,1,none⟩ (.iface 154 (.agg #[U_ c.1,I_ i])))):=zy (λV i c f S M=>by
  rw[u.o]
  exact⟨(s.trans f u_).trans (J_ V (W.heap.size+1) 0 1 _ _) (λx hx e=>M_),.inr ⟨i,c,S,M,rfl⟩⟩)
 replace hw1:=zy hw1;go_in;go_upto_region 1 with fail;rw[<- hw1.o];go_wp2;go_loopg [11] (lw.length+1) (λmm v V=>∃i:Nat,v=I_ i/\H_ (Fr w1 V N_)/\i<=lw.length/\lw.length+1-i<=mm/\H_ (∀(j:Nat) (c:Nat×Nat),j<i->lw[j]?=some c->qh lr o c.1≠none));case atStart=>exact⟨0,rfl,zy (A_ _ _),am_ _,M_,zy (λj c N=>absurd N (Nat.not_lt_zero j))⟩
 case round=>
  obtain⟨i,rfl,f,hi,s,hs⟩:=hrel;by_cases O:i<lw.length
  .have Z:(i:Int)<(lw.length:Int):=M_;obtain⟨c,hc⟩:∃c,lw[i]?=some c:=⟨_,aj_ O⟩;obtain⟨g,rfl,k0,S⟩:=item.o wr i c f hc;obtain⟨z,hw4⟩:=e_ (wr.alloc (.cells #[I_ c.2,U_ c.1] 191));have f4:Fr w1 z N_:=by rw[hw4];exact f.o.alloc _
   have s:Blk z wr.heap.size [I_ c.2,U_ c.1] 191:=yx_
   obtain⟨d3,d4,d5,-⟩:=D.o z f4;have X:=s.c1;have l:=zy (rd.o z c.1 f4);replace hw4:=zy hw4;cases m:qh lr o c.1 with
   |none=>
    rw[m]at l;have t:gv none=.tuple #[O_,.bool false]:=rfl;rw[t]at l;have fin:=zy (λV f=>a0.o V i c f hc m);generalize c.1=cc at *;generalize c.2=cp at *;go_upto_region 4 with fail;rw[<- hw4.o];go_wp2_with (first
     |(go_at_call 191;apply l.o.mono;rintro e w5 ⟨rfl,f5⟩;have E:=zy (f4.trans f5 u_);have s:=f5.ke X)
     |(go_at_call 87;apply nR.mono;rintro e G ⟨rfl,u⟩;have s:=E.o.trans u u_;have hb:=(D.o G s).2.2.2;have H:=hb.cell 0;have J:=hb.cell 1;have t0:=hb.th 0;have t1:=hb.th 1;have h:=(hb.set 0 (Z_ 1)).set 1 (.iface 154 (.agg #[U_ cc,I_ i]));have x0:=h.cell 0;have x1:=h.cell 1;simp only[an_,ap_,aa_,ab_]at H J x0 x1;have z:=zy (fin.o G s)))
    refine bodyPost_ret (v:=.agg #[Z_ 1,.iface 154 (.agg #[U_ cc,I_ i])]) z6_ rfl ?_;exact z
   |some k=>
    rw[m]at l;have t:gv (some k)=.tuple #[I_ k,.bool true]:=rfl;rw[t]at l;have nx:H_ (∀(j:Nat) (c:Nat×Nat),j<i+1->lw[j]?=some c->qh lr o c.1≠none):=zy (λj U N G=>by
     by_cases e:j=i
     .subst e
      rw[hc]at G
      cases G
      rw[m]
      simp
     .exact hs.o j U M_ G)
    generalize c.1=cc at *;generalize c.2=cp at *;go_upto_region 4 with fail;rw[<- hw4.o];go_wp2_with (go_at_call 191;apply l.o.mono;rintro e w5 ⟨rfl,f5⟩;have E:=zy (f4.trans f5 u_));go_roundg (lw.length+1-(i+1));case measure=>omega
    case rel=>exact⟨i+1,by simp,E,O,l_,nx⟩
  .have Z:¬((i:Int)<(lw.length:Int)):=M_;have fin:=zy (no.o wr f (λj c hc=>hs.o j c (o1_ ((ak_.1 hc).1)) hc));have hb:=(D.o wr f).2.2.2;have H:=hb.cell 0;have J:=hb.cell 1;have t0:=hb.th 0;have t1:=hb.th 1;have h:=(hb.set 0 (O_)).set 1 .nilIface;have x0:=h.cell 0;have x1:=h.cell 1;simp only[an_,ap_,aa_,ab_]at H J x0 x1;go_wp2;refine bodyPost_ret (v:=.agg #[O_,.nilIface]) z6_ rfl ?_;exact fin
set_option maxRecDepth 100000
set_option linter.defProp false
@[go_sem]def Mz:=yI 223 20
@[go_sem]def Qm:=vt 223 20 (.agg #[O_,.nilIface])
def Wn(u:Av)(h:u≠223)(v:Ax):Calls prog 211 #[.iface u v] w λe w'=>e=.returned (.bool false)/\Fr w w' N_:=by
 refine hq_ λb b=>?_;have n:=Qm u h;go_in;go_wp2;try go_ret
 rw[b.o];exact⟨rfl,by first|exact A_ _ _|exact(A_ _ _).alloc _⟩
def JJ{p:Int}{vT:Av}{vx:Ax}:Calls prog 211 #[.iface 223 (.agg #[Z_ p,.iface vT vx])] w λe w'=>e=.returned (.bool true)/\Fr w w' N_:=by
 refine hq_ λb b=>?_;go_in;go_wp2;try go_ret
 rw[b.o];exact⟨rfl,by first|exact A_ _ _|exact(A_ _ _).alloc _⟩
def ItR(c B:Nat)(dv v:Ax)(W:Aw):Prop:=
 (c=91/\∃pv,v=.iface 144 pv/\W.ownsRow B 52 1 pv 1 [dv])\/(c=123/\∃pv,v=.iface 147 pv/\W.ownsRow B 201 2 pv 1 [.string ⟨#[97]⟩,dv])
def ItR.fr{c:Nat}{dv v:Ax}{W W':Aw}{S:Az}(h:ItR c B dv v W)(hf:Fr W W' S)(f:∀g,B<=g->¬S g):ItR c B dv v W':=by
 rcases h with⟨e,pv,h1,b⟩|⟨e,pv,h1,b⟩
 .exact .inl ⟨e,pv,h1,zj b hf (λg hg=>f g (b.lt g hg).1)⟩
 .exact .inr ⟨e,pv,h1,zj b hf (λg hg=>f g (b.lt g hg).1)⟩
def YV{b c:Nat}{pv dT:Ax}{wT:Av}{wx:Ax}(hc:(c=91/\wT≠223)\/(c=123/\wT=223/\∃p vT vx,wx=.agg #[Z_ p,.iface vT vx]))(D:IfV dT)(h:Blk w b [.iface wT wx] 46)(ho:w.ownsRow B 52 1 pv 1 [dT])(hB:B<=w.heap.size):Calls prog 210 #[pv,P_ b] w λe w'=>∃v,e=.returned v/\IfV v/\Fr w w' N_/\ItR c B dT v w':=by
 obtain⟨u,k⟩:=y_ (λ(e:Ending) (w':World)=>∃v,e=.returned v/\IfV v/\Fr w w' N_/\ItR c B dT v w');rw[<- k.o];have c0:=h.c0;obtain⟨g,z,rfl⟩:=zg ho M_;have A:w.cell? ⟨g,0,none⟩=some dT:=zr ho rfl rfl;rcases hc with⟨hc,hw⟩|⟨hc,rfl,p,vT,vx,rfl⟩
 .have s:=zy (Wn (w:=w) wT hw wx);have fin:H_ (∀V,Fr w V N_->u (.returned (.iface 144 (S_ g 1 z))) V):=zy (λV l=>by
   rw[k.o]
   exact⟨_,rfl,.inr ⟨_,_,rfl⟩,l,.inl ⟨hc,_,rfl,zj ho l u_⟩⟩)
  replace hc:=zy hc;go_in;go_wp2_with (go_at_call 211;apply s.o.mono;rintro e t ⟨rfl,f⟩;have m:=zy (fin.o t f));try go_ret
  exact m
 .have s:=zy (JJ (w:=w) (p:=p) (vT:=vT) (vx:=vx));have fin:H_ (∀V,Fr w V N_->u (.returned (.iface 147 (S_ V.heap.size 1 1))) (V.alloc (.cells #[.string ⟨#[97]⟩,dT] 201))):=zy (λV l=>by
   rw[k.o]
   refine⟨_,rfl,.inr ⟨_,_,rfl⟩,l.alloc _,.inr ⟨hc,_,rfl,?_⟩⟩
   exact cU (cs:=[.string ⟨#[97]⟩,dT]) (B_ V #[.string ⟨#[97]⟩,dT] 201) (al_ hB l.size) rfl xs_)
  replace hc:=zy hc;rcases D with rfl|⟨k,tx,rfl⟩;all_goals
   go_in;go_wp2_with (go_at_call 211;apply s.o.mono;rintro e t ⟨rfl,f⟩;have k:=f.ke A;have m:=zy (fin.o t f));try go_ret
   exact m
def Via.uniq{ew er:Au}{x y r r':PT}(h:Via ew er x y r)(b:Via ew er x y r'):r=r':=by
 rcases h with⟨a,rfl⟩|⟨p,rs,k,rfl,h1,l⟩
 .rcases b with⟨_,rfl⟩|⟨p,rs,k,rfl,_⟩
  .rfl
  .cases a
 .rcases b with⟨a,rfl⟩|⟨p',b,b,e,b,f⟩
  .cases a
  .cases e;rw[h1]at b;cases b;rw[l]at f;exact Option.some.inj f
def Via.nev{ew er:Au}{x y r:PT}(h:Via ew er x y r)(hm:xi ew er x r=true)(hn:Nev ew er x y):False:=by
 rcases h with⟨a,rfl⟩|⟨p,rs,k,rfl,h1,b⟩
 .rcases hn with⟨_,h⟩|⟨p,rs,rfl,_⟩
  .rw[hm]at h;cases h
  .cases a
 .rcases hn with⟨a,_⟩|⟨p',b,e,h⟩
  .cases a
  .cases e;rw[h1]at h;cases h
def svD.items{F:FD}{V l:Aw}{J m:Az}{c p p' n:Nat}{u u' y:PT}{d v:Ax}(hc:c=91\/c=123)(hv:Via (zx F.ds) (zx F.ds') (.wrap c p u) y (.wrap c p' u'))(h:svD F V J (UD F (u,u')) (UA (u,u')) n d)(E:∀x t z,DaV (zx F.ds) V J x t z->DaV (zx F.ds) l m x t z)(hB:∀x,B<=x->x<l.heap.size->m x)(h0:jnN [n]=0\/jnN [n]=301->v=.nilIface)(h1:1<=jnN [n]->jnN [n]<=300->ItR c B d v l):svD F l m (UD F (.wrap c p u,y)) (UA (.wrap c p u,y)) (jnN [n]) v:=by
 refine⟨h0,λe=>?_⟩;obtain⟨x,b,D,G⟩:=h.2 (oe e);have hx:n<=301:=by rw[<- D];unfold nd3;split<;>omega
 rcases hc with rfl|rfl
 .have o:jnN [n]=nd3 (.mk 91 0 noB [] [x]):=by rw[<- D];exact iK (ds:=[x])
  refine⟨.mk 91 0 noB [] [x],⟨.items hv (.list x6_ (λz hz=>by simp at hz;subst hz;exact Un.dat b.1)) zp_ b.1,b.2.one⟩,o.symm,λf t A=>?_⟩;obtain rfl:t=.wrap 91 p u:=A;rcases h1 M_ f with⟨_,pv,rfl,hr⟩|⟨e,_⟩
  .have s:n<=300:=(KL (ns:=[n]) x6_ f M_).2;refine .row (λ_=>d) (.inl ⟨rfl,rfl⟩) (yl hr) (λg hg=>hB g (hr.lt g hg).1 (hr.lt g hg).2) (λi z hz=>?_);cases i with
   |zero=>simp at hz;subst hz;exact E _ _ _ (G s u rfl)
   |succ i=>simp at hz
  .cases e
 .have o:jnN [n]=nd3 (.mk 123 0 noB [⟨#[97]⟩] [x]):=by rw[<- D];exact iK (ds:=[x])
  refine⟨.mk 123 0 noB [⟨#[97]⟩] [x],⟨.items hv (.map x6_ rfl ⟨by simp[kV],λk hk=>by
   have H:k=0:=by
    have:k<1:=hk
    omega
   subst H
   decide,by show(1:Nat)<=_;omega,trivial⟩ (λz hz=>by simp at hz;subst hz;exact Un.dat b.1)) zp_ b.1,b.2.entry⟩,o.symm,λf t A=>?_⟩
  obtain rfl:t=.wrap 123 p u:=A;rcases h1 M_ f with⟨e,_⟩|⟨_,pv,rfl,hr⟩
  .cases e
  .have s:n<=300:=(KL (ns:=[n]) x6_ f M_).2;refine .map (λ_=>d) rfl (λk hk=>by simp at hk;subst hk;show(1:Nat)<=_;omega) (yl hr) (λg hg=>hB g (hr.lt g hg).1 (hr.lt g hg).2) (λi z hz=>?_);cases i with
   |zero=>simp at hz;subst hz;exact E _ _ _ (G s u rfl)
   |succ i=>simp at hz
structure IM(F:FD)(W:Aw)(r:By)(rv:Ax)(g:Aq)(T:Ah)(a:Es)(wv:Ax)(q:Nat)(r':By)(rv':Ax)(g':Aq)(T':Ah)(n:Nat)(d:Ax)(V:Aw):Prop where
 n3:n<=301
 d1:IfV d
 ti:TbI (uT F) (uI F) (uL F) V r' rv' g' T'
 st:Stp W V (TSS (uT F) (uL F) rv r) (TSS (uT F) (uL F) rv' r')
 gr:Grw (uT F).Cl T T' g g'
 hk:fV T' a n
 sv:svD F V (λy=>¬TSS (uT F) (uL F) rv' r' y) (UD F a) (UA a) n d
 bq:Blk V q [I_ n,d] 85
 b1:wo V (TSS (uT F) (uL F) rv' r') (W.heap.size+1) [wv] 46
 b2:wo V (TSS (uT F) (uL F) rv' r') (W.heap.size+2) [O_,.nilIface] 85
def sG{F:FD}(b5:F.OK){W:Aw}{r:By}{rv:Ax}{g:Aq}{T:Ah}{c p p' m:Nat}{u u' y:PT}{aT wT:Av}{ax wx:Ax}(f:KOK (uT F) (uI F) (uL F) 54 prV m)(h:TbI (uT F) (uI F) (uL F) W r rv g T)(ha:TyV W F.P u (.iface aT ax))(hb:TyV W F.P' u' (.iface bT bx))(hw:TyV W F.P (.wrap c p u) (.iface wT wx))(Y:okQ F (.ty (.wrap c p u)))(a1:okY F u')(hv:Via (zx F.ds) (zx F.ds') (.wrap c p u) y (.wrap c p' u'))(hm:90000<=T.length+m):Calls prog 160 #[P_ F.fb,.agg #[.iface aT ax,.iface bT bx],.iface wT wx] W (yB (uT F) (uI F) (uL F) W r rv g T (.wrap c p u,y)):=by
 obtain⟨b6,Q_⟩:=y_ (yB (uT F) (uI F) (uL F) W r rv g T (.wrap c p u,y));rw[<- Q_.o];have A:=vH b5;have O:=Y.2.1;unfold okT at O;have a0:=Y.2.2;unfold vq at a0;have a3:okQ F (.ty u):=⟨Y.1.wrap,O.2,a0⟩;have a9:(c=91/\wT≠223)\/(c=123/\wT=223/\∃p X vx,wx=.agg #[Z_ p,.iface X vx]):=by
  cases hw with
  |wrap _ _ b=>
   obtain⟨X,vx,rfl⟩:=b.iface;rcases O.1 with rfl|rfl
   .exact .inl ⟨rfl,D_⟩
   .exact .inr ⟨rfl,rfl,_,X,vx,rfl⟩
 obtain⟨w1,E⟩:=e_ (((W.alloc (.cells #[.iface aT ax,.iface bT bx] 282)).alloc (.cells #[.iface wT wx] 46)).alloc (.cells #[O_,.nilIface] 85));have z1:=zm W (.cells #[.iface aT ax,.iface bT bx] 282);have z2:=zm (W.alloc (.cells #[.iface aT ax,.iface bT bx] 282)) (.cells #[.iface wT wx] 46);have U:Fr W w1 N_:=by rw[E];exact(((A_ W _).alloc _).alloc _).alloc _
 have B0:Blk w1 W.heap.size [.iface aT ax,.iface bT bx] 282:=by rw[E];exact((B_ W _ _).alloc _).alloc _
 have B1:Blk w1 (W.heap.size+1) [.iface wT wx] 46:=by
  rw[E];have:=(B_ (W.alloc (.cells #[.iface aT ax,.iface bT bx] 282)) #[.iface wT wx] 46).alloc (.cells #[O_,.nilIface] 85);rw[z1]at this;exact this
 have B2:Blk w1 (W.heap.size+2) [O_,.nilIface] 85:=by
  rw[E];have:=B_ ((W.alloc (.cells #[.iface aT ax,.iface bT bx] 282)).alloc (.cells #[.iface wT wx] 46)) #[O_,.nilIface] 85;rw[z2,z1]at this;exact this
 have hl:=λx (hx:TSS (uT F) (uL F) rv r x)=>(h.li A hx);have X:F.fb<W.heap.size:=y1_
 have e5:w1.cell? ⟨F.fb,5,none⟩=some (P_ F.tu):=(h.new A U).i.1.i.cell5;have p0:=B0.c0;have S:=B0.c1;have call:H_ (∀V,Fr w1 V N_->Calls prog 54 #[P_ F.tu,.agg #[.iface aT ax,.iface bT bx]] V (ju (uT F) (uI F) (uL F) V r rv g T (u,u'))):=zy (λV X=>by
  have hf:=U.trans X u_
  exact f V r rv g T (u,u') [.iface aT ax,.iface bT bx] (h.new A hf) ⟨a3,a1⟩ ⟨⟨_,_,rfl,ha.fr hf u_,hb.fr hf u_⟩,a3,a1⟩ hm)
 have b8:H_ (∀x,TSS (uT F) (uL F) rv r x->x<W.heap.size):=zy (λx e=>(hl x e).2);have a4:H_ (∀X V V1 r' rv' g' T' (x:Rw (PT×PT)) q,Fr w1 X N_->TbI (uT F) (uI F) (uL F) V r' rv' g' T'->Stp X V (TSS (uT F) (uL F) rv r) (TSS (uT F) (uL F) rv' r')->Grw (uT F).Cl T T' g g'->x∈T'->x.a=(u,u')->(Fr V V1 N_\/(W.heap.size+3<=q/\q<X.heap.size/\Blk V q [O_,.nilIface] 85/\Fr V V1 (λx=>x=q)))->Blk V1 q [I_ x.n,x.d] 85->IM F W r rv g T (u,u') (.iface wT wx) q r' rv' g' T' x.n x.d V1):=zy (λX V V1 r' rv' g' T' x q hf b hs hg hx s X a8=>by
  have qq:=(b.t.q x hx).2.2
  have a2:=(C_ (U.trans hf u_) (λ_ h=>h)).trans hs
  have o1:wo w1 (TSS (uT F) (uL F) rv r) (W.heap.size+1) [.iface wT wx] 46:=⟨B1,λe=>o1_ ((hl _ e).2)⟩
  have o2:wo w1 (TSS (uT F) (uL F) rv r) (W.heap.size+2) [O_,.nilIface] 85:=⟨B2,λe=>o1_ ((hl _ e).2)⟩
  have k1:=(o1.new hf).stp hs
  have k2:=(o2.new hf).stp hs
  have sv:=(b.v x hx).1
  rw[s]at sv
  rcases X with l|⟨X,X,a7,l⟩
  .exact⟨qq.1,qq.2,b.new A l,a2.trans (C_ l (λ_ h=>h)),hg,⟨x,hx,s,rfl⟩,svD.stp sv (C_ l (λ_ h=>h)),a8,k1.new l,k2.new l⟩
  .exact⟨qq.1,qq.2,b.put A (by show F.fb<q;omega) a7 l,⟨a2.1.trans l (λy hy e=>M_),a2.2⟩,hg,⟨x,hx,s,rfl⟩,svD.put sv a7 D_ D_ l,a8,k1.ot l M_,k2.ot l M_⟩)
 have Z:w1.heap.size=W.heap.size+3:=by rw[E,zm,z2,z1]
 have a5:H_ (∀q r' rv' g' T' n d V,IM F W r rv g T (u,u') (.iface wT wx) q r' rv' g' T' n d V->Calls prog 146 #[S_ V.heap.size 1 1,.func (.func 210) #[] #[.pointer (some ⟨W.heap.size+1,0,none⟩)]] (V.alloc (.cells #[I_ n,d] 85)) (λe N=>∃v,e=.returned (.agg #[Z_ (jnN [n]:Int),v])/\IfV v/\Blk N (W.heap.size+2) [O_,.nilIface] 85/\b6 (.returned (.agg #[Z_ (jnN [n]:Int),v])) ((N.setCell ⟨W.heap.size+2,0,none⟩ (Z_ (jnN [n]:Int))).setCell ⟨W.heap.size+2,1,none⟩ v))):=zy (λq r' rv' g' T' n d V M=>by
  have A3:=(A_ V N_).alloc (.cells #[I_ n,d] 85)
  have l:=zm V (.cells #[I_ n,d] 85)
  have X:=M.n3
  have b3:=(M.b1.new A3).1
  refine(wu (w:=V.alloc (.cells #[I_ n,d] 85)) (ns:=[n]) (D:=λ_=>d) (fn:=210) (caps:=#[.pointer (some ⟨W.heap.size+1,0,none⟩)]) (R:=λv W'=>ItR c (V.heap.size+2) d v W') (cU (cs:=[I_ n,d]) (B_ V #[I_ n,d] 85) o_ rfl (by unfold maxLen;simp)) (λ_=>M.d1) (λk hk=>by simp at hk;omega) x6_ (qZ func210 K_ rfl) (λW' pv a6 hr=>?_) (λv X X h1 X=>h1.fr X (λg hg e=>by rw[l]at e;omega))).mono ?_
  .rw[l]at hr
   have H:=a6.size
   rw[l]at H
   have hB:V.heap.size+2<=W'.heap.size:=by
    have:=hr.lt
    obtain⟨G,l,rfl⟩:=zg hr x6_
    have:=hr.lt G rfl
    omega
   exact YV a9 M.d1 (a6.bl b3 id) hr hB
  .rintro e N ⟨v,rfl,Q,f4,v0,v1⟩
   have G:=A3.trans f4 u_
   have b2:=(M.b2.new G)
   refine⟨v,rfl,Q,b2.1,?_⟩
   rw[Q_.o]
   have H:=J_ N (W.heap.size+2) 0 1 (Z_ (jnN [n]:Int)) v
   have t4:=M.ti.new A G
   have b4:=M.st.trans (C_ G (λ_ h=>h))
   have b7:svD F N (λy=>¬TSS (uT F) (uL F) rv' r' y) (UD F (.wrap c p u,y)) (UA (.wrap c p u,y)) (jnN [n]) v:=svD.items (V:=V) (J:=λy=>¬TSS (uT F) (uL F) rv' r' y) (B:=V.heap.size+2) O.1 hv M.sv (λx t z hz=>hz.fr G u_) (λx hx l e=>o1_ ((M.ti.li A e).2)) v0 v1
   refine⟨r',rv',g',T',jnN [n],v,rfl,iQ _,Q,t4.put A (by show F.fb<W.heap.size+2;omega) b2.1 H,⟨b4.1.trans H (λx hx e=>M_),b4.2⟩,M.gr,?_,svD.put b7 b2.1 D_ D_ H⟩
   refine⟨λS ws e=>yj_,λ_ hn=>(Via.nev hv (by simp[xi]) hn).elim,λc1 S l l l e l=>?_,λc p p' lw lr ow o q e=>yj_,λc p p' fw fr g i h e=>yj_,λc p p' fw fr g e=>yj_⟩
   cases e
   cases Via.uniq hv l
   exact⟨n,M.hk,.refl _⟩)
 replace E:=zy E;replace Z:=zy Z;go_in;go_upto_region 1 with fail;rw[<- E.o];go_cut [7] (λv V=>∃q r' rv' g' T' n d,v=P_ q/\H_ (IM F W r rv g T (u,u') (.iface wT wx) q r' rv' g' T' n d V));case first=>
  refine tr_ 9 (λV=>z_ V F.fb 5 (P_ F.tu)/\z_ V W.heap.size 0 (.iface aT ax)/\z_ V W.heap.size 1 (.iface bT bx)) ?_;refine tB_ 0 [1,2,3,9] ?_;refine tB_ 1 [2,3,9] ?_;refine tB_ 2 [3,9] ?_;refine tB_ 3 [9] ?_;refine tB_ 4 [5,8,9] ?_;refine tB_ 5 [8,9] ?_;refine tB_ 6 [7,8,9] ?_;refine tB_ 7 [8,9] ?_;refine tB_ 8 [9] ?_;refine jV 9 10 rfl rfl K_ (λ_=>⟨e5,p0,S⟩) (λK f=>?_) (λK f=>?_)
  .go_simp;refine(call.o _ (A_ w1 _).drew).mono ?_;rintro e G ⟨r',rv',g',T',x,rfl,hx,s,b,hs,hg⟩;refine f _ _ ?_;have sD:=λW a m=>run_store prog W a x.d m ((b.t.q x hx).2.2.2).one;have fin:=zy (a4.o _ G (G.alloc (.cells #[I_ x.n,x.d] 85)) r' rv' g' T' x G.heap.size (A_ w1 _).drew b hs hg hx s (.inl ((A_ _ _).alloc _)) (B_ G #[I_ x.n,x.d] 85));generalize x.n=xn at *;generalize x.d=xd at *;refine t0_ 10 ?_;refine t0_ 11 ?_;refine td_ ?_ _;go_wp2;go_meet;exact⟨_,_,_,_,_,_,_,rfl,fin⟩
  .go_simp;refine f _ _ ?_;have H:=(A_ w1 N_).alloc (.cells #[O_,.nilIface] 85);have B3:=B_ w1 #[O_,.nilIface] 85;refine zh 9 rfl K_ (λ_=>⟨H.ke e5,H.ke p0,H.ke S⟩) (λK f=>?_);go_simp;refine(call.o _ H.drew).mono ?_;rintro e G ⟨r',rv',g',T',x,rfl,hx,s,b,hs,hg⟩;refine f _ _ ?_;have sD:=λW a m=>run_store prog W a x.d m ((b.t.q x hx).2.2.2).one;have l:¬TSS (uT F) (uL F) rv r w1.heap.size:=λe=>by
    have:=b8.o _ e;have:=Z.o;omega
   have f:=hs.1.bl B3.drew l;have fin:=zy (a4.o _ G ((G.setCell ⟨w1.heap.size,0,none⟩ (I_ x.n)).setCell ⟨w1.heap.size,1,none⟩ x.d) r' rv' g' T' x w1.heap.size H.drew b hs hg hx s (.inr ⟨by have:=Z.o;omega,by show w1.heap.size<(w1.alloc _).heap.size;rw[zm];omega,f,J_ G w1.heap.size 0 1 _ _⟩) ((f.set 0 _).set 1 _));have k0:=f.c0;have k1:=f.c1;have t0:=f.th 0;have t1:=f.th 1;generalize x.n=xn at *;generalize x.d=xd at *;refine t0_ 11 ?_;refine td_ ?_ _;go_wp2;go_meet;exact⟨_,_,_,_,_,_,_,rfl,fin⟩
 case rest=>
  obtain⟨q,r',rv',g',T',n,d,rfl,M⟩:=hcut;have H:=zy (a5.o _ _ _ _ _ _ _ _ M);have b:=M.o.bq.c0;have b:=M.o.bq.c1;have hd:=M.o.d1;generalize jnN [n]=jn at *;rcases hd with rfl|⟨b,tx,rfl⟩;all_goals
   go_wp2_with (go_at_call 146;refine H.o.mono ?_;rintro e N ⟨v,rfl,Q,hb,hP⟩;have s:=hb.cell 0;have A:=hb.cell 1;have t0:=hb.th 0;have t1:=hb.th 1;have sD:=(λW a m=>run_store prog W a v m Q.one);have b:=(hb.set 0 (I_ jn)).set 1 v;have f:=b.cell 0;have l:=b.cell 1;simp only[an_,ap_,aa_,ab_]at s A f l;replace hP:=zy hP);refine bodyPost_ret (v:=.agg #[I_ jn,v]) (by simp[results,results160,go_sem,f,l]) rfl ?_;exact hP
def Qz{lv:Ax}{n:Nat}{xs:Ay}(h:w.ownsRow B 85 2 lv n xs)(hn:n<=300)(h1:∀u∈xs,u.oneCell'=true):Calls prog 212 #[lv] w λe w'=>∃v,e=.returned v/\Fr w w' N_/\w'.ownsRow w.heap.size 85 2 v n xs:=by
 obtain⟨f,b⟩:=y_ (λ(e:Ending) (w':World)=>∃v,e=.returned v/\Fr w w' N_/\w'.ownsRow w.heap.size 85 2 v n xs);rw[<- b.o];rcases h.2 with⟨e,h0⟩|⟨g,l,D,e,_⟩
 .have hp:H_ (f (.returned (L_)) w):=zy (by
   rw[b.o]
   obtain rfl:n=0:=M_
   obtain rfl:xs=[]:=ck_ (o1_ h.1)
   exact⟨_,rfl,A_ _ _,World.ownsRow_nil _ _ _ _⟩)
  subst e;have nn:∀W,(binOp .eql 298 (L_) (L_)).run prog W=.ok (.bool true) W:=λW=>by kernel_rfl
  go_in;go_wp2;try go_ret
  exact hp
 .subst e;obtain⟨ti,s,t,z,A⟩:=info_parts XN;have nw:H_ (∀j u,xs[j]?=some u->(w.alloc (.cells #[] 85)).cell? ((⟨g,0,none⟩:Addr).add j)=some u):=zy (λj u D=>by
   have:=zr h rfl D
   have k:=((A_ w N_).alloc (.cells #[] 85)).ke this
   by_cases h0:j=0
   .subst h0
    exact k
   .simpa[Addr.add,h0] using k)
  have hl:H_ (xs.length=n*2):=zy h.1;have ow:H_ ((w.alloc (.cells #[] 85)).ownsRow w.heap.size 85 2 (S_ w.heap.size 0 0) 0 []):=zy (cU (cs:=[]) (B_ w #[] 85) l_ rfl o_);have fin:H_ (∀v w',w'.ownsRow w.heap.size 85 2 v (0+n) ([]++xs)->(w.alloc (.cells #[] 85)).grownBy w' (some w.heap.size)->f (.returned v) w'):=zy (λv w' m E=>by
   rw[b.o]
   rw[be_,bq_]at m
   refine⟨v,rfl,?_,m⟩
   exact((A_ w N_).alloc (.cells #[] 85)).trans ((A_ _ (λx=>x=w.heap.size)).gw E (λk e _=>by simpa using e.symm)) (λx hx e=>M_))
  replace h1:=zy h1;have nn:∀W,(binOp .eql 298 (S_ g n l) (L_)).run prog W=.ok (.bool false) W:=λW=>by kernel_rfl
  go_in;go_wp2_with (first
   |(at_builtin;go_must (refine wpList_append_own_at _ rfl _ _ 298 rfl w.heap.size 85 ti _ 2 24 eC s t z A rfl D_ (S_ w.heap.size 0 0) 0 [] rfl ?hown ⟨g,0,none⟩ n l xs rfl ?len ?nn ?one ?b1 ?b2 ?b3 ?_)
     case hown=>exact ow
     case len=>exact hl
     case nn=>exact nw
     case one=>exact h1
     case b1=>unfold maxLen;omega
     case b2=>omega
     case b3=>simp
     intro t z f b s m
     have l:=zy (fin.o t z f b)
     clear f b s m))
  try go_ret
  exact l
section
variable {α ρ:Type} {P:TP α ρ} {I:TI α} {L:TL} {F:FD} {fs:An} {C:List (Rw α)->PF->Nat->Prop} {c0:Ay} {T0:Av} {W V V1:Aw} {r r':ρ} {rv rv' lv:Ax} {g g':Aq} {T T':List (Rw α)} {ns:Ao} {Dv:Ai}
def RFM.put(l:P.OK I L)(h:RFM P I L F fs C c0 T0 W r rv g T ns Dv lv V r' rv' g' T'){q:Nat}{cs:Ay}(hb:Blk V q cs 85)(m:W.heap.size+2<=q)(hl:lv.ownBlock≠some q)(hf:Fr V V1 (λx=>x=q)):RFM P I L F fs C c0 T0 W r rv g T ns Dv lv V1 r' rv' g' T':=
 ⟨h.ti.put l (o1_ h.f) hb hf,⟨h.st.1.trans hf (λx hx e=>M_),h.st.2⟩,h.gr,zj h.row hf (λb e k=>hl (k▸e)),h.no,λj k f e e'=>⟨(h.kn j k f e e').1,(h.kn j k f e e').2.put hb D_ D_ hf⟩,h.iv,h.le,h.o0.ot hf M_,h.o1.ot hf M_,h.f⟩
end
def dy(F:FD)(fw:An)(T:Ah)(g:PF)(v:Nat):Prop:=
 (∀i h,vV fw g.letter=some i->fw[i]?=some h->∃ks:List Nat,ks.length=fw.length/\(∀(q:Nat) (f:PF) (k:Nat),fw[q]?=some f->ks[q]?=some k->if q=i then fV T (h.ty,g.ty) k else LL F f.ty k)/\le0 v (jnN ks))/\
 (vV fw g.letter=none->g.dflt=none->∃ks:List Nat,ks.length=fw.length/\(∀(q:Nat) (f:PF) (k:Nat),fw[q]?=some f->ks[q]?=some k->LL F f.ty k)/\le0 v (jnN ks))
def dy.ls{F:FD}{fw:An}{T:Ah}{g:PF}{v o:Nat}(h:dy F fw T g v)(hv:le0 o v)(R:Ah):dy F fw (T++R) g o:=by
 refine⟨λi s e e'=>?_,λe e'=>?_⟩
 .obtain⟨ks,h1,b,l⟩:=h.1 i s e e';refine⟨ks,h1,λq f k t u=>?_,hv.trans l⟩;have:=b q f k t u;split at this
  .rename_i m;rw[i_ m];exact this.more R
  .rename_i m;rw[n_ m];exact this
 .obtain⟨ks,h1,b,l⟩:=h.2 e e';exact⟨ks,h1,b,hv.trans l⟩
structure UFM(F:FD)(fw fr:An)(c0:Ay)(W:Aw)(r:By)(rv:Ax)(g:Aq)(T:Ah)(a:Es)(qf:Nat)(ns:Ao)(Dv:Ai)(lv:Ax)(j n:Nat)(d:Ax)(V:Aw)(r':By)(rv':Ax)(g':Aq)(T':Ah):Prop where
 B:RFM (uT F) (uI F) (uL F) F fw (λ_ f k=>LL F f.ty k) c0 288 W r rv g T ns Dv lv V r' rv' g' T'
 len:ns.length=fw.length
 bf:wo V (TSS (uT F) (uL F) rv' r') qf [I_ n,d] 85
 ge:W.heap.size+2<=qf
 nl:lv.ownBlock≠some qf
 n3:n<=301
 d1:IfV d
 sv:svD F V (λy=>¬TSS (uT F) (uL F) rv' r' y) (UD F a) (UA a) n d
 dn:∀q x,q<j->fr[q]?=some x->dy F fw T' x n
section
variable {F:FD} {fw fr:An} {c0:Ay} {W V V1:Aw} {r r' r1:By} {rv rv' rv1:Ax} {g g' g1:Aq} {T T' T1:Ah} {a:Es} {qf:Nat} {ns:Ao} {Dv:Ai} {lv:Ax} {j n:Nat} {d:Ax}
def UFM.start(b:F.OK)(h:RFM (uT F) (uI F) (uL F) F fw (λ_ f k=>LL F f.ty k) c0 288 W r rv g T ns Dv lv V r' rv' g' T')(hl:ns.length=fw.length):UFM F fw fr c0 W r rv g T a V.heap.size ns Dv lv 0 0 .nilIface (V.alloc (.cells #[O_,.nilIface] 85)) r' rv' g' T':=
 have hz:=h.o1.1.lt
 ⟨h.new (vH b) ((A_ V _).alloc _),hl,⟨B_ V #[O_,.nilIface] 85,λe=>o1_ ((h.ti.li (vH b) e).2)⟩,M_,λe=>o1_ ((h.row.lt _ e).2),M_,.inl rfl,⟨λ_=>rfl,λe=>absurd rfl e⟩,λq x b=>absurd b (Nat.not_lt_zero q)⟩
def UFM.new(b:F.OK)(h:UFM F fw fr c0 W r rv g T a qf ns Dv lv j n d V r' rv' g' T')(hf:Fr V V1 N_):UFM F fw fr c0 W r rv g T a qf ns Dv lv j n d V1 r' rv' g' T':=
 ⟨h.B.new (vH b) hf,h.len,h.bf.new hf,h.ge,h.nl,h.n3,h.d1,h.sv.stp (C_ hf (λ_ h=>h)),h.dn⟩
def UFM.known(b:F.OK)(h:UFM F fw fr c0 W r rv g T a qf ns Dv lv j n d V r' rv' g' T')(m:TbI (uT F) (uI F) (uL F) V1 r1 rv1 g1 T1)(hs:Stp V V1 (TSS (uT F) (uL F) rv' r') (TSS (uT F) (uL F) rv1 r1))(hg:Grw (uT F).Cl T' T1 g' g1):UFM F fw fr c0 W r rv g T a qf ns Dv lv j n d V1 r1 rv1 g1 T1:=by
 have l:=hg;obtain⟨R,f,_⟩:=l;exact⟨h.B.known (vH b) (λ_ _ _ _ k=>k) m hs hg,h.len,h.bf.stp hs,h.ge,h.nl,h.n3,h.d1,h.sv.stp hs,λq x b e=>by rw[f];exact(h.dn q x b e).ls (.refl _) R⟩
def UFM.put(b:F.OK)(h:UFM F fw fr c0 W r rv g T a qf ns Dv lv j n d V r' rv' g' T'){q:Nat}{cs:Ay}(hb:Blk V q cs 85)(e:W.heap.size+2<=q)(hl:lv.ownBlock≠some q)(hn:q≠qf)(hf:Fr V V1 (λx=>x=q)):UFM F fw fr c0 W r rv g T a qf ns Dv lv j n d V1 r' rv' g' T':=
 ⟨h.B.put (vH b) hb e hl hf,h.len,h.bf.ot hf (Ne.symm hn),h.ge,h.nl,h.n3,h.d1,h.sv.put hb D_ D_ hf,h.dn⟩
def UFM.next(h:UFM F fw fr c0 W r rv g T a qf ns Dv lv j n d V r' rv' g' T')(hx:∀x,fr[j]?=some x->dy F fw T' x n):UFM F fw fr c0 W r rv g T a qf ns Dv lv (j+1) n d V r' rv' g' T':=
 ⟨h.B,h.len,h.bf,h.ge,h.nl,h.n3,h.d1,h.sv,λq x f e=>by
  by_cases b:q=j
  .subst b
   exact hx x e
  .exact h.dn q x M_ e⟩
def UFM.best(l:F.OK)(h:UFM F fw fr c0 W r rv g T a qf ns Dv lv j n d V r' rv' g' T'){m:Nat}{kv:Ax}{x:PF}(hm:m<=301)(hk:IfV kv)(s:svD F V (λy=>¬TSS (uT F) (uL F) rv' r' y) (UD F a) (UA a) m kv)(hx:fr[j]?=some x)(hc:dy F fw T' x m)(b:Aq)(hb:btr m n=b):UFM F fw fr c0 W r rv g T a qf ns Dv lv (j+1) (if b=true then m else n) (if b=true then kv else d) ((V.setCell ⟨qf,0,none⟩ (Z_ ((if b=true then m else n:Nat):Int))).setCell ⟨qf,1,none⟩ (if b=true then kv else d)) r' rv' g' T':=by
 subst hb;have f:=J_ V qf 0 1 (Z_ ((if btr m n=true then m else n:Nat):Int)) (if btr m n=true then kv else d);have k:=h.B.put (vH l) h.bf.1 h.ge h.nl f;obtain⟨l1,l2⟩:=XR (n:=n) (m:=m);refine⟨k,h.len,⟨?_,h.bf.2⟩,h.ge,h.nl,by split;exact hm;exact h.n3,by split;exact hk;exact h.d1,?_,λq y k e=>?_⟩
 .have:=(h.bf.1.set 0 (Z_ ((if btr m n=true then m else n:Nat):Int))).set 1 (if btr m n=true then kv else d);simpa using this
 .refine svD.put ?_ h.bf.1 D_ D_ f;split
  .exact s
  .exact h.sv
 .by_cases o:q=j
  .subst o;rw[hx]at e;cases e;have:=hc.ls l2 [];rwa[bg_]at this
  .have:=(h.dn q y M_ e).ls l1 [];rwa[bg_]at this
end
structure UCM(F:FD)(fw:An)(a:Es)(x:PF)(ks:Ao)(Dk:Ai)(v:Ax)(V:Aw)(r':By)(rv':Ax)(T':Ah):Prop where
 row:kR V v ks Dk
 len:ks.length=fw.length
 iv:∀j,IfV (Dk j)
 le:∀k∈ks,k<=301
 cl:dy F fw T' x (jnN ks)
 sv:∀V1 kv,Fr V V1 N_->(jnN ks=0\/jnN ks=301->kv=.nilIface)->(1<=jnN ks->jnN ks<=300->RcR (V.heap.size+2) ks.length Dk kv V1)->svD F V1 (λy=>¬TSS (uT F) (uL F) rv' r' y) (UD F a) (UA a) (jnN ks) kv
def Qv{ns:Ao}{Dv:Ai}{n:Nat}{d:Ax}(hi:i<ns.length):((((List.range ns.length).flatMap λj=>[Value.int .i64 ((ns.getD j 0:Nat):Int),Dv j]).set (i*2) (I_ n)).set (i*2+1) d)=(List.range (ns.set i n).length).flatMap λj=>[Value.int .i64 (((ns.set i n).getD j 0:Nat):Int),(λj=>if j=i then d else Dv j) j]:=by
 have hl:∀(N:Nat) (f:Nat->List Value),(∀j,(f j).length=2)->((List.range N).flatMap f).length=N*2:=λN f hf=>by
  induction N with
  |zero=>rfl
  |succ N ih=>rw[bv_,bb_,ag_,ih];simp[hf];omega
 have gt:∀(N:Nat) (f:Nat->List Value),(∀j,(f j).length=2)->∀q p,q<N->p<2->((List.range N).flatMap f)[q*2+p]?=(f q)[p]?:=λN f hf q p b hp=>gY (l:=List.range N) (λx _=>hf x) (ce_ b) hp;apply List.ext_getElem?;intro k;rw[br_];by_cases hk:k<ns.length*2
 .obtain⟨q,p,hp,rfl⟩:∃q p,p<2/\k=q*2+p:=⟨k / 2,k % 2,M_,M_⟩;have b:q<ns.length:=M_;rw[gt _ _ (λ_=>rfl) q p b hp];have hb:((List.range ns.length).flatMap λj=>[Value.int .i64 ((ns.getD j 0:Nat):Int),Dv j])[q*2+p]?=([Value.int .i64 ((ns.getD q 0:Nat):Int),Dv q])[p]?:=gt _ _ (λ_=>rfl) q p b hp;have e:=hl ns.length (λj=>[Value.int .i64 ((ns.getD j 0:Nat):Int),Dv j]) (λ_=>rfl);by_cases h:q=i
  .subst h;rcases(by omega:p=0\/p=1) with rfl|rfl
   .rw[bz_ M_,bp_,cj_ (by rw[e];omega)];simp[as_,b]
   .rw[cj_ (by rw[br_,e];omega)];simp
  .rw[bz_ M_,bz_ M_,hb];have:(ns.set i n).getD q 0=ns.getD q 0:=by rw[as_,as_,bz_ M_]
   rw[this];simp[h]
 .rw[bm_ (by rw[br_,br_,hl _ _ (λ_=>rfl)];omega),bm_ (by rw[hl _ _ (λ_=>rfl)];omega)]
section
variable {F:FD} {fw fr:An} {c0:Ay} {W V:Aw} {r r':By} {rv rv':Ax} {g g':Aq} {T T':Ah} {qf c p p':Nat} {y:PT} {ns:Ao} {Dv:Ai} {lv:Ax} {j n:Nat} {d v:Ax} {x:PF}
def QC(l:F.OK)(h:UFM F fw fr c0 W r rv g T (.leaf c p,y) qf ns Dv lv j n d V r' rv' g' T')(hv:Via (zx F.ds) (zx F.ds') (.leaf c p) y (.leaf c p'))(hb:zi c=false)(b:zx F.ds c=some (.recd fw))(o:zx F.ds' c=some (.recd fr))(hx:fr[j]?=some x)(hi:vV fw x.letter=none)(hd:x.dflt=none)(row:kR V v ns Dv):UCM F fw (.leaf c p,y) x ns Dv v V r' rv' T':=by
 refine⟨row,h.len,h.B.iv,h.B.le,⟨λi s e=>zm_,λ_ _=>⟨ns,h.len,λq f k e e'=>(h.B.kn q k f e' e).1,.refl _⟩⟩,λV1 kv hf h0 h1=>?_⟩;refine svD.recd (F:=F) (V:=V) (J:=λy=>¬TSS (uT F) (uL F) rv' r' y) (Dj:=λj d=>∀f,fw[j]?=some f->Dat (zx F.ds) d f.ty) (B:=V.heap.size+2) h.len (λq k f e e'=>?_) (λds hl m=>?_) (λu hu=>⟨c,p,hu,b⟩) (λz t u hz=>hz.fr hf u_) (λz hz s e=>o1_ ((h.B.ti.li (vH l) e).2)) h0 h1
 .have:=(h.B.kn q k f e e').2;exact⟨this.1,λl=>by
   obtain⟨z,s,A,D⟩:=this.2 l
   exact⟨z,⟨λf' l=>by rw[e']at l;cases l;exact s.1 _ rfl,s.2⟩,A,D⟩⟩
 .refine Un.lack hv hb b o (.recd b hb hl (λi z t e e'=>?_)) (ai_ hx) hi hd;rw[ax_]at e';cases b:fw[i]? with
  |none=>rw[b]at e';cases e'
  |some f=>rw[b]at e';cases e';exact m i z e f b
def Va(K:F.OK){E:PF}{z:Rw (PT×PT)}(h:UFM F fw fr c0 W r rv g T (.leaf c p,y) qf ns Dv lv j n d V r' rv' g' T')(hv:Via (zx F.ds) (zx F.ds') (.leaf c p) y (.leaf c p'))(hb:zi c=false)(D:zx F.ds c=some (.recd fw))(M:zx F.ds' c=some (.recd fr))(hx:fr[j]?=some x)(hi:vV fw x.letter=some i)(o:fw[i]?=some E)(hz:z∈T')(H:z.a=(E.ty,x.ty))(row:kR V v (ns.set i z.n) (λj=>if j=i then z.d else Dv j)):UCM F fw (.leaf c p,y) x (ns.set i z.n) (λj=>if j=i then z.d else Dv j) v V r' rv' T':=by
 have Q:=(ak_.1 o).1;have Q:=h.len;have q:=(h.B.ti.t.q z hz).2.2;have sv:=(h.B.ti.v z hz).1;rw[H]at sv;have s:∀(q k:Nat),(ns.set i z.n)[q]?=some k->(q=i/\k=z.n)\/(q≠i/\ns[q]?=some k):=λq k e=>by
  by_cases l:q=i
  .subst l;rw[cj_ M_]at e;cases e;exact .inl ⟨rfl,rfl⟩
  .rw[bz_ M_]at e;exact .inr ⟨l,e⟩
 refine⟨row,by rw[br_];exact h.len,λb=>?_,λk hk=>?_,⟨λQ Q e e'=>?_,λe=>zm_⟩,λV1 kv hf h0 h1=>?_⟩
 .show IfV (if b=i then z.d else Dv b);split
  .exact q.2
  .exact h.B.iv b
 .obtain⟨b,m⟩:=bw_ hk;rcases s b k m with⟨_,rfl⟩|⟨_,e⟩
  .exact q.1
  .exact h.B.le k (ai_ e)
 .rw[hi]at e;cases e;rw[o]at e';cases e';refine⟨_,by rw[br_];exact h.len,λb f k e e'=>?_,.refl _⟩;rcases s b k e' with⟨rfl,rfl⟩|⟨l,A⟩
  .rw[i_ rfl];exact⟨z,hz,H,rfl⟩
  .rw[n_ l];exact(h.B.kn b k f A e).1
 .refine svD.recd (F:=F) (V:=V) (J:=λy=>¬TSS (uT F) (uL F) rv' r' y) (Dj:=λq d=>if q=i then Un (zx F.ds) (zx F.ds') E.ty x.ty d else ∀f,fw[q]?=some f->Dat (zx F.ds) d f.ty) (B:=V.heap.size+2) (by rw[br_];exact h.len) (λb k f e e'=>?_) (λds hl G=>?_) (λu hu=>⟨c,p,hu,D⟩) (λz t u hz=>hz.fr hf u_) (λz hz E e=>o1_ ((h.B.ti.li (vH K) e).2)) h0 h1
  .rcases s b k e with⟨rfl,rfl⟩|⟨l,A⟩
   .rw[o]at e';cases e';simp only[if_true];exact sv
   .simp only[l,if_false];have:=(h.B.kn b k f A e').2;exact⟨this.1,λs=>by
     obtain⟨z,A,N,O⟩:=this.2 s
     exact⟨z,⟨λf' s=>by rw[e']at s;cases s;exact A.1 _ rfl,A.2⟩,N,O⟩⟩
  .have s:i<ds.length:=M_;have A:=G i _ (aj_ s);rw[i_ rfl]at A;refine Un.field hv hb D M (.recd D hb hl (λb z t e e'=>?_)) (ai_ hx) hi o (aj_ s) A;rw[ax_]at e';have m:=G b z e;by_cases l:b=i
   .subst l;rw[o]at e';cases e';rw[i_ rfl]at m;exact m.dat
   .rw[n_ l]at m;cases l:fw[b]? with
    |none=>rw[l]at e';cases e'
    |some f=>rw[l]at e';cases e';exact m f l
end
end Go.Proofs.YtokgeopihcopeaaGreatDoor
