import Derived.Test.YtahhhgbojlkjnaaGreatDoorW17
set_option maxHeartbeats 16000000
set_option maxRecDepth 100000
set_option linter.defProp false
set_option linter.unusedSimpArgs false
open Go.Proofs.Tryz
namespace Go.Proofs.YtahhhgbojlkjnaaGreatDoor
open Go.RowKit
variable {f fc:Nat}{vT:As}{vx:Ax}{fa:Ao}
def iZ(w:Aw)(sv rv:Ax)(s:BA)(pl:Ap)(br i d:Nat)(e:Ah)(w':Aw):Prop:=
 ∃tx b,e=.returned (.tuple #[.string tx,.bool b])/\Fr w w' (· = br)/\
  ((bt s i=d/\bt s (zX s (i+1))=d/\b=true/\tx=s.extract (i+1) (zX s (i+1))/\yf w' br sv rv s (zX s (i+1)+1) (!pl)/\zX s (i+1)+1<=s.size)\/
   (¬(bt s i=d/\bt s (zX s (i+1))=d)/\b=false/\∃j,yf w' br sv rv s j (!pl)/\j<=s.size))
def cwbi1_{p:Prop}(h:p:=by
 (first|(have:=cc1)|(have hlt2:e1+1<=s.size:=zr (s:=s) (i:=e1) M_));have hbb:=zy hb2;replace hb:=zy hb;replace he1:=zy he1;go_in;go_wp2_with (first
  |(go_at_call 166;apply(xy d M.o.R hs4 hil rfl hd0 hb.o).mono;rintro e w2 ⟨rfl,hf2,h2⟩;have F1:=zy (F.o.trans hf2 u_);clear F M;replace h2:=zy h2;clear hf2)
  |(go_at_call 189;apply(wK h2.o hs4 hlt).mono;rintro e w3 ⟨rfl,hf3,h3⟩;rw[show zU 97 122 s (i+1)=e1 from he1.o]at h3⊢;have F2:=zy (F1.o.trans hf3 u_);replace h3:=zy h3;clear hf3)
  |(go_at_call 166;(first|(have:=cc1;apply(xF d h3.o hs4 hle.2 rfl hd0 hbb.o).mono)|(apply(xy d h3.o hs4 hle.2 rfl hd0 hbb.o).mono));rintro e w4 ⟨rfl,hf4,h4⟩;have F3:=zy (F2.o.trans hf4 u_);replace h4:=zy h4;clear hf4))
 try go_ret
 rw[Q_.o];(first|(have:=cc1;refine⟨_,false,rfl,F3.o,.inr ⟨λh=>?_,rfl,e1,h4.o,hle.2⟩⟩)|(refine⟨_,true,rfl,F3.o,.inl ?_⟩));(first|(have:=cc1;rw[he1.o]at h)|(rw[he1.o]));(first|(have:=cc1;exact hbb.o h.2)|(exact⟨hb.o,hbb.o,rfl,rfl,h4.o,hlt2⟩))):p:=h
def bi{w0 w:Aw}{P:Au}{ss:BA}{ds:Ar}{sv rv:Ax}{xs:Az}{s:BA}{nt:As}{nx:Ax}{pl:Ap}{br i:Nat}{c:Int}(d:Nat)(M:NC w0 P ss ds sv rv xs s nt nx pl br i w)(hd:c=(d:Int))(hd0:0<d):Calls prog 185 #[P_ br,.int .u8 c] w (iZ w sv rv s pl br i d):=by
 subst hd;refine hq_ λb Q_=>?_;have hs4:s.size<=4000:=ya_
 have hil:=M.il;have F:=zy (A_ w (λg=>g=br));replace M:=zy M;by_cases hb:bt s i=d
 .have hlt:i+1<=s.size:=zr (s:=s) (i:=i) M_;have hle:=uP hlt;obtain⟨e1,he1⟩:=x_ (zX s (i+1));rw[he1]at hle;by_cases hb2:bt s e1=d
  .exact cwbi1_
  .have cc1:=Nat;exact cwbi1_
 .have a:=zy hb;go_in;go_wp2_with (go_at_call 166;apply(xF d M.o.R hs4 hil rfl hd0 a).mono;rintro e w2 ⟨rfl,hf2,h2⟩;have F1:=zy (F.o.trans hf2 u_);replace h2:=zy h2);try go_ret
  rw[Q_.o];exact⟨_,false,rfl,F1,.inr ⟨λh=>a.o h.1,rfl,i,h2,hil⟩⟩
def nB(s:BA)(i:Nat):Option (DT×Nat):=if bt s i=34/\bt s (zX s (i+1))=34 then some (.mk 115 0 (s.extract (i+1) (zX s (i+1))) [] [],zX s (i+1)+1) else none
def cweM1_{p:Prop}(h:p:=by
 (first|(have:=cc1;have hr:=zy (show lO s n i=none by unfold lO;rw[n_ (λh=>hb ⟨h.1,h.2.2⟩)]))|(have hr:=zy (show nB s i=none by unfold nB;rw[n_ hb])));replace hb:=zy hb;(try have:=cc1;clear M);go_in;go_wp2_with (go_at_call 185;apply hC.o.mono;rintro e w2 ⟨tx,b,rfl,hf2,hm⟩;obtain⟨rfl,j,h2,hj⟩:b=false/\∃j,yf w2 br sv rv s j (!pl)/\j<=s.size:=xz_;(first|(have:=cc1;have e0:=(M0.o.call h2 hf2 hj).e)|(have a:=M.o.call h2 hf2 hj;have e0:=a.e));replace hf2:=zy hf2;replace h2:=zy h2;(first|(have:=cc1;clear hm)|(clear hm a)));go_quiet (fail);go_wp2;try go_ret
 rw[Q_.o,hr.o];(first|(have:=cc1;exact eC ((F0.o.trans hf2.o u_).si (zw.drewN _ _)) (h2.o.si (zw.drewN _ _)) hj)|(exact eC (hf2.o.si (zw.drewN _ _)) (h2.o.si (zw.drewN _ _)) hj))):p:=h
def eM{w0 w:Aw}{t:PT}{P:Au}{ss:BA}{ds:Ar}{sv rv:Ax}{xs:Az}{s:BA}{nt:As}{nx:Ax}{pl:Ap}{br i:Nat}(M:NC w0 P ss ds sv rv xs s nt nx pl br i w):Calls prog 169 #[P_ br] w (yp (zx ds) t w sv rv s nt nx pl br (nB s i)):=by
 refine hq_ λa Q_=>?_;have hC:=zy (bi (c:=34) 34 M rfl D_);have a:=M.hs;replace M:=zy M;by_cases hb:bt s i=34/\bt s (zX s (i+1))=34
 .have hr:=zy (show nB s i=some (.mk 115 0 (s.extract (i+1) (zX s (i+1))) [] [],zX s (i+1)+1) by unfold nB;rw[i_ hb]);replace hb:=zy hb;go_in;go_wp2_with (go_at_call 185;apply hC.o.mono;rintro e w2 ⟨tx,b,rfl,hf2,hm⟩;obtain⟨rfl,rfl,h2,hj⟩:b=true/\tx=s.extract (i+1) (zX s (i+1))/\yf w2 br sv rv s (zX s (i+1)+1) (!pl)/\zX s (i+1)+1<=s.size:=(by rcases hm with⟨_,_,q1,a,q2,q3⟩|⟨q,_⟩;(exact⟨q1,a,q2,q3⟩);exact absurd hb.o q);replace hf2:=zy hf2;replace h2:=zy h2;replace hj:=zy hj);try go_ret
  rw[Q_.o,hr.o];exact nok (J_ (.text _ y6_) D_) hf2 h2 hj
 .exact cweM1_
def lO(s:BA)(n i:Nat):Option (DT×Nat):=if bt s i=39/\zX s (i+1)-(i+1)=n/\bt s (zX s (i+1))=39 then some (.mk 102 0 (s.extract (i+1) (zX s (i+1))) [] [],zX s (i+1)+1) else none
def oA{w0 w:Aw}{t:PT}{P:Au}{ss:BA}{ds:Ar}{sv rv:Ax}{xs:Az}{s:BA}{nt:As}{nx:Ax}{pl:Ap}{br i:Nat}{p:Int}{n:Nat}(M:NC w0 P ss ds sv rv xs s nt nx pl br i w):Calls prog 175 #[P_ br,.agg #[Z_ p,I_ n]] w (yp (zx ds) t w sv rv s nt nx pl br (lO s n i)):=by
 refine hq_ λk Q_=>?_;have k:Fr w (w.alloc (.cells #[Z_ p,I_ n] 218)) N_:=(A_ w _).alloc _;have M0:=M.new k;have B:=M.lt;have B:=M.hs;have hC:=zy (bi (c:=39) 39 M0 rfl D_);have d:=B_ w #[Z_ p,I_ n] 218;have F0:=zy (k.mono (T:=λg=>g=br) v_);replace M0:=zy M0;replace d:=zy d;by_cases hb:bt s i=39/\bt s (zX s (i+1))=39
 .have k:i+1<=s.size:=zr (s:=s) (i:=i) M_;have y:=uP k;have u:(s.extract (i+1) (zX s (i+1))).size=zX s (i+1)-(i+1):=y6_
  replace hb:=zy hb;have m:H_ (∀e w2,iZ (w.alloc (.cells #[Z_ p,I_ n] 218)) sv rv s pl br i 39 e w2->∃tx,e=.returned (.tuple #[.string tx,.bool true])/\tx=s.extract (i+1) (zX s (i+1))/\(tx.size:Int)=((zX s (i+1)-(i+1):Nat):Int)/\Fr (w.alloc (.cells #[Z_ p,I_ n] 218)) w2 (· = br)/\yf w2 br sv rv s (zX s (i+1)+1) (!pl)/\zX s (i+1)+1<=s.size):=zy (by
   rintro e w2 ⟨tx,b,rfl,hf2,hm⟩
   rcases hm with⟨_,_,rfl,rfl,q2,q3⟩|⟨q,_⟩
   .exact⟨_,rfl,rfl,by rw[u],hf2,q2,q3⟩
   .exact absurd hb.o q)
  by_cases hn:zX s (i+1)-(i+1)=n
  .have hr:=zy (show lO s n i=some (.mk 102 0 (s.extract (i+1) (zX s (i+1))) [] [],zX s (i+1)+1) by unfold lO;rw[i_ ⟨hb.o.1,hn,hb.o.2⟩]);rw[hn]at m;go_in;go_wp2_with (go_at_call 185;apply hC.o.mono;intro e w2 hB;obtain⟨tx,rfl,a,x,hf2,h2,hj⟩:=m.o e w2 hB;replace a:=zy a;have A:=(hf2.bl d M_).c1;revert hf2 h2 hj;refine h_ λhf2 h2 hj=>?_);try go_ret
   rw[Q_.o,hr.o];exact nok (by rw[<- a.o];exact J_ (.bytes _ (by rw[a.o,a3_];omega)) D_) (F0.o.trans hf2 u_) h2 hj
  .have hr:=zy (show lO s n i=none by unfold lO;rw[n_ (λh=>hn h.2.1)]);have r:∀z:Int,z=((zX s (i+1)-(i+1):Nat):Int)->(z != (n:Int))=true:=λz hz=>by rw[hz];simp;omega
   replace r:=zy r;go_in;go_wp2_with (go_at_call 185;apply hC.o.mono;intro e w2 hB;obtain⟨tx,rfl,a,x,hf2,h2,hj⟩:=m.o e w2 hB;have a:=r.o _ x;have A:=(hf2.bl d M_).c1;have e0:=(M0.o.call h2 hf2 hj).e;revert hf2 h2 hj;refine h_ λhf2 h2 hj=>?_);go_quiet (fail);go_wp2;try go_ret
   rw[Q_.o,hr.o];exact eC ((F0.o.trans hf2 u_).si (zw.drewN _ _)) (h2.o.si (zw.drewN _ _)) hj
 .have cc1:=Nat;exact cweM1_
def cQ:∀(l:List Nat) (q b:Nat),l[q]?=some b->b∉l.take q->l.findIdx? (λc=>c==b)=some q
 | [],q,b,h,_=>by simp at h
 |a::r,0,b,h,_=>by
  simp only[aa_,ae_]at h;simp[List.findIdx?_cons,h]
 |a::r,q+1,b,h,hn=>by
  simp only[ab_]at h;simp only[List.take_succ_cons,aq_,not_or]at hn;rw[List.findIdx?_cons,n_ (by simp;omega),cQ r q b h hn.2];rfl
def fK{l:Ai}{b:Nat}(h:b∉l):l.findIdx? (λc=>c==b)=none:=by
 rw[List.findIdx?_eq_none_iff];intro x hx;exact beq_eq_false_iff_ne.2 (λe=>h (e▸hx))
def iy(s:BA)(l:Av)(i:Nat):Option (DT×Nat):=
 match (l.map Prod.fst).findIdx? (λc=>c==bt s i) with|none=>none|some q=>some (.mk 101 q noB [] [],i+1)
def eP{w0 w:Aw}{t:PT}{P:Au}{ss:BA}{ds:Ar}{sv rv:Ax}{xs:Az}{s:BA}{nt:As}{nx:Ax}{pl:Ap}{br i:Nat}{p:Int}{lv u:Ax}{l:Av}(M:NC w0 P ss ds sv rv xs s nt nx pl br i w)(a3:∀n,fI (zx ds) t n=(l.map Prod.fst).getD n 0)(ho:w.ownsRow 0 182 2 lv l.length (yu l))(E:∀g,lv.ownBlock=some g->P g)(hl:l.length<=300)(a2:∀q∈l,zt q.1=true):Calls prog 174 #[P_ br,.agg #[Z_ p,lv,u]] w (yp (zx ds) t w sv rv s nt nx pl br (iy s l i)):=by
 refine hq_ λa4 J=>?_;obtain⟨H,I,rfl⟩:=zh ho;have O:s.size<=4000:=ya_
 have A:=M.il;have a6:=M.lt;have T:=M.brP;have B:Fr w (w.alloc (.cells #[Z_ p,.slice H l.length I,u] 215)) N_:=(A_ w _).alloc _;have S:H_ (∃q:Nat,Value.int .i64 0=I_ q/\q<=l.length/\l.length+1-q<=l.length+1/\Fr w (w.alloc (.cells #[Z_ p,.slice H l.length I,u] 215)) (λg=>g=br)/\yf (w.alloc (.cells #[Z_ p,.slice H l.length I,u] 215)) br sv rv s i (!pl)/\bt s i∉(l.take q).map Prod.fst):=zy ⟨0,rfl,aj_ _,M_,B.mono v_,B.bl M.R id,by simp⟩;replace M:=zy M;replace ho:=zy ho;replace E:=zy E;clear B;go_in;go_wp2;go_loopg [6,11] (l.length+1) (λm v6 v W=>∃q:Nat,v=I_ q/\q<=l.length/\l.length+1-q<=m/\Fr w W (λg=>g=br)/\yf W br sv rv s i (!pl)/\bt s i∉(l.take q).map Prod.fst);case atStart=>exact S
 case round=>
  clear S;obtain⟨q,rfl,hq,hm,a,r,he⟩:=hrel;have a7:=a.size;by_cases D:q<l.length
  .have Y:(q:Int)<(l.length:Int):=M_;have hd:l[q]?=some l[q]:=ak_ D;have N:l[q]∈l:=a9_ D;generalize l[q]=f at hd N;obtain⟨c,Q⟩:=f;obtain⟨k,hk,X⟩:=wa (a2 _ N);have K:0<c:=by have:c=97+k:=hk;omega
   clear hk X;obtain⟨g,a5,V⟩:=zu ho M_;cases V;have a0:¬g=br:=λe=>T (e▸E.o g rfl);have F:=zk ho a (λg' e=>by simp only[Value.ownBlock,ae_]at e;subst e;exact a0);have c0:=ze F rfl (xW hd).1;have c1:=ze F rfl (xW hd).2;have G:=iP hd;have x:=(A_ wr N_).alloc (.cells #[I_ Q,U_ c] 182);have y:=B_ wr #[I_ Q,U_ c] 182;have z:=x.bl r id;have L:=zy (a.trans x v_);clear F;by_cases hb:bt s i=c
   .have C:=zy (xy c (show yf _ br sv rv s i (!pl) from z) O A rfl K hb);have Z:i+1<=s.size:=zr (s:=s) (i:=i) M_;have hr:=zy (show iy s l i=some (.mk 101 (q:Int) noB [] [],i+1) by unfold iy;rw[cQ _ q (bt s i) (by rw[a1_,hd,hb];rfl) yx_]);have a1:=zy (show fI (zx ds) t q=c/\c<256 from⟨by rw[a3,az_,a1_,hd];rfl,by have:=qD s i;omega⟩);replace y:=zy y;clear z r a x he G hb;go_wp2_with (go_at_call 166;apply C.o.mono;rintro e w2 ⟨rfl,b,d⟩;have n1:=(b.bl y M_).c1;replace b:=zy b;replace d:=zy d);try go_ret
    rw[J.o,hr.o];exact nok (.flat (.sym q c M_) (λn l' e=>by cases e;exact a1)) (L.o.trans b u_) d Z
   .have C:=zy (xF c (show yf _ br sv rv s i (!pl) from z) O A rfl K hb);have U:=zy (show bt s i∉(l.take (q+1)).map Prod.fst by rw[G,bn_,ba_];rintro(h|h);exact he h;exact hb h);clear z r a x he G hb y;go_wp2_with (go_at_call 166;apply C.o.mono;rintro e w2 ⟨rfl,b,d⟩;replace b:=zy b;replace d:=zy d);go_roundg (l.length+1-(q+1));case measure=>omega
    case rel=>exact⟨q+1,rfl,D,l_,L.o.trans b u_,d,U⟩
  .have Y:¬((q:Int)<(l.length:Int)):=M_;rw[a6_ M_]at he;have hr:=zy (show iy s l i=none by unfold iy;rw[fK he]);have Z:=(M.o.call r a A).e;replace a:=zy a;replace r:=zy r;clear he;go_wp2;go_quiet (fail);go_wp2;try go_ret
   rw[J.o,hr.o];exact eC (a.o.si (zw.drewN _ _)) (r.o.si (zw.drewN _ _)) A
def jw{St:Type}(step:St->Nat->Option (St×Nat))(s:BA)(fin:Nat):Nat->St->Nat->Option (St×Nat)
 | 0,_,_=>none
 |n+1,σ,j=>
  match step σ j with
  |none=>none
  |some (σ',j')=>if bt s j'=fin then some (σ',j'+1) else if bt s j'=44 then jw step s fin n σ' (j'+1) else none
def jX{St:Type}(step:St->Nat->Option (St×Nat))(s:BA)(op fin:Nat)(σ:St)(i:Nat):Option (St×Nat):=
 if bt s i=op then (if bt s (i+1)=fin then some (σ,i+2) else jw step s fin (s.size+2) σ (i+1)) else none
structure ie{St:Type}(sv rv:Ax)(s:BA)(nt:As)(nx:Ax)(pl:Ap)(br fid:Nat)(caps:Ci)(step:St->Nat->Option (St×Nat))(Inv:St->Nat->World->Prop)(Bad:Du):Prop where
 F:∀W:World,(callFunc fid caps).run prog W=.ok (.enter fid caps) W
 R:∀{σ j W},Inv σ j W->yf W br sv rv s j (!pl)/\j<=s.size/\W.cell? ⟨3,0,none⟩=some (.iface nt nx)
 K:∀{σ j j' W W'},Inv σ j W->yf W' br sv rv s j' (!pl)->Fr W W' (· = br)->j'<=s.size->j<=j'->Inv σ j' W'
 B:∀{σ j W},Inv σ j W->Bad (.iface nt nx) W
 C:∀{σ j W},Inv σ j W->Calls prog fid caps W λe W'=>∃v,e=.returned v/\match step σ j with|some (σ',j')=>v=.nilIface/\j<j'/\Inv σ' j' W'|none=>(∃T x,v=.iface T x)/\Bad v W'
def nu{St:Type}(Inv:St->Nat->World->Prop)(Bad:Du)(res:Option (St×Nat))(e:Ah)(w':Aw):Prop:=
 ∃v,e=.returned v/\match res with|some (σ,j)=>v=.nilIface/\Inv σ j w'|none=>(∃T x,v=.iface T x)/\Bad v w'
def pv{St:Type}{sv rv:Ax}{s:BA}{nt:As}{nx:Ax}{pl:Ap}{br fid:Nat}{caps:Ci}{step:St->Nat->Option (St×Nat)}{Inv:St->Nat->World->Prop}{Bad:Du}(I:ie sv rv s nt nx pl br fid caps step Inv Bad){w:Aw}{σ:St}{i:Nat}{co cf:Int}(r a:Nat)(z:yf w br sv rv s i (!pl))(a5:i<=s.size)(T:∀W',yf W' br sv rv s (i+1) (!pl)->Fr w W' (· = br)->i+1<=s.size->Inv σ (i+1) W')(a0:∀W',yf W' br sv rv s i (!pl)->Fr w W' (· = br)->Bad (.iface nt nx) W'/\W'.cell? ⟨3,0,none⟩=some (.iface nt nx))(x:s.size<=4000)(a8:co=(r:Int))(a4:cf=(a:Int))(a7:0<r)(U:0<a):Calls prog 186 #[P_ br,.int .u8 co,.int .u8 cf,.func (.func fid) #[] caps] w (nu Inv Bad (jX step s r a σ i)):=by
 subst a8;subst a4;refine hq_ λa9 O=>?_;by_cases G:bt s i=r;case neg=>
  have hr:=zy (show jX step s r a σ i=none by unfold jX;rw[n_ G]);have M:=zy (xF r z x a5 rfl a7 G);replace a0:=zy a0;clear z G T;go_in;go_wp2_with (go_at_call 166;apply M.o.mono;rintro e d ⟨rfl,D,c⟩;obtain⟨B2,e2⟩:=a0.o d c D;replace B2:=zy B2;clear D c);try go_ret
  rw[O.o,hr.o];exact⟨_,rfl,⟨_,_,rfl⟩,B2.o⟩
 case pos=>
 have Y:i+1<=s.size:=zr (s:=s) (i:=i) M_;have M:=zy (xy r z x a5 rfl a7 G);replace T:=zy T;replace I:=zy I;clear a0;by_cases N:bt s (i+1)=a;case pos=>
  have Z:i+1+1<=s.size:=zr (s:=s) (i:=i+1) M_;have hr:=zy (show jX step s r a σ i=some (σ,i+2) by unfold jX;rw[i_ G,i_ N]);have a2:H_ (∀d,yf d br sv rv s (i+1) (!pl)->_):=zy (λd c=>xy (w:=d) a c x Y rfl U N);clear z G N;go_in;go_wp2_with (first
   |(go_at_call 166;apply M.o.mono;rintro e d ⟨rfl,D,c⟩;have I2:=zy (T.o d c D Y);clear D M;replace c:=zy c)
   |(go_at_call 166;apply(a2.o d c.o).mono;rintro e w3 ⟨rfl,V,Q⟩;have I3:=zy (I.o.K I2.o Q V Z M_);clear V Q))
  try go_ret
  rw[O.o,hr.o];exact⟨_,rfl,rfl,I3.o⟩
 case neg=>
  have hr:=zy (show jX step s r a σ i=jw step s a (s.size+2) σ (i+1) by unfold jX;rw[i_ G,n_ N]);have a2:H_ (∀d,yf d br sv rv s (i+1) (!pl)->_):=zy (λd c=>xF (w:=d) a c x Y rfl U N);clear z G N;go_in;go_wp2_with (first
   |(go_at_call 166;apply M.o.mono;rintro e d ⟨rfl,D,c⟩;have I2:=zy (T.o d c D Y);clear D M;replace c:=zy c)
   |(go_at_call 166;apply(a2.o d c.o).mono;rintro e w3 ⟨rfl,V,Q⟩;have I3:=I.o.K I2.o Q V Y l_;have c:=zy (⟨s.size+2,σ,i+1,I3,M_,M_,hr.o⟩:∃n σ' j,Inv σ' j w3/\s.size+1-j<=s.size+1/\s.size+1-j<=n/\jX step s r a σ i=jw step s a n σ' j);clear I3 V Q I2 hr))
  go_loopg [] (s.size+1) (λm W=>∃n σ' j,Inv σ' j W/\s.size+1-j<=m/\s.size+1-j<=n/\jX step s r a σ i=jw step s a n σ' j);case atStart=>exact c.o
  case round=>
   clear c;have a4:=I.o.F;obtain⟨n,σ1,j,hI,hm,hn,hr⟩:=hrel;obtain⟨z,c,hE⟩:=I.o.R hI;have g:=I.o.C hI;obtain⟨n',rfl⟩:∃n',n=n'+1:=⟨n-1,M_⟩;rw[jw]at hr;cases a1:step σ1 j with
   |none=>
    rw[a1]at hr g;replace hr:=zy hr;replace g:=zy g;clear z hE hI a1;go_wp2_with (apply g.o.mono;rintro e w5 ⟨v5,rfl,⟨vT,vx,rfl⟩,hB⟩;replace hB:=zy hB;clear g);try go_ret
    rw[O.o,hr.o];exact⟨_,rfl,⟨_,_,rfl⟩,hB.o⟩
   |some q=>
    obtain⟨σ2,H⟩:=q;rw[a1]at hr g;simp only at hr;replace g:=zy g;clear z hE hI a1;by_cases k:bt s H=a
    .rw[i_ k]at hr;replace hr:=zy hr;have Z:H+1<=s.size:=zr (s:=s) (i:=H) M_;replace k:=zy k;go_wp2_with (first
      |(apply g.o.mono;rintro e w5 ⟨v5,rfl,rfl,a6,b⟩;have J:=zy ((I.o.R b).1);have u:=(I.o.R b).2.1;replace b:=zy b;clear g)
      |(go_at_call 166;apply(xy a J.o x u rfl U k.o).mono;rintro e w6 ⟨rfl,E,y⟩;have h:=zy (I.o.K b.o y E Z M_);clear E y))
     try go_ret
     rw[O.o,hr.o];exact⟨_,rfl,rfl,h.o⟩
    .rw[n_ k]at hr;by_cases A:bt s H=44
     .rw[i_ A]at hr;replace hr:=zy hr;have Z:H+1<=s.size:=zr (s:=s) (i:=H) M_;replace k:=zy k;replace A:=zy A;go_wp2_with (first
       |(apply g.o.mono;rintro e w5 ⟨v5,rfl,rfl,a6,b⟩;have J:=zy ((I.o.R b).1);have u:=(I.o.R b).2.1;replace b:=zy b;clear g)
       |(go_at_call 166;apply(xF a J.o x u rfl U k.o).mono;rintro e w6 ⟨rfl,E,y⟩;have h:=I.o.K b.o y E u l_;have a3:=zy ((I.o.R h).1);replace h:=zy h;clear E y J)
       |(go_at_call 166;apply(xy 44 a3.o x u rfl D_ A.o).mono;rintro e w7 ⟨rfl,X,S⟩;have L:=zy (I.o.K h.o S X Z M_);clear X S))
      go_roundg (s.size+1-(H+1));case measure=>omega
      case rel=>exact⟨n',σ2,H+1,L.o,l_,M_,hr.o⟩
     .rw[n_ A]at hr;replace hr:=zy hr;replace k:=zy k;replace A:=zy A;go_wp2_with (first
       |(apply g.o.mono;rintro e w5 ⟨v5,rfl,rfl,a6,b⟩;have J:=zy ((I.o.R b).1);have u:=(I.o.R b).2.1;replace b:=zy b;clear g)
       |(go_at_call 166;apply(xF a J.o x u rfl U k.o).mono;rintro e w6 ⟨rfl,E,y⟩;have h:=I.o.K b.o y E u l_;have a3:=zy ((I.o.R h).1);replace h:=zy h;clear E y J)
       |(go_at_call 166;apply(xF 44 a3.o x u rfl D_ A.o).mono;rintro e w7 ⟨rfl,X,S⟩;have L:=I.o.K h.o S X u l_;have a:=(I.o.R L).2.2;replace L:=zy L;clear X S))
      try go_ret
      rw[O.o,hr.o];exact⟨_,rfl,⟨_,_,rfl⟩,I.o.B L.o⟩
def qu(w0:Aw)(P:Au)(ss:BA)(ds:Ar)(sv rv:Ax)(xs:Az)(s:BA)(nt:As)(nx:Ax)(pl:Ap)(br f:Nat)(t:PT)(j:Nat):Prop:=
 ∀(w:World) (v:Value),NC w0 P ss ds sv rv xs s nt nx pl br j w->TyV w P t v->
  Calls prog 154 #[P_ br,v] w (yp (zx ds) t w sv rv s nt nx pl br (rdT s (zx ds) pl f t j))
def wD(R:Al)(l:Ak)(j:Nat):Option (List DT×Nat):=(R j).map (λq=>(l++[q.1],q.2))
def Zw(R:Al)(s:BA)(a:Nat):∀n l j b,jw (wD R) s a n l j=(yZ R s a false n b j).map (λq=>(l++q.1.map Prod.snd,q.2)):=by
 intro n;induction n with
 |zero=>intro l j b;rfl
 |succ n ih=>
  intro l j b;rw[jw,yZ];simp only[kR,a2_,if_false,wD];cases R j with
  |none=>rfl
  |some q=>
   obtain⟨d,j'⟩:=q;simp only[a4_];split
   .rfl
   .split
    .rw[ih (l++[d]) (j'+1) (some noB)];cases yZ R s a false n (some noB) (j'+1) with
     |none=>rfl
     |some q=>simp
    .rfl
def XC(R:Al)(s:BA)(i:Nat):xO R s 91 i=(jX (wD R) s 91 93 [] i).map (λq=>(.mk 91 0 noB [] q.1,q.2)):=by
 unfold jX xO qc;by_cases h:bt s i=91
 .rw[i_ h,i_ h,show xl 91=93 from rfl,show((91:Nat)==123)=false from rfl];by_cases a:bt s (i+1)=93
  .rw[i_ a,i_ a];rfl
  .rw[n_ a,n_ a,Zw R s 93 _ [] (i+1) none];cases yZ R s 93 false (s.size+2) none (i+1) with
   |none=>rfl
   |some q=>simp
 .rw[n_ h,n_ h];rfl
structure LI(w0 w:Aw)(P:Au)(ss:BA)(ds:Ar)(sv rv:Ax)(xs:Az)(s:BA)(nt:As)(nx:Ax)(pl:Ap)(br i:Nat)(t:PT)(p:Int)(v:Ax)(l:Ak)(j:Nat)(W:Aw):Prop where
 M:NC w0 P ss ds sv rv xs s nt nx pl br j W
 fr:Fr w W (· = br)
 lt:br<w.heap.size
 hB:w.heap.size+3<=W.heap.size
 b2:Blk W w.heap.size [P_ br] 289
 b3:Blk W (w.heap.size+1) [Z_ p,v] 199
 ty:TyV W P t v
 c:i+l.length<j
 row:∃lv,Blk W (w.heap.size+2) [lv] 129/\jG (zx ds) W (w.heap.size+3) (λg=>w.heap.size+3<=g/\lv.ownBlock≠some g) (.wrap 91 0 t) lv l
section
variable {w0 w:Aw} {P:Au} {ss:BA} {ds:Ar} {sv rv:Ax} {xs:Az} {s:BA} {nt:As} {nx:Ax} {pl:Ap} {br i:Nat} {t:PT} {p:Int} {v:Ax} {l:Ak} {j j':Nat} {W W':Aw}
def LI.call(L:LI w0 w P ss ds sv rv xs s nt nx pl br i t p v l j W)(h:yf W' br sv rv s j' (!pl))(a:Fr W W' (· = br))(c:j'<=s.size)(hc:i+l.length<j'):LI w0 w P ss ds sv rv xs s nt nx pl br i t p v l j' W':=by
 have h1:=L.lt;obtain⟨lv,r1,b⟩:=L.row;obtain⟨ys,d⟩:=b.row;exact⟨L.M.call h a c,L.fr.trans a u_,L.lt,ai_ L.hB a.size,a.bl L.b2 M_,a.bl L.b3 M_,L.ty.fr a (λg hg e=>L.M.brP (e▸hg)),hc,lv,a.bl r1 M_,b.fr a (λg hg e=>M_) (λg hg e=>by have:=d.lt g hg;omega)⟩
end
def aC(w:Aw)(sv rv:Ax)(s:BA)(nt:As)(nx:Ax)(pl:Ap)(br:Nat)(ev:Ax)(W:Aw):Prop:=
 Fr w W (· = br)/\jp W w.heap.size nt nx ev/\∃j,yf W br sv rv s j (!pl)/\j<=s.size
def nJ:Tryz.prog.underlying 129=some (.slice 69):=K_
def kO:(Tryz.prog.info? 69).map (λi=>(i.zero,i.size,i.bytes))=some (some .nilIface,1,16):=K_
def cwoI1_{p:Prop}(h:p:=by
 obtain⟨d,H⟩:=q;(first|(have:=cc1;have T:=hgo _ d H hp)|(have T:=hgo d H hp));(first|(have:=cc1;have hst:=zy (show qx (rdT s (zx ds) pl f) fs ld j=some (ld++[d],H) by unfold qx;rw[hnn.o,hd];simp only;rw[hp];rfl))|(have hst:=zy (show wD (rdT s (zx ds) pl f t) l j=some (l++[d],H) by unfold wD;rw[hp];rfl)));replace hp:=zy hp;obtain⟨ti,N,O,Q,S⟩:=info_parts kO;(try have:=cc1;clear hgo);go_in;go_wp2_with (first
  |(go_at_call 154;apply hC.o.mono;rintro e w1 ⟨v1,ev1,rfl,hf1,hm⟩;rw[hp.o]at hm;obtain⟨rfl,B,h1,hj1⟩:=hm;obtain⟨z,dx,rfl⟩:=B.iface;(first|(have:=cc1;have b:=L1.o.call h1 hf1 hj1 (by rw[hnn.o];omega))|(have L1:=L.o.call h1 hf1 hj1 M_));(first|(have:=cc1;clear k0 c20 c31)|(obtain⟨lv,U,Y,q2,V⟩:=L.o.row));(first|(have:=cc1;have a:=(hf1.bl (hA1.o.bl r1.o id) M_))|(have r3:=zy q2.lt));(first|(have:=cc1;have r3:=zk (zk r2.o hA1.o u_) hf1 (λg hg e=>(by have:=r2.o.lt g hg;omega)))|(have r1:=hf1.bl U M_));(first|(have:=cc1;have Z:=zy (λi d (e:ld[i]?=some d)=>((rY.o i d e).fr hA1.o u_).fr hf1 (λg hg e=>zz_)))|(have r2:=zk q2 hf1 (λg hg e=>zg_);have rY:=zy (λi d (e:l[i]?=some d)=>(V i d e).fr hf1 (λg hg e=>zz_));obtain⟨la,lc,rfl⟩:=zh r2));replace B:=zy B;(first|(have:=cc1;have k0:=a.c0)|(clear U q2 V));(first|(have:=cc1;have U:=a.th 0)|(have k0:=r1.c0));(first|(have:=cc1;have H:=b.hB)|(have U:=r1.th 0));(first|(have:=cc1;replace b:=zy b)|(have H:=L1.hB));(first|(have:=cc1;replace a:=zy a)|(replace L1:=zy L1));(first|(have:=cc1;replace r3:=zy r3)|(replace r1:=zy r1;replace r2:=zy r2));clear hf1 h1)
  |(at_builtin;go_must ((first|(have:=cc1;refine wpList_append_own_at _ rfl _ _ 136 rfl (w.heap.size+3) 69 ti _ 1 16 aA N O Q S rfl D_ (.slice la n lc) n ((List.range n).flatMap λi=>[Y i]) rfl ?hown _ 1 1 [.iface z dx] rfl rfl (zL _ #[.iface z dx] _ _ ?nn) ?one ?b1 ?b2 ?b3 ?_)|(refine wpList_append_own_at _ rfl _ _ 129 rfl (w.heap.size+3) 69 ti _ 1 16 nJ N O Q S rfl D_ (.slice la l.length lc) l.length ((List.range l.length).flatMap λi=>[Y i]) rfl ?hown _ 1 1 [.iface z dx] rfl rfl (zL _ #[.iface z dx] _ _ ?nn) ?one ?b1 ?b2 ?b3 ?_)))
    case hown=>(first|(have:=cc1;exact World.ownsRow.alloc r3.o _)|(exact World.ownsRow.alloc r2.o _))
    case nn=>simp
    case one=>simp[Value.oneCell']
    case b1=>unfold maxLen;omega
    case b2=>omega
    case b3=>simp;omega
    intro z r A I X J
    (first|(have:=cc1;have m:Fr w1 r (λg=>(Value.slice la n lc).ownBlock=some g):=T_ ((A_ w1 _).alloc _) I (λk e _=>e))|(have m:Fr w1 r (λg=>(Value.slice la l.length lc).ownBlock=some g):=T_ ((A_ w1 _).alloc _) I (λk e _=>e)))
    (first|(have:=cc1;have y:=m.bl a.o (λe=>by have:=r3.o.lt _ e;omega))|(have a:=(m.bl r1.o (λe=>by have:=r2.o.lt _ e;omega)).cell 0))
    (first|(have:=cc1;have a:=y.c0)|(have f5:=(m.bl r1.o (λe=>by have:=r2.o.lt _ e;omega)).th 0))
    (first|(have:=cc1;have f5:=y.th 0)|(have y:=m.bl r1.o (λe=>by have:=r2.o.lt _ e;omega);simp only[aa_]at a))
    have C:∀g,z.ownBlock=some g->w.heap.size+3<=g:=(λg hg=>(A.lt g hg).1)
    obtain⟨x,u,rfl⟩:=zu A M_
    replace m:=zy m
    replace A:=zy A
    replace y:=zy y
    replace C:=zy C
    (first|(have:=cc1;have K:H_ ((Value.slice (some ⟨x,0,none⟩) (n+1) u).ownBlock=(Value.slice la n lc).ownBlock\/∃h,(Value.slice (some ⟨x,0,none⟩) (n+1) u).ownBlock=some h/\w1.heap.size<=h):=zy (J.imp id (λe=>⟨_,e,by simp⟩)))|(have K:H_ ((Value.slice (some ⟨x,0,none⟩) (l.length+1) u).ownBlock=(Value.slice la l.length lc).ownBlock\/∃h,(Value.slice (some ⟨x,0,none⟩) (l.length+1) u).ownBlock=some h/\w1.heap.size<=h):=zy (J.imp id (λe=>⟨_,e,by simp⟩))))
    clear I J X))
 try go_ret
 rw[Q_.o];refine⟨_,rfl,?_⟩;rw[hst.o];refine⟨rfl,T,?_⟩;(first|(have:=cc1;have z:Fr r (r.setCell ⟨w.heap.size+2,0,none⟩ (S_ x (n+1) u)) (λg=>g=w.heap.size+2):=(A_ r (λg=>g=w.heap.size+2)).setCell ⟨w.heap.size+2,0,none⟩ _ (λ_=>rfl))|(have z:Fr r (r.setCell ⟨w.heap.size+2,0,none⟩ (.slice (some ⟨x,0,none⟩) (l.length+1) u)) (λg=>g=w.heap.size+2):=(A_ r (λg=>g=w.heap.size+2)).setCell ⟨w.heap.size+2,0,none⟩ _ (λ_=>rfl)));(first|(have:=cc1;have a:Fr w1 (r.setCell ⟨w.heap.size+2,0,none⟩ (S_ x (n+1) u)) (λg=>w.heap.size+2<=g):=(m.o.mono (λg _ e=>by have:=r3.o.lt g e;omega)).trans z (λg _ e=>M_))|(have a:Fr w1 (r.setCell ⟨w.heap.size+2,0,none⟩ (.slice (some ⟨x,0,none⟩) (l.length+1) u)) (λg=>w.heap.size+2<=g):=(m.o.mono (λg _ e=>by have:=r2.o.lt g e;omega)).trans z (λg _ e=>M_)));(first|(have:=cc1;have hM1:=b.o.M)|(have hM1:=L1.o.M));have r:=hM1.brG;(first|(have:=cc1;have r:=b.o.lt)|(have r:=L1.o.lt));have r:∀g,P g->¬(w.heap.size+2<=g):=λg hg=>by have:=hM1.Pbr g hg;omega
 (first|(have:=cc1;exact⟨b.o.sub,⟨a.bl hM1.R M_,hM1.D.fr a r,hM1.G.fr a z9_ (λg e=>M_),hM1.E,hM1.Pbr,hM1.brG,hM1.hs,hM1.il⟩,b.o.fr.trans a (λg hg e=>M_),b.o.lt,ai_ b.o.hB a.size,a.bl b.o.b2 M_,a.bl b.o.b3 M_,b.o.F.fr a r,by rw[ah_,hnn.o,ap_];omega,by rw[ah_,hnn.o,ap_];omega,_,y.o.set 0 _,jG.grow (t:=tt) (c:=w.heap.size+2) Z.o (by rw[hsb.o];exact(B.o.mono (λg _ hg=>⟨by have:=L.o.hB;rw[hz1.o]at hg;omega,λe=>by have:=r2.o.lt g e;rw[hz1.o]at hg;omega⟩))) ((m.o.mono (λ_ _ e=>.inl e)).trans z (λ_ _ e=>.inr e)) M_ K.o (by rw[hnn.o];exact zk A.o z (λg hg e=>by have:=C.o g hg;omega))⟩)|(exact⟨⟨a.bl hM1.R M_,hM1.D.fr a r,hM1.G.fr a z9_ (λg e=>M_),hM1.E,hM1.Pbr,hM1.brG,hM1.hs,hM1.il⟩,L1.o.fr.trans a (λg hg e=>M_),L1.o.lt,ai_ L1.o.hB a.size,a.bl L1.o.b2 M_,a.bl L1.o.b3 M_,L1.o.ty.fr a r,by rw[ah_,ap_];omega,_,y.o.set 0 _,jG.grow (t:=.wrap 91 0 t) (c:=w.heap.size+2) rY.o (B.o.mono (λg _ hg=>⟨by have:=L.o.hB;omega,λe=>by have:=r3.o g e;omega⟩)) ((m.o.mono (λ_ _ e=>.inl e)).trans z (λ_ _ e=>.inr e)) M_ K.o (zk A.o z (λg hg e=>by have:=C.o g hg;omega))⟩))):p:=h
def oI{w0 w:Aw}{P:Au}{ss:BA}{ds:Ar}{sv rv:Ax}{xs:Az}{s:BA}{nt:As}{nx:Ax}{pl:Ap}{br i:Nat}{t:PT}{p:Int}{l:Ak}{j:Nat}{W:Aw}(L:LI w0 w P ss ds sv rv xs s nt nx pl br i t p (.iface vT vx) l j W)(r:yV w0)(u:qu w0 P ss ds sv rv xs s nt nx pl br f t j)(hgo:∀d j',rdT s (zx ds) pl f t j=some (d,j')->j<j'):Calls prog 187 #[P_ w.heap.size,.pointer (some ⟨w.heap.size+1,0,none⟩),.pointer (some ⟨w.heap.size+2,0,none⟩)] W λe W'=>∃v,e=.returned v/\match wD (rdT s (zx ds) pl f t) l j with|some (l',j')=>v=.nilIface/\j<j'/\LI w0 w P ss ds sv rv xs s nt nx pl br i t p (.iface vT vx) l' j' W'|none=>(∃T x,v=.iface T x)/\aC w sv rv s nt nx pl br v W':=by
 refine hq_ λC Q_=>?_;have hC:=zy (u W _ L.M L.ty);have c20:=L.b2.c0;have c31:=L.b3.c1;have u:=L.M.il;have u:=L.M.hs;have u:=L.c;have u:=L.lt;replace L:=zy L;cases hp:rdT s (zx ds) pl f t j with
 |none=>
  have hst:=zy (show wD (rdT s (zx ds) pl f t) l j=none by unfold wD;rw[hp];rfl);replace hp:=zy hp;go_in;go_wp2_with (first
   |(go_at_call 154;apply hC.o.mono;rintro e w1 ⟨v1,ev1,rfl,hf1,hm⟩;rw[hp.o]at hm;obtain⟨rfl,b,A,h1,hj1⟩:=hm;obtain⟨u,u,rfl⟩:=b.iface;have h:=(L.o.M.call h1 hf1 hj1).G;obtain⟨lv,r1,r2⟩:=L.o.row;obtain⟨ys,r3⟩:=r2.row;obtain⟨la,lc,rfl⟩:=zh r3;have k0:=(hf1.bl r1 M_).c0;replace hf1:=zy hf1;replace b:=zy b;replace h1:=zy h1;replace h:=zy h)
   |(go_at_call 128;apply(pm (n:=l.length) r h M_).mono;intro e h y;obtain⟨m,B,rfl,h,k,a⟩:=y;replace a:=zy a;replace k:=zy k))
  try go_ret
  rw[Q_.o];refine⟨_,rfl,?_⟩;rw[hst.o];have h:=(L.o.fr.trans hf1 u_).size;have z:=L.o.fr.size;exact⟨⟨_,_,rfl⟩,(L.o.fr.trans hf1 u_).trans a v_,.within m M_ B k ((b.o.ls z).fr a u_),A,a.o.bl h1 id,hj1⟩
 |some q=>
  exact cwoI1_
def JA{w0 w:Aw}{P:Au}{ss:BA}{ds:Ar}{sv rv:Ax}{xs:Az}{s:BA}{nt:As}{nx:Ax}{pl:Ap}{br i:Nat}{t:PT}{p:Int}(M:NC w0 P ss ds sv rv xs s nt nx pl br i w)(k:TyV w P t (.iface vT vx)){W':Aw}(h:yf W' br sv rv s (i+1) (!pl))(a:Fr (((w.alloc (.cells #[P_ br] 289)).alloc (.cells #[Z_ p,.iface vT vx] 199)).alloc (.cells #[L_] 129)) W' (· = br))(n:i+1<=s.size):LI w0 w P ss ds sv rv xs s nt nx pl br i t p (.iface vT vx) [] (i+1) W':=by
 have m:=M.lt;have A:Fr w (((w.alloc (.cells #[P_ br] 289)).alloc (.cells #[Z_ p,.iface vT vx] 199)).alloc (.cells #[L_] 129)) N_:=(((A_ w _).alloc _).alloc _).alloc _;have hz:(((w.alloc (.cells #[P_ br] 289)).alloc (.cells #[Z_ p,.iface vT vx] 199)).alloc (.cells #[L_] 129)).heap.size=w.heap.size+3:=x8_
 have o:(w.alloc (.cells #[P_ br] 289)).heap.size=w.heap.size+1:=x8_
 have q:((w.alloc (.cells #[P_ br] 289)).alloc (.cells #[Z_ p,.iface vT vx] 199)).heap.size=w.heap.size+2:=x8_
 have d:=((B_ w #[P_ br] 289).alloc (.cells #[Z_ p,.iface vT vx] 199)).alloc (.cells #[L_] 129);have b:=(B_ (w.alloc (.cells #[P_ br] 289)) #[Z_ p,.iface vT vx] 199).alloc (.cells #[L_] 129);have c:=B_ ((w.alloc (.cells #[P_ br] 289)).alloc (.cells #[Z_ p,.iface vT vx] 199)) #[L_] 129;rw[o]at b;rw[q]at c;have o:=a.size;exact⟨(M.new A).call h a n,(A.mono v_).trans a u_,m,M_,a.bl d M_,a.bl b M_,(k.fr A u_).fr a (λg hg e=>M.brP (e▸hg)),by simp,_,a.bl c M_,jG.nil _ _ _ _ _⟩
def cwXe1_{p:Prop}(h:p:=by
 obtain⟨u,u⟩:=q;rw[hp]at hres;replace hp:=zy hp;go_in;go_wp2_with (go_at_call 186;apply hC.o.mono;rintro e w2 ⟨v2,rfl,hm⟩;rw[hp.o]at hm;obtain⟨rfl,b⟩:=hm;(first|(have:=cc1;obtain⟨lv,ys,r1,a,r,d⟩:=b.row)|(obtain⟨lv,r1,a⟩:=b.row));(first|(have:=cc1;obtain⟨m,n,rfl⟩:=zh a)|(obtain⟨ys,d⟩:=a.row;obtain⟨m,n,rfl⟩:=zh d));have k0:=r1.c0;(first|(have:=cc1;have k:=zy ((show qJ (zx ds) _ _ (.wrap 123 q0 t) _ _ from d).dat (Q:=λg=>w.heap.size<=g) a (λg _ hg=>zz_) (λg hg=>(by have:=a.lt g hg;omega))))|(have k:=zy ((show jG (zx ds) _ _ _ (.wrap 91 q0 t) _ _ from a).dat (Q:=λg=>w.heap.size<=g) (λg _ hg=>zz_) (λg hg=>(by have:=d.lt g hg;omega)) (.inl ⟨rfl,rfl⟩))));replace b:=zy b;(first|(have:=cc1;clear r1 a r d)|(clear r1 a d)));try go_ret
 rw[Q_.o,hres.o];exact nok k.o b.o.fr b.o.M.R b.o.M.il):p:=h
def Xe{q0:Nat}{w0 w:Aw}{P:Au}{ss:BA}{ds:Ar}{sv rv:Ax}{xs:Az}{s:BA}{nt:As}{nx:Ax}{pl:Ap}{br i:Nat}{t:PT}{p:Int}(M:NC w0 P ss ds sv rv xs s nt nx pl br i w)(y:TyV w P t (.iface vT vx))(u:yV w0)(x:∀j,i<j->j<=s.size->qu w0 P ss ds sv rv xs s nt nx pl br f t j):Calls prog 170 #[P_ br,.agg #[Z_ p,.iface vT vx]] w (yp (zx ds) (.wrap 91 q0 t) w sv rv s nt nx pl br (xO (rdT s (zx ds) pl f t) s 91 i)):=by
 refine hq_ λk Q_=>?_;have E:s.size<=4000:=ya_
 have A:Fr w (((w.alloc (.cells #[P_ br] 289)).alloc (.cells #[Z_ p,.iface vT vx] 199)).alloc (.cells #[L_] 129)) N_:=(((A_ w _).alloc _).alloc _).alloc _;have z:=qv s (zx ds) pl f t;have r:ie sv rv s nt nx pl br 187 #[P_ w.heap.size,.pointer (some ⟨w.heap.size+1,0,none⟩),.pointer (some ⟨w.heap.size+2,0,none⟩)] (wD (rdT s (zx ds) pl f t)) (λl j W=>LI w0 w P ss ds sv rv xs s nt nx pl br i t p (.iface vT vx) l j W) (aC w sv rv s nt nx pl br):=
  { F:=λW=>by kernel_rfl
    R:=λh=>⟨h.M.R,h.M.il,h.M.e⟩
    K:=λh h1 m n k=>h.call h1 m n ys_
    B:=λh=>⟨h.fr,.base,_,h.M.R,h.M.il⟩
    C:=λ{l j W} h=>(oI h u (x j ys_ h.M.il) (λd j' e=>(z j d j' e).1)).mono (by
     rintro e W' ⟨v,he,hm⟩
     refine⟨v,he,?_⟩
     cases k:wD (rdT s (zx ds) pl f t) l j with
     |none=>rw[k]at hm;exact hm
     |some q=>obtain⟨a,b⟩:=q;rw[k]at hm;exact hm) }
 have hC:=zy (pv r (w:=(((w.alloc (.cells #[P_ br] 289)).alloc (.cells #[Z_ p,.iface vT vx] 199)).alloc (.cells #[L_] 129))) (σ:=([]:List DT)) (i:=i) (co:=91) (cf:=93) 91 93 (A.bl M.R id) M.il (λW' h k D=>JA M y h k D) (λW' h k=>⟨⟨(A.mono v_).trans k u_,.base,i,h,M.il⟩,((M.new A).call h k M.il).e⟩) E rfl rfl D_ D_);have hres:=zy (XC (rdT s (zx ds) pl f t) s i);cases hp:jX (wD (rdT s (zx ds) pl f t)) s 91 93 [] i with
 |none=>
  rw[hp]at hres;replace hp:=zy hp;go_in;go_wp2_with (go_at_call 186;apply hC.o.mono;rintro e w2 ⟨v2,rfl,hm⟩;rw[hp.o]at hm;obtain⟨⟨k,k,rfl⟩,hB⟩:=hm;replace hB:=zy hB);try go_ret
  rw[Q_.o,hres.o];obtain⟨h1,m,n⟩:=hB.o;exact⟨.nilIface,_,rfl,h1,rfl,m,n⟩
 |some q=>
  exact cwXe1_
def qx(R:Ag)(fs:Am)(l:Ak)(j:Nat):Option (List DT×Nat):=
 match fs[l.length]? with|none=>none|some g=>(R g.ty j).map (λq=>(l++[q.1],q.2))
def kW(len:Nat):Option (List DT×Nat)->Option (DT×Nat)
 |none=>none
 |some (l,j)=>if l.length<len then none else some (.mk 114 0 noB [] l,j)
def uR(s:BA)(l:Ak):Option (List DT×Nat)->Option (DT×Nat)
 |none=>none
 |some (r,e)=>if bt s e=41 then some (.mk 114 0 noB [] (l++r),e+1) else none
def sC(R:Ag)(s:BA)(fs:Am)(c:∀t,VY s (R t)):∀a l j,l.length<fs.length->j<=s.size->s.size+1-j<=a->
 kW fs.length (jw (qx R fs) s 41 a l j)=uR s l (zH R s true ((fs.drop l.length).map PF.ty) j):=by
 intro a;induction a with
 |zero=>intro l j _ e b;omega
 |succ a ih=>
  intro l j hk e b;rw[jw,bc_ hk,aw_,zH,i_ rfl];simp only[qx,ak_ hk];cases b:R (fs[l.length]).ty j with
  |none=>rfl
  |some q=>
   obtain⟨d,j'⟩:=q;have e:=c _ j d j' b;have g:(l++[d]).length=l.length+1:=x8_
   simp only[a4_];by_cases b:bt s j'=41
   .rw[i_ b];by_cases c:l.length+1<fs.length
    .rw[bc_ c,aw_,zH];simp only[a2_,if_false];rw[n_ M_];simp only[kW,uR];rw[i_ M_]
    .rw[bz_ M_,a5_,zH];simp only[kW,uR];rw[n_ M_,i_ b]
   .rw[n_ b];by_cases e:bt s j'=44
    .rw[i_ e];have h:=zr (s:=s) (i:=j') M_;by_cases c:l.length+1<fs.length
     .have:=ih (l++[d]) (j'+1) M_ h M_;rw[this,g];rw[bc_ c,aw_,zH,zH,i_ rfl];simp only[a2_,if_false];rw[i_ e];cases R (fs[l.length+1]).ty (j'+1) with
      |none=>rfl
      |some q=>
       obtain⟨g,g⟩:=q;simp only;cases zH R s false ((fs.drop (l.length+1+1)).map PF.ty) g with
       |none=>rfl
       |some q=>
        simp only[uR,bw_,bf_,br_]
     .rw[bz_ M_,a5_,zH];have hn:jw (qx R fs) s 41 a (l++[d]) (j'+1)=none:=by
       cases a with
       |zero=>rfl
       |succ a=>rw[jw];simp only[qx];rw[bq_ M_]
      rw[hn];simp only[kW,uR];rw[n_ b]
    .rw[n_ e];by_cases c:l.length+1<fs.length
     .rw[bc_ c,aw_,zH];simp only[a2_,if_false];rw[n_ e];rfl
     .rw[bz_ M_,a5_,zH];simp only[kW,uR];rw[n_ b]
def iM(env:Ay):Prop:=∀c l o,env c=some (.enum l o)->∀q∈l,zt q.1=true
def Fl{s:BA}{env:Ay}{pl:Ap}(g:iM env){i:Nat}(h:bt s i=41):∀(f:Nat) (t:PT),okT env t->rdT s env pl f t i=none:=by
 intro f;induction f with
 |zero=>intro t _;rfl
 |succ f ih=>
  intro t b;cases t with
  |leaf c p=>
   rw[rdT];unfold xr;split
   .rw[n_ M_]
   .split
    .rw[n_ M_,n_ M_]
    .split
     .have d:vg s c i=none:=by
       unfold vg;rw[n_];intro a;have hz:(yv s i).size=0:=by
        unfold yv yY;have e:sgn s i=i:=by unfold sgn;rw[n_ M_]
        rw[e,vX M_,a3_];omega
       exact absurd a.1 M_
      rw[d]
     .split
      .rw[n_ M_]
      .cases he:env c with
       |none=>rfl
       |some pb=>
        simp only;unfold yg;cases pb with
        |recd fs=>simp only;rw[n_ M_]
        |enum l o=>
         simp only;split
         .have:(l.map Prod.fst).findIdx? (λc=>c==bt s i)=none:=by
           rw[List.findIdx?_eq_none_iff];intro x hx;obtain⟨q,a,rfl⟩:=bl_.1 hx;have:=g c l o he q a;obtain⟨k,hk,_⟩:=wa this;rw[h,beq_eq_false_iff_ne];omega
          rw[this]
         .rfl
        |bytes n=>simp only;rw[n_ M_]
  |wrap c p t=>
   unfold okT at b;rw[rdT];unfold xO;rw[n_ M_]
  |alts p ts=>
   rw[rdT];unfold jZ;cases pl with
   |false=>rw[n_ D_,n_ (λa=>M_)]
   |true=>
   rw[i_ rfl];cases ts with
   |nil=>rfl
   |cons t r=>
    simp only;have d:okT env t:=by
     unfold okT at b;have a:=b.2;unfold eG at a;exact a.2.1
    rw[ih t d]
structure RI(tt:PT)(w0 w:Aw)(P:Au)(ss:BA)(ds:Ar)(sv rv:Ax)(xs:Az)(s:BA)(nt:As)(nx:Ax)(pl:Ap)(br i:Nat)(fs:Am)(p:Int)(fv:Ax)(zs:Az)(l:Ak)(j:Nat)(W:Aw):Prop where
 sub:∀k g,fs[k]?=some g->zN (zx ds) tt 0 k=g.ty
 M:NC w0 P ss ds sv rv xs s nt nx pl br j W
 fr:Fr w W (· = br)
 lt:br<w.heap.size
 hB:w.heap.size+3<=W.heap.size
 b2:Blk W w.heap.size [P_ br] 289
 b3:Blk W (w.heap.size+1) [Z_ p,fv] 210
 F:xQ W P ss fs fv zs
 c:i+l.length<j
 nl:l.length<=fs.length
 row:∃lv,Blk W (w.heap.size+2) [lv] 136/\jG (zx ds) W (w.heap.size+3) (λg=>w.heap.size+3<=g/\lv.ownBlock≠some g) tt lv l
section
variable {tt:PT} {w0 w:Aw} {P:Au} {ss:BA} {ds:Ar} {sv rv:Ax} {xs:Az} {s:BA} {nt:As} {nx:Ax} {pl:Ap} {br i:Nat} {fs:Am} {p:Int} {fv:Ax} {zs:Az} {l:Ak} {j j':Nat} {W W':Aw}
def RI.call(L:RI tt w0 w P ss ds sv rv xs s nt nx pl br i fs p fv zs l j W)(h:yf W' br sv rv s j' (!pl))(a:Fr W W' (· = br))(c:j'<=s.size)(hc:i+l.length<j'):RI tt w0 w P ss ds sv rv xs s nt nx pl br i fs p fv zs l j' W':=by
 have h1:=L.lt;obtain⟨lv,r1,b⟩:=L.row;obtain⟨ys,d⟩:=b.row;exact⟨L.sub,L.M.call h a c,L.fr.trans a u_,L.lt,ai_ L.hB a.size,a.bl L.b2 M_,a.bl L.b3 M_,L.F.fr a (λg hg e=>L.M.brP (e▸hg)),hc,L.nl,lv,a.bl r1 M_,b.fr a (λg hg e=>M_) (λg hg e=>by have:=d.lt g hg;omega)⟩
def RI.new(L:RI tt w0 w P ss ds sv rv xs s nt nx pl br i fs p fv zs l j W)(a:Fr W W' N_):RI tt w0 w P ss ds sv rv xs s nt nx pl br i fs p fv zs l j W':=L.call (a.bl L.M.R id) (a.mono v_) L.M.il L.c
end
def aA:Tryz.prog.underlying 136=some (.slice 69):=K_
def cwXr1_{p:Prop}(h:p:=by
 (first|(have:=cc1)|(have hst:=zy (show qx (rdT s (zx ds) pl f) fs ld j=none by unfold qx;rw[hnn.o,hd];simp only;rw[hp];rfl)));replace hp:=zy hp;go_in;go_wp2_with (first
  |(go_at_call 154;apply hC.o.mono;rintro e w1 ⟨v1,ev1,rfl,hf1,hm⟩;rw[hp.o]at hm;obtain⟨rfl,b,r,h1,hj1⟩:=hm;obtain⟨u,u,rfl⟩:=b.iface;(first|(have:=cc1;have u:=zy ((M0.o.call h1 hf1 hj1).G))|(have u:=(hf1.bl N1.o M_).c1));replace hf1:=zy hf1;replace b:=zy b;replace h1:=zy h1)
  |((first|go_at_call 132|go_at_call 131);(first|(have:=cc1;apply(wM (n:=k) hI u.o hk4).mono)|(apply(gW hls).mono));intro e u y;obtain⟨m,x,rfl,u,d,a⟩:=y;replace a:=zy a;replace d:=zy d))
 try go_ret
 (first|(have:=cc1;rw[Q_.o,hp.o])|(rw[Q_.o]));(first|(have:=cc1;have c:=(A.o.mono (T:=λg=>g=br) v_).trans hf1.o u_)|(refine⟨_,rfl,?_⟩;rw[hst.o];have c:=L1.o.fr.trans hf1.o u_));have u:=c.size;(first|(have:=cc1;exact⟨.nilIface,_,rfl,c.trans a.o v_,rfl,.within m M_ x d.o ((b.o.ls hsz).fr a.o u_),r,a.o.bl h1.o id,hj1⟩)|(have z:=L1.o.fr.size;exact⟨⟨_,_,rfl⟩,c.trans a.o v_,.within m M_ x d.o ((b.o.ls z).fr a.o u_),r,a.o.bl h1.o id,hj1⟩))):p:=h
def Xr{tt:PT}{w0 w:Aw}{P:Au}{ss:BA}{ds:Ar}{sv rv:Ax}{xs:Az}{s:BA}{nt:As}{nx:Ax}{pl:Ap}{br i:Nat}{fs:Am}{p:Int}{zs:Az}{ld:Ak}{j:Nat}{W:Aw}(L:RI tt w0 w P ss ds sv rv xs s nt nx pl br i fs p (.slice fa fs.length fc) zs ld j W)(D:∀g∈fs,zt g.letter=true)(E:fs.length<=300)(h:∀g∈fs,qu w0 P ss ds sv rv xs s nt nx pl br f g.ty j)(hgo:∀t d j',rdT s (zx ds) pl f t j=some (d,j')->j<j'):Calls prog 192 #[.pointer (some ⟨w.heap.size+2,0,none⟩),.pointer (some ⟨w.heap.size+1,0,none⟩),P_ w.heap.size] W λe W'=>∃v,e=.returned v/\match qx (rdT s (zx ds) pl f) fs ld j with|some (l',j')=>v=.nilIface/\j<j'/\RI tt w0 w P ss ds sv rv xs s nt nx pl br i fs p (.slice fa fs.length fc) zs l' j' W'|none=>(∃T x,v=.iface T x)/\aC w sv rv s nt nx pl br v W':=by
 refine hq_ λE Q_=>?_;have c20:=L.b2.c0;have c31:=L.b3.c1;have a:=L.c;have E:=L.lt;have C:=L.nl;have E:=L.hB;have l2:w.heap.size<W.heap.size:=M_;obtain⟨lv,r1,Y,r2,rY⟩:=L.row;obtain⟨la,lc,rfl⟩:=zh r2;obtain⟨n,hnn⟩:=x_ ld.length;rw[hnn]at r1 r2 rY C a;have k0:=r1.c0;by_cases hn:n=fs.length
 .have hst:=zy (show qx (rdT s (zx ds) pl f) fs ld j=none by unfold qx;rw[bq_ M_]);have a:=L.M.e;replace L:=zy L;subst hn;go_in;go_wp2;try go_ret
  rw[Q_.o];refine⟨_,rfl,?_⟩;rw[hst.o];exact⟨⟨_,_,rfl⟩,L.o.fr,.base,j,L.o.M.R,L.o.M.il⟩
 .have a:n<fs.length:=M_;have C:((n:Int)==(fs.length:Int))=false:=x4_
  have hd:fs[n]?=some fs[n]:=ak_ a;have r:fs[n]∈fs:=a9_ a;generalize fs[n]=g0 at hd r;have a:(n:Int)<(fs.length:Int):=M_;obtain⟨g,a,a⟩:=zu L.F.row M_;cases a;obtain⟨T,x,b,c0,c1,c2,c3,y,B⟩:=L.F.cells hd;obtain⟨l,m⟩:=x_ g0.letter;obtain⟨u,z⟩:=x_ g0.place;have hls:zt l=true:=by rw[<- m];exact D _ r
  have hsb:=zy (show zN (zx ds) tt 0 ld.length=g0.ty by rw[hnn];exact L.sub n g0 hd);rw[m]at c1;rw[z]at c0;have a:=(A_ W N_).alloc (.cells #[I_ u,U_ l,.iface T x,.pointer b] 185);have N1:=B_ W #[I_ u,U_ l,.iface T x,.pointer b] 185;have L1:=L.new a;have hC:=zy (h _ r _ _ L1.M (y.fr a u_));have hz1:=zy (by simp:(W.alloc (.cells #[I_ u,U_ l,.iface T x,.pointer b] 185)).heap.size=W.heap.size+1);replace L1:=zy L1;replace N1:=zy N1;replace r2:=zy r2;replace rY:=zy rY;replace L:=zy L;replace hnn:=zy hnn;replace r1:=zy r1;have hA1:=zy a;cases hp:rdT s (zx ds) pl f g0.ty j with
  |none=>
   exact cwXr1_
  |some q=>
   have cc1:=Nat;exact cwoI1_
def YO{s:BA}{env:Ay}{pl:Ap}{i:Nat}{fs:Am}(k:iM env)(c:∀g∈fs,okT env g.ty):kW fs.length (jX (qx (rdT s env pl f) fs) s 40 41 [] i)=yg (rdT s env pl f) s (.recd fs) i:=by
 unfold jX yg;simp only;by_cases b:bt s i=40
 .rw[i_ b,i_ b];have d:=zr (s:=s) (i:=i) M_;by_cases a:bt s (i+1)=41
  .rw[i_ a];cases fs with
   |nil=>
    simp only[a5_,zH,kW];rw[i_ a];rfl
   |cons g r=>
    rw[aw_,zH,i_ rfl,Fl k a f g.ty (c g x8_)];rfl
  .rw[n_ a];cases c:fs with
   |nil=>
    rw[jw];simp only[qx,List.getElem?_nil,a5_,zH,kW];rw[n_ a]
   |cons g r=>
    rw[<- c];have h:=sC (rdT s env pl f) s fs (qv s env pl f) (s.size+2) [] (i+1) (by rw[c];simp) d M_;rw[h];simp only[ar_,List.drop_zero];cases zH (rdT s env pl f) s true (fs.map PF.ty) (i+1) with
    |none=>rfl
    |some q=>
     obtain⟨l,e⟩:=q;rfl
 .rw[n_ b,n_ b];rfl
def Jz{tt:PT}{w0 w:Aw}{P:Au}{ss:BA}{ds:Ar}{sv rv:Ax}{xs:Az}{s:BA}{nt:As}{nx:Ax}{pl:Ap}{br i:Nat}{fs:Am}{p:Int}{zs:Az}(q:∀k g,fs[k]?=some g->zN (zx ds) tt 0 k=g.ty)(M:NC w0 P ss ds sv rv xs s nt nx pl br i w)(m:xQ w P ss fs (.slice fa fs.length fc) zs){W':Aw}(h:yf W' br sv rv s (i+1) (!pl))(a:Fr (((w.alloc (.cells #[P_ br] 289)).alloc (.cells #[Z_ p,.slice fa fs.length fc] 210)).alloc (.cells #[L_] 136)) W' (· = br))(o:i+1<=s.size):RI tt w0 w P ss ds sv rv xs s nt nx pl br i fs p (.slice fa fs.length fc) zs [] (i+1) W':=by
 have n:=M.lt;have A:Fr w (((w.alloc (.cells #[P_ br] 289)).alloc (.cells #[Z_ p,.slice fa fs.length fc] 210)).alloc (.cells #[L_] 136)) N_:=(((A_ w _).alloc _).alloc _).alloc _;have hz:(((w.alloc (.cells #[P_ br] 289)).alloc (.cells #[Z_ p,.slice fa fs.length fc] 210)).alloc (.cells #[L_] 136)).heap.size=w.heap.size+3:=x8_
 have r:(w.alloc (.cells #[P_ br] 289)).heap.size=w.heap.size+1:=x8_
 have u:((w.alloc (.cells #[P_ br] 289)).alloc (.cells #[Z_ p,.slice fa fs.length fc] 210)).heap.size=w.heap.size+2:=x8_
 have d:=((B_ w #[P_ br] 289).alloc (.cells #[Z_ p,.slice fa fs.length fc] 210)).alloc (.cells #[L_] 136);have b:=(B_ (w.alloc (.cells #[P_ br] 289)) #[Z_ p,.slice fa fs.length fc] 210).alloc (.cells #[L_] 136);have c:=B_ ((w.alloc (.cells #[P_ br] 289)).alloc (.cells #[Z_ p,.slice fa fs.length fc] 210)) #[L_] 136;rw[r]at b;rw[u]at c;have r:=a.size;exact⟨q,(M.new A).call h a o,(A.mono v_).trans a u_,n,M_,a.bl d M_,a.bl b M_,(m.fr A u_).fr a (λg hg e=>M.brP (e▸hg)),by simp,aj_ _,_,a.bl c M_,jG.nil _ _ _ _ _⟩
def eU{tt:PT}{w0 w:Aw}{P:Au}{ss:BA}{ds:Ar}{sv rv:Ax}{xs:Az}{s:BA}{nt:As}{nx:Ax}{pl:Ap}{br i:Nat}{fs:Am}{p:Int}{zs:Az}(a3:∀k g,fs[k]?=some g->zN (zx ds) tt 0 k=g.ty)(M:NC w0 P ss ds sv rv xs s nt nx pl br i w)(O:xQ w P ss fs (.slice fa fs.length fc) zs)(V:∀g∈fs,zt g.letter=true)(D:fs.length<=300)(a2:iM (zx ds))(U:∀g∈fs,okT (zx ds) g.ty)(S:∀g∈fs,∀j,i<j->j<=s.size->qu w0 P ss ds sv rv xs s nt nx pl br f g.ty j):Calls prog 173 #[P_ br,.agg #[Z_ p,.slice fa fs.length fc]] w (yp (zx ds) tt w sv rv s nt nx pl br (yg (rdT s (zx ds) pl f) s (.recd fs) i)):=by
 refine hq_ λN E=>?_;have a1:s.size<=4000:=ya_
 have A:Fr w (((w.alloc (.cells #[P_ br] 289)).alloc (.cells #[Z_ p,.slice fa fs.length fc] 210)).alloc (.cells #[L_] 136)) N_:=(((A_ w _).alloc _).alloc _).alloc _;have T:=qv s (zx ds) pl f;have N:ie sv rv s nt nx pl br 192 #[.pointer (some ⟨w.heap.size+2,0,none⟩),.pointer (some ⟨w.heap.size+1,0,none⟩),P_ w.heap.size] (qx (rdT s (zx ds) pl f) fs) (λl j W=>RI tt w0 w P ss ds sv rv xs s nt nx pl br i fs p (.slice fa fs.length fc) zs l j W) (aC w sv rv s nt nx pl br):=
  { F:=λW=>by kernel_rfl
    R:=λh=>⟨h.M.R,h.M.il,h.M.e⟩
    K:=λh h1 G H h4=>h.call h1 G H ys_
    B:=λh=>⟨h.fr,.base,_,h.M.R,h.M.il⟩
    C:=λ{l j W} h=>(Xr h V D (λg hg=>S g hg j ys_ h.M.il) (λt d j' e=>(T t j d j' e).1)).mono (by
     rintro e W' ⟨v,he,hm⟩
     refine⟨v,he,?_⟩
     cases D:qx (rdT s (zx ds) pl f) fs l j with
     |none=>rw[D]at hm;exact hm
     |some q=>obtain⟨a,b⟩:=q;rw[D]at hm;exact hm) }
 have I:=zy (pv N (w:=(((w.alloc (.cells #[P_ br] 289)).alloc (.cells #[Z_ p,.slice fa fs.length fc] 210)).alloc (.cells #[L_] 136))) (σ:=([]:List DT)) (i:=i) (co:=40) (cf:=41) 40 41 (A.bl M.R id) M.il (λW' h D hi=>Jz a3 M O h D hi) (λW' h D=>⟨⟨(A.mono v_).trans D u_,.base,i,h,M.il⟩,((M.new A).call h D M.il).e⟩) a1 rfl rfl D_ D_);have r:=zy (YO (s:=s) (pl:=pl) (f:=f) (i:=i) a2 U);cases hp:jX (qx (rdT s (zx ds) pl f) fs) s 40 41 [] i with
 |none=>
  rw[hp]at r;replace hp:=zy hp;go_in;go_wp2_with (go_at_call 186;apply I.o.mono;rintro e Y ⟨X,rfl,hm⟩;rw[hp.o]at hm;obtain⟨⟨m,m,rfl⟩,hB⟩:=hm;replace hB:=zy hB);try go_ret
  rw[E.o,<- r.o];obtain⟨h1,G,H⟩:=hB.o;exact⟨.nilIface,_,rfl,h1,rfl,G,H⟩
 |some q=>
  obtain⟨l2,J⟩:=q;rw[hp]at r;replace hp:=zy hp;obtain⟨L,u⟩:=x_ l2.length;by_cases hn:L<fs.length
  .have a0:(L:Int)<(fs.length:Int):=M_;rw[show kW fs.length (some (l2,J))=none from i_ M_]at r;replace u:=zy u;go_in;go_wp2_with (go_at_call 186;apply I.o.mono;rintro e Y ⟨X,rfl,hm⟩;rw[hp.o]at hm;obtain⟨rfl,m⟩:=hm;obtain⟨lv,r1,x⟩:=m.row;obtain⟨ys,y⟩:=x.row;obtain⟨la,lc,rfl⟩:=zh y;rw[u.o]at r1;have k0:=r1.c0;have Z:=m.b3.c1;have z:=m.M.e;replace m:=zy m);go_quiet (fail);go_wp2;try go_ret
   rw[E.o,<- r.o];exact eC (m.o.fr.si (zw.drewN _ _)) (m.o.M.R.si (zw.drewN _ _)) m.o.M.il
  .have a0:¬((L:Int)<(fs.length:Int)):=M_;rw[show kW fs.length (some (l2,J))=some (.mk 114 0 noB [] l2,J) from n_ M_]at r;replace u:=zy u;go_in;go_wp2_with (go_at_call 186;apply I.o.mono;rintro e Y ⟨X,rfl,hm⟩;rw[hp.o]at hm;obtain⟨rfl,m⟩:=hm;obtain⟨lv,r1,x⟩:=m.row;obtain⟨ys,y⟩:=x.row;obtain⟨la,lc,rfl⟩:=zh y;have z:=x.dat (Q:=λg=>w.heap.size<=g) (λg _ hg=>zz_) (λg hg=>(by have:=y.lt g hg;omega)) (.inr ⟨rfl,rfl⟩);rw[u.o]at r1 z;replace z:=zy z;have k0:=r1.c0;have Z:=m.b3.c1;replace m:=zy m);try go_ret
   rw[E.o,<- r.o];exact nok z m.o.fr m.o.M.R m.o.M.il
def oB(k:Nat):Option (DT×Nat)->Option (DT×Nat)
 |none=>none
 |some (d,j)=>some (.mk 40 (k:Int) noB [] [d],j)
def eL{tt:PT}{w0 w:Aw}{P:Au}{ss:BA}{ds:Ar}{sv rv:Ax}{xs:Az}{s:BA}{nt:As}{nx:Ax}{pl:Ap}{br i:Nat}{t:PT}{n k:Nat}{p:Int}{b:Ax}{X:Cx}(r:zN (zx ds) tt k 0=t)(M:NC w0 P ss ds sv rv xs s nt nx pl br i w)(ho:w.ownsRow 0 63 1 b n ((List.range n).map X))(m:k<n)(hk4:k<=4000)(hX:TyV w P t (X k))(hI:yV w0)(c:qu w0 P ss ds sv rv xs s nt nx pl br f t i):Calls prog 191 #[P_ br,.agg #[Z_ p,b],I_ k] w (yp (zx ds) tt w sv rv s nt nx pl br (oB k (rdT s (zx ds) pl f t i))):=by
 refine hq_ λb Q_=>?_;obtain⟨g,h,rfl⟩:=zu ho M_;obtain⟨T,x,hx⟩:=hX.iface;have c0:=ze ho rfl (k:=k) (x:=X k) (by simp[m]);rw[hx]at c0 hX;have A:Fr w (w.alloc (.cells #[Z_ p,S_ g n h] 205)) N_:=(A_ w _).alloc _;have M0:=M.new A;have b:=World.block_lt_of_cell? w ⟨g,k,none⟩ c0;have hC:=zy (c _ _ M0 (hX.fr A u_));have b:(k:Int)<(n:Int):=M_;have hsz:=A.size;replace A:=zy A;replace M0:=zy M0;cases hp:rdT s (zx ds) pl f t i with
 |none=>
  have cc1:=Nat;exact cwXr1_
 |some q=>
  obtain⟨d,b⟩:=q;replace hp:=zy hp;go_in;go_wp2_with (go_at_call 154;apply hC.o.mono;rintro e w1 ⟨v1,ev1,rfl,hf1,hm⟩;rw[hp.o]at hm;obtain⟨rfl,a,h1,hj1⟩:=hm;obtain⟨b,dx,rfl⟩:=a.iface;replace a:=zy a;replace hf1:=zy hf1;replace h1:=zy h1);try go_ret
  rw[Q_.o,hp.o];exact nok (.branch k hk4 (by rw[r];exact a.o.mono (λg _ hg=>M_))) ((A.o.mono (T:=λg=>g=br) v_).trans hf1 u_) h1 hj1
def oL{tt:PT}{w0 w:Aw}{P:Au}{ss:BA}{ds:Ar}{sv rv:Ax}{xs:Az}{s:BA}{nt:As}{nx:Ax}{br i:Nat}{t:PT}{l:Af}{p:Int}{a:Ax}{X:Cx}(z:zN (zx ds) tt 0 0=t)(M:NC w0 P ss ds sv rv xs s nt nx true br i w)(ho:w.ownsRow 0 63 1 a (t::l).length ((List.range (t::l).length).map X))(hX:TyV w P t (X 0))(y:yV w0)(h:qu w0 P ss ds sv rv xs s nt nx true br f t i):Calls prog 172 #[P_ br,.agg #[Z_ p,a]] w (yp (zx ds) tt w sv rv s nt nx true br (oB 0 (rdT s (zx ds) true f t i))):=by
 refine hq_ λa r=>?_;obtain⟨ba,u,rfl⟩:=zh ho;have A:Fr w (w.alloc (.cells #[Z_ p,.slice ba (t::l).length u] 205)) N_:=(A_ w _).alloc _;have a:=M.new A;have c:=zy (eL (p:=p) (k:=0) z a (zk ho A u_) x8_ M_ (hX.fr A u_) y h);have c4:=a.R.c4;have m:=A.size;replace A:=zy A;generalize (t::l).length=n at c A m c4⊢;go_in;go_wp2_with (go_at_call 191;apply c.o.mono;rintro e w1 ⟨B,x,rfl,b,hm⟩;replace b:=zy b;replace hm:=zy hm);try go_ret
 rw[r.o];refine⟨B,x,rfl,(A.o.mono (T:=λg=>g=br) v_).trans b u_,?_⟩;have a:=hm.o;cases hp:oB 0 (rdT s (zx ds) true f t i) with
 |none=>rw[hp]at a;exact⟨a.1,a.2.1.ls m,a.2.2⟩
 |some q=>obtain⟨d,j⟩:=q;rw[hp]at a;exact⟨a.1,a.2.1.mono (λg _ hg=>M_),a.2.2⟩
end Go.Proofs.YtahhhgbojlkjnaaGreatDoor
