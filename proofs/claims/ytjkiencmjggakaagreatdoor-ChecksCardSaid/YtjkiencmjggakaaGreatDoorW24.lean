import Derived.Test.YtjkiencmjggakaaGreatDoorW23
set_option maxHeartbeats 16000000
set_option maxRecDepth 100000
set_option linter.unusedVariables false
set_option linter.defProp false
set_option linter.unusedSimpArgs false
open Go.Proofs.Tryz
namespace Go.Proofs.YtjkiencmjggakaaGreatDoor
open Go.RowKit
variable {w:World}{B i:Nat}
def QC(W:World)(lw lr:List (Nat×Nat))(o:Option (Nat×Nat))(e:Ending)(w':World):Prop:=
 Fr W w' N_/\((e=.returned (.agg #[O_,.nilIface])/\∀(i:Nat) (c:Nat×Nat),lw[i]?=some c->ql lr o c.1≠none)\/∃(i:Nat) (c:Nat×Nat),lw[i]?=some c/\ql lr o c.1=none/\e=.returned (.agg #[z_ 1,.iface 152 (.agg #[U_ c.1,I_ i])]))
def GW{W:World}{g cap:Nat}{l:List (Nat×Nat)}(ho:W.ownsRow 0 186 2 (S_ g l.length cap) l.length (zE l)){c:Nat×Nat}(hi:l[i]?=some c):W.cell? ⟨g,i*2,none⟩=some (I_ c.2)/\W.cell? ⟨g,i*2+1,none⟩=some (U_ c.1):=by
 have h0:=wn (f:=λq:Nat×Nat=>[Value.int .i64 (q.2:Int),Value.int .u8 (q.1:Int)]) (w:=2) (l:=l) (λx _=>rfl) (j:=0) hi M_;have h1:=wn (f:=λq:Nat×Nat=>[Value.int .i64 (q.2:Int),Value.int .u8 (q.1:Int)]) (w:=2) (l:=l) (λx _=>rfl) (j:=1) hi M_;exact⟨zr ho rfl h0,zr ho rfl h1⟩
def Ym{W:World}{Q:Nat->Prop}{lw lr:List (Nat×Nat)}{o:Option (Nat×Nat)}{p q:Int}{D l:Option Addr}{G m:Nat}{a b:Option Addr}(hw:W.ownsRow 0 186 2 (.slice D lw.length G) lw.length (zE lw))(hr:W.ownsRow 0 186 2 (.slice l lr.length m) lr.length (zE lr))(hu:qh W Q o (.pointer b))(hl:lw.length<=300)(a2:lr.length<=300):Calls prog 124 #[.agg #[z_ p,.slice D lw.length G,.pointer a,z_ q,.slice l lr.length m,.pointer b]] W (QC W lw lr o):=by
 obtain⟨a0,K⟩:=y_ (QC W lw lr o);rw[<- K.o];obtain⟨w1,z⟩:=e_ ((W.alloc (.cells #[z_ p,.slice D lw.length G,.pointer a,z_ q,.slice l lr.length m,.pointer b] 280)).alloc (.cells #[O_,.nilIface] 88));have E:Fr W w1 N_:=by rw[z];exact((A_ W _).alloc _).alloc _
 have O:Blk w1 W.heap.size [z_ p,.slice D lw.length G,.pointer a,z_ q,.slice l lr.length m,.pointer b] 280:=by rw[z];exact(B_ W _ _).alloc _
 have B1:Blk w1 (W.heap.size+1) [O_,.nilIface] 88:=by
  rw[z];have:=B_ (W.alloc (.cells #[z_ p,.slice D lw.length G,.pointer a,z_ q,.slice l lr.length m,.pointer b] 280)) #[O_,.nilIface] 88;rw[zi]at this;exact this
 have c1:=O.c1;have cel:H_ (∀V,Fr w1 V N_->V.cell? ⟨W.heap.size,3,none⟩=some (z_ q)/\V.cell? ⟨W.heap.size,4,none⟩=some (.slice l lr.length m)/\V.cell? ⟨W.heap.size,5,none⟩=some (.pointer b)/\Blk V (W.heap.size+1) [O_,.nilIface] 88):=zy (λV f=>by
  have k:=f.bl O id
  exact⟨k.cell 3,k.cell 4,k.cell 5,f.bl B1 id⟩)
 have item:H_ (∀V (i:Nat) (c:Nat×Nat),Fr w1 V N_->lw[i]?=some c->∃g,D=some ⟨g,0,none⟩/\V.cell? ⟨g,i*2,none⟩=some (I_ c.2)/\V.cell? ⟨g,i*2+1,none⟩=some (U_ c.1)):=zy (λV i c f hi=>by
  have o1:=zj hw (E.trans f u_) u_
  obtain⟨g,cap,e⟩:=zm o1 (by have:=(ae_.1 hi).1;omega)
  cases e
  exact⟨g,rfl,GW o1 hi⟩)
 have rd:H_ (∀V c,Fr w1 V N_->Calls prog 146 #[.agg #[z_ q,.slice l lr.length m,.pointer b],.int .u8 ((c:Nat):Int)] V λe w'=>e=.returned (fY (ql lr o c))/\Fr V w' N_):=zy (λV c f=>by
  have hf:=E.trans f u_
  exact oH (zj hr hf u_) (hu.fr hf u_) a2)
 have no:H_ (∀V,Fr w1 V N_->(∀(i:Nat) (c:Nat×Nat),lw[i]?=some c->ql lr o c.1≠none)->a0 (.returned (.agg #[O_,.nilIface])) ((V.setCell ⟨W.heap.size+1,0,none⟩ (O_)).setCell ⟨W.heap.size+1,1,none⟩ .nilIface)):=zy (λV f k=>by
  rw[K.o]
  exact⟨(E.trans f u_).trans (V_ V (W.heap.size+1) 0 1 _ _) (λx hx e=>M_),.inl ⟨rfl,k⟩⟩)
 have yes:H_ (∀V (i:Nat) (c:Nat×Nat),Fr w1 V N_->lw[i]?=some c->ql lr o c.1=none->a0 (.returned (.agg #[z_ 1,.iface 152 (.agg #[U_ c.1,I_ i])])) ((V.setCell ⟨W.heap.size+1,0,none⟩ (z_ 1)).setCell ⟨W.heap.size+1,1,none⟩ (.iface 152 (.agg #[U_ c.1,I_ i])))):=zy (λV i c f k1 k2=>by
  rw[K.o]
  exact⟨(E.trans f u_).trans (V_ V (W.heap.size+1) 0 1 _ _) (λx hx e=>M_),.inr ⟨i,c,k1,k2,rfl⟩⟩)
 replace z:=zy z;go_in;go_upto_region 1 with fail;rw[<- z.o];go_wp2;go_loopg [11] (lw.length+1) (λmm v V=>∃i:Nat,v=I_ i/\H_ (Fr w1 V N_)/\i<=lw.length/\lw.length+1-i<=mm/\H_ (∀(j:Nat) (c:Nat×Nat),j<i->lw[j]?=some c->ql lr o c.1≠none));case atStart=>exact⟨0,rfl,zy (A_ _ _),al_ _,M_,zy (λj c hj=>absurd hj (bt_ j))⟩
 case round=>
  obtain⟨i,rfl,f,hi,a5,hs⟩:=hrel;by_cases a1:i<lw.length
  .have a3:(i:Int)<(lw.length:Int):=M_;obtain⟨c,hc⟩:∃c,lw[i]?=some c:=⟨_,af_ a1⟩;obtain⟨g,rfl,k0,k1⟩:=item.o wr i c f hc;obtain⟨N,A⟩:=e_ (wr.alloc (.cells #[I_ c.2,U_ c.1] 186));have M:Fr w1 N N_:=by rw[A];exact f.o.alloc _
   have b4:Blk N wr.heap.size [I_ c.2,U_ c.1] 186:=by rw[A];exact B_ wr _ _
   obtain⟨d3,d4,d5,-⟩:=cel.o N M;have e1:=b4.c1;have t:=zy (rd.o N c.1 M);replace A:=zy A;cases u:ql lr o c.1 with
   |none=>
    rw[u]at t;have ov:fY none=.tuple #[O_,.bool false]:=rfl;rw[ov]at t;have fin:=zy (λV f=>yes.o V i c f hc u);generalize c.1=cc at *;generalize c.2=cp at *;go_upto_region 4 with fail;rw[<- A.o];go_wp2_with (first
     |(go_at_call 146;apply t.o.mono;rintro e w5 ⟨rfl,s⟩;have S:=zy (M.trans s u_);have a4:=s.ke e1)
     |(go_at_call 76;apply rL.mono;rintro e w6 ⟨rfl,f6⟩;have U:=S.o.trans f6 u_;have hb:=(cel.o w6 U).2.2.2;have Y:=hb.cell 0;have Z:=hb.cell 1;have t0:=hb.th 0;have t1:=hb.th 1;have h:=(hb.set 0 (z_ 1)).set 1 (.iface 152 (.agg #[U_ cc,I_ i]));have H:=h.cell 0;have J:=h.cell 1;simp only[am_,an_,aa_,ab_]at Y Z H J;have fn:=zy (fin.o w6 U)))
    refine bodyPost_ret (v:=.agg #[z_ 1,.iface 152 (.agg #[U_ cc,I_ i])]) (by simp[results,results124,go_sem,H,J]) rfl ?_;exact fn
   |some k=>
    rw[u]at t;have ov:fY (some k)=.tuple #[I_ k,.bool true]:=rfl;rw[ov]at t;have nx:H_ (∀(j:Nat) (c:Nat×Nat),j<i+1->lw[j]?=some c->ql lr o c.1≠none):=zy (λj c' hj X=>by
     by_cases e:j=i
     .subst e
      rw[hc]at X
      cases X
      rw[u]
      simp
     .exact hs.o j c' M_ X)
    generalize c.1=cc at *;generalize c.2=cp at *;go_upto_region 4 with fail;rw[<- A.o];go_wp2_with (go_at_call 146;apply t.o.mono;rintro e w5 ⟨rfl,s⟩;have S:=zy (M.trans s u_));go_roundg (lw.length+1-(i+1));case measure=>omega
    case rel=>exact⟨i+1,by simp,S,a1,l_,nx⟩
  .have a3:¬((i:Int)<(lw.length:Int)):=M_;have fin:=zy (no.o wr f (λj c hc=>hs.o j c (by have:=(ae_.1 hc).1;omega) hc));have hb:=(cel.o wr f).2.2.2;have Y:=hb.cell 0;have Z:=hb.cell 1;have t0:=hb.th 0;have t1:=hb.th 1;have h:=(hb.set 0 (O_)).set 1 .nilIface;have H:=h.cell 0;have J:=h.cell 1;simp only[am_,an_,aa_,ab_]at Y Z H J;go_wp2;refine bodyPost_ret (v:=.agg #[O_,.nilIface]) (by simp[results,results124,go_sem,H,J]) rfl ?_;exact fin
set_option maxRecDepth 100000
set_option linter.defProp false
@[go_sem]def FH:=yB 207 20
@[go_sem]def Vg:=vv 207 20 (.agg #[O_,.nilIface])
def JE(u:TypeId)(h:u≠207)(v:Value):Calls prog 145 #[.iface u v] w λe w'=>e=.returned (.bool false)/\Fr w w' N_:=by
 refine hq_ λf b=>?_;have n:=Vg u h;go_in;go_wp2;try go_ret
 rw[b.o];exact⟨rfl,by first|exact A_ _ _|exact(A_ _ _).alloc _⟩
def XY{p:Int}{vT:TypeId}{vx:Value}:Calls prog 145 #[.iface 207 (.agg #[z_ p,.iface vT vx])] w λe w'=>e=.returned (.bool true)/\Fr w w' N_:=by
 refine hq_ λf b=>?_;go_in;go_wp2;try go_ret
 rw[b.o];exact⟨rfl,by first|exact A_ _ _|exact(A_ _ _).alloc _⟩
def ItR(c B:Nat)(dv v:Value)(W:World):Prop:=
 (c=91/\∃pv,v=.iface 142 pv/\W.ownsRow B 59 1 pv 1 [dv])\/(c=123/\∃pv,v=.iface 145 pv/\W.ownsRow B 234 2 pv 1 [.string ⟨#[97]⟩,dv])
def ItR.fr{c:Nat}{dv v:Value}{W W':World}{S:Nat->Prop}(h:ItR c B dv v W)(hf:Fr W W' S)(f:∀g,B<=g->¬S g):ItR c B dv v W':=by
 rcases h with⟨e,pv,h1,b⟩|⟨e,pv,h1,b⟩
 .exact .inl ⟨e,pv,h1,zj b hf (λg hg=>f g (b.lt g hg).1)⟩
 .exact .inr ⟨e,pv,h1,zj b hf (λg hg=>f g (b.lt g hg).1)⟩
def oX{b c:Nat}{pv dT:Value}{m:TypeId}{u:Value}(hc:(c=91/\m≠207)\/(c=123/\m=207/\∃p vT vx,u=.agg #[z_ p,.iface vT vx]))(D:IfV dT)(h:Blk w b [.iface m u] 53)(ho:w.ownsRow B 59 1 pv 1 [dT])(hB:B<=w.heap.size):Calls prog 144 #[pv,P_ b] w λe w'=>∃v,e=.returned v/\IfV v/\Fr w w' N_/\ItR c B dT v w':=by
 obtain⟨z,k⟩:=y_ (λ(e:Ending) (w':World)=>∃v,e=.returned v/\IfV v/\Fr w w' N_/\ItR c B dT v w');rw[<- k.o];have c0:=h.c0;obtain⟨g,cap,rfl⟩:=zm ho M_;have A:w.cell? ⟨g,0,none⟩=some dT:=zr ho rfl rfl;rcases hc with⟨hc,hw⟩|⟨hc,rfl,p,vT,vx,rfl⟩
 .have s:=zy (JE (w:=w) m hw u);have fin:H_ (∀V,Fr w V N_->z (.returned (.iface 142 (S_ g 1 cap))) V):=zy (λV l=>by
   rw[k.o]
   exact⟨_,rfl,.inr ⟨_,_,rfl⟩,l,.inl ⟨hc,_,rfl,zj ho l u_⟩⟩)
  replace hc:=zy hc;go_in;go_wp2_with (go_at_call 145;apply s.o.mono;rintro e t ⟨rfl,f⟩;have q:=zy (fin.o t f));try go_ret
  exact q
 .have s:=zy (XY (w:=w) (p:=p) (vT:=vT) (vx:=vx));have fin:H_ (∀V,Fr w V N_->z (.returned (.iface 145 (S_ V.heap.size 1 1))) (V.alloc (.cells #[.string ⟨#[97]⟩,dT] 234))):=zy (λV l=>by
   rw[k.o]
   refine⟨_,rfl,.inr ⟨_,_,rfl⟩,l.alloc _,.inr ⟨hc,_,rfl,?_⟩⟩
   exact ui (cs:=[.string ⟨#[97]⟩,dT]) (B_ V #[.string ⟨#[97]⟩,dT] 234) (ak_ hB l.size) rfl (by unfold maxLen;omega))
  rcases D with rfl|⟨G,tx,rfl⟩;all_goals
   go_in;go_wp2_with (go_at_call 145;apply s.o.mono;rintro e t ⟨rfl,f⟩;have E:=f.ke A;have q:=zy (fin.o t f));try go_ret
   exact q
def Via.uniq{ew er:Nat->Option PB}{x y r r':PT}(h:Via ew er x y r)(b:Via ew er x y r'):r=r':=by
 rcases h with⟨a,rfl⟩|⟨p,rs,k,rfl,h1,m⟩
 .rcases b with⟨_,rfl⟩|⟨p,rs,k,rfl,_⟩
  .rfl
  .cases a
 .rcases b with⟨a,rfl⟩|⟨p',q,o,e,f,l⟩
  .cases a
  .cases e;rw[h1]at f;cases f;rw[m]at l;exact Option.some.inj l
def Via.nev{ew er:Nat->Option PB}{x y r:PT}(h:Via ew er x y r)(hm:yW ew er x r=true)(hn:Nev ew er x y):False:=by
 rcases h with⟨a,rfl⟩|⟨p,rs,k,rfl,h1,b⟩
 .rcases hn with⟨_,h⟩|⟨p,rs,rfl,_⟩
  .rw[hm]at h;cases h
  .cases a
 .rcases hn with⟨a,_⟩|⟨p',f,e,h⟩
  .cases a
  .cases e;rw[h1]at h;cases h
def svD.items{F:FD}{V f:World}{J m:Nat->Prop}{c p p' n:Nat}{u u' y:PT}{d v:Value}(hc:c=91\/c=123)(hv:Via (zx F.ds) (zx F.ds') (.wrap c p u) y (.wrap c p' u'))(h:svD F V J (UD F (u,u')) (UA (u,u')) n d)(D:∀x t z,DaV (zx F.ds) V J x t z->DaV (zx F.ds) f m x t z)(hB:∀x,B<=x->x<f.heap.size->m x)(h0:jnN [n]=0\/jnN [n]=301->v=.nilIface)(h1:1<=jnN [n]->jnN [n]<=300->ItR c B d v f):svD F f m (UD F (.wrap c p u,y)) (UA (.wrap c p u,y)) (jnN [n]) v:=by
 refine⟨h0,λe=>?_⟩;obtain⟨x,l,A,E⟩:=h.2 (iB e)
 rcases hc with rfl|rfl
 .have o:jnN [n]=nd3 (.mk 91 0 noB [] [x]):=by rw[<- A];exact mB (ds:=[x])
  refine⟨.mk 91 0 noB [] [x],.items hv (.list (by simp) (λz hz=>by simp at hz;subst hz;exact Un.dat l)) (by simp[DT.subs]) l,o.symm,λb t s=>?_⟩;obtain rfl:t=.wrap 91 p u:=s;rcases h1 M_ b with⟨_,pv,rfl,hr⟩|⟨e,_⟩
  .have q:n<=300:=(Je (ns:=[n]) (by simp) b M_).2;refine .row (λ_=>d) (.inl ⟨rfl,rfl⟩) (zS hr) (λg hg=>hB g (hr.lt g hg).1 (hr.lt g hg).2) (λi z hz=>?_);cases i with
   |zero=>simp at hz;subst hz;exact D _ _ _ (E q u rfl)
   |succ i=>simp at hz
  .cases e
 .have o:jnN [n]=nd3 (.mk 123 0 noB [⟨#[97]⟩] [x]):=by rw[<- A];exact mB (ds:=[x])
  refine⟨.mk 123 0 noB [⟨#[97]⟩] [x],.items hv (.map (by simp) rfl ⟨by simp[bK],λk hk=>by
   have G:k=0:=by
    have:k<1:=hk
    omega
   subst G
   decide,by show(1:Nat)<=_;omega,trivial⟩ (λz hz=>by simp at hz;subst hz;exact Un.dat l)) (by simp[DT.subs]) l,o.symm,λb t s=>?_⟩
  obtain rfl:t=.wrap 123 p u:=s;rcases h1 M_ b with⟨e,_⟩|⟨_,pv,rfl,hr⟩
  .cases e
  .have q:n<=300:=(Je (ns:=[n]) (by simp) b M_).2;refine .map (λ_=>d) rfl (λk hk=>by simp at hk;subst hk;show(1:Nat)<=_;omega) (zS hr) (λg hg=>hB g (hr.lt g hg).1 (hr.lt g hg).2) (λi z hz=>?_);cases i with
   |zero=>simp at hz;subst hz;exact D _ _ _ (E q u rfl)
   |succ i=>simp at hz
structure IM(F:FD)(W:World)(r:Value×List (Rw Qu))(rv:Value)(g:Bool)(T:List (Rw (PT×PT)))(a:PT×PT)(wv:Value)(q:Nat)(r':Value×List (Rw Qu))(rv':Value)(g':Bool)(T':List (Rw (PT×PT)))(n:Nat)(d:Value)(V:World):Prop where
 n3:n<=301
 d1:IfV d
 ti:TbI (uT F) (uI F) (uL F) V r' rv' g' T'
 st:Stp W V (TSS (uT F) (uL F) rv r) (TSS (uT F) (uL F) rv' r')
 gr:Grw (uT F).Cl T T' g g'
 hk:gz T' a n
 sv:svD F V (λy=>¬TSS (uT F) (uL F) rv' r' y) (UD F a) (UA a) n d
 bq:Blk V q [I_ n,d] 88
 b1:kG V (TSS (uT F) (uL F) rv' r') (W.heap.size+1) [wv] 53
 b2:kG V (TSS (uT F) (uL F) rv' r') (W.heap.size+2) [O_,.nilIface] 88
def dY{F:FD}(b9:F.OK){W:World}{r:Value×List (Rw Qu)}{rv:Value}{g:Bool}{T:List (Rw (PT×PT))}{c p p' m:Nat}{u u' y:PT}{s E f:TypeId}{A bx l:Value}(G:KOK (uT F) (uI F) (uL F) 52 prV m)(h:TbI (uT F) (uI F) (uL F) W r rv g T)(ha:TyV W F.P u (.iface s A))(hb:TyV W F.P' u' (.iface E bx))(hw:TyV W F.P (.wrap c p u) (.iface f l))(hq:okQ F (.ty (.wrap c p u)))(a3:okY F u')(hv:Via (zx F.ds) (zx F.ds') (.wrap c p u) y (.wrap c p' u'))(hm:90000<=T.length+m):Calls prog 123 #[P_ F.fb,.agg #[.iface s A,.iface E bx],.iface f l] W (yi (uT F) (uI F) (uL F) W r rv g T (.wrap c p u,y)):=by
 obtain⟨d2,Q_⟩:=y_ (yi (uT F) (uI F) (uL F) W r rv g T (.wrap c p u,y));rw[<- Q_.o];have O:=vo b9;have Z:=hq.2.1;unfold okT at Z;have a2:=hq.2.2;unfold vu at a2;have a6:okQ F (.ty u):=⟨hq.1.wrap,Z.2,a2⟩;have b6:(c=91/\f≠207)\/(c=123/\f=207/\∃p vT vx,l=.agg #[z_ p,.iface vT vx]):=by
  cases hw with
  |wrap _ _ b=>
   obtain⟨vT,vx,rfl⟩:=b.iface;rcases Z.1 with rfl|rfl
   .exact .inl ⟨rfl,D_⟩
   .exact .inr ⟨rfl,rfl,_,vT,vx,rfl⟩
 obtain⟨w1,Q⟩:=e_ (((W.alloc (.cells #[.iface s A,.iface E bx] 277)).alloc (.cells #[.iface f l] 53)).alloc (.cells #[O_,.nilIface] 88));have z1:=zi W (.cells #[.iface s A,.iface E bx] 277);have z2:=zi (W.alloc (.cells #[.iface s A,.iface E bx] 277)) (.cells #[.iface f l] 53);have A1:Fr W w1 N_:=by rw[Q];exact(((A_ W _).alloc _).alloc _).alloc _
 have B0:Blk w1 W.heap.size [.iface s A,.iface E bx] 277:=by rw[Q];exact((B_ W _ _).alloc _).alloc _
 have B1:Blk w1 (W.heap.size+1) [.iface f l] 53:=by
  rw[Q];have:=(B_ (W.alloc (.cells #[.iface s A,.iface E bx] 277)) #[.iface f l] 53).alloc (.cells #[O_,.nilIface] 88);rw[z1]at this;exact this
 have B2:Blk w1 (W.heap.size+2) [O_,.nilIface] 88:=by
  rw[Q];have:=B_ ((W.alloc (.cells #[.iface s A,.iface E bx] 277)).alloc (.cells #[.iface f l] 53)) #[O_,.nilIface] 88;rw[z2,z1]at this;exact this
 have hl:=λx (hx:TSS (uT F) (uL F) rv r x)=>(h.li O hx);have e1:F.fb<W.heap.size:=by have:F.fb<F.tu/\F.tu<W.heap.size:=hl F.tu (.inl (.inl rfl));omega
 have e5:w1.cell? ⟨F.fb,5,none⟩=some (P_ F.tu):=(h.new O A1).i.1.i.cell5;have p0:=B0.c0;have p1:=B0.c1;have call:H_ (∀V,Fr w1 V N_->Calls prog 52 #[P_ F.tu,.agg #[.iface s A,.iface E bx]] V (vN (uT F) (uI F) (uL F) V r rv g T (u,u'))):=zy (λV hV=>by
  have hf:=A1.trans hV u_
  exact G V r rv g T (u,u') [.iface s A,.iface E bx] (h.new O hf) ⟨a6,a3⟩ ⟨⟨_,_,rfl,ha.fr hf u_,hb.fr hf u_⟩,a6,a3⟩ hm)
 have e0:H_ (∀x,TSS (uT F) (uL F) rv r x->x<W.heap.size):=zy (λx e=>(hl x e).2);have a7:H_ (∀V0 V V1 r' rv' g' T' (x:Rw (PT×PT)) q,Fr w1 V0 N_->TbI (uT F) (uI F) (uL F) V r' rv' g' T'->Stp V0 V (TSS (uT F) (uL F) rv r) (TSS (uT F) (uL F) rv' r')->Grw (uT F).Cl T T' g g'->x∈T'->x.a=(u,u')->(Fr V V1 N_\/(W.heap.size+3<=q/\q<V0.heap.size/\Blk V q [O_,.nilIface] 88/\Fr V V1 (λx=>x=q)))->Blk V1 q [I_ x.n,x.d] 88->IM F W r rv g T (u,u') (.iface f l) q r' rv' g' T' x.n x.d V1):=zy (λV0 V V1 r' rv' g' T' x q hf b hs hg hx N d9 b5=>by
  have qq:=(b.t.q x hx).2.2
  have a4:=(E_ (A1.trans hf u_) (λ_ h=>h)).trans hs
  have o1:kG w1 (TSS (uT F) (uL F) rv r) (W.heap.size+1) [.iface f l] 53:=⟨B1,λe=>by have:=(hl _ e).2;omega⟩
  have o2:kG w1 (TSS (uT F) (uL F) rv r) (W.heap.size+2) [O_,.nilIface] 88:=⟨B2,λe=>by have:=(hl _ e).2;omega⟩
  have k1:=(o1.new hf).stp hs
  have k2:=(o2.new hf).stp hs
  have sv:=(b.v x hx).1
  rw[N]at sv
  rcases d9 with H|⟨e3,e4,b4,H⟩
  .exact⟨qq.1,qq.2,b.new O H,a4.trans (E_ H (λ_ h=>h)),hg,⟨x,hx,N,rfl⟩,svD.stp sv (E_ H (λ_ h=>h)),b5,k1.new H,k2.new H⟩
  .exact⟨qq.1,qq.2,b.put O (by show F.fb<q;omega) b4 H,⟨a4.1.trans H (λy hy e=>M_),a4.2⟩,hg,⟨x,hx,N,rfl⟩,svD.put sv b4 D_ D_ H,b5,k1.other H M_,k2.other H M_⟩)
 have a1:w1.heap.size=W.heap.size+3:=by rw[Q,zi,z2,z1]
 have a8:H_ (∀q r' rv' g' T' n d V,IM F W r rv g T (u,u') (.iface f l) q r' rv' g' T' n d V->Calls prog 109 #[S_ V.heap.size 1 1,.func (.func 144) #[] #[.pointer (some ⟨W.heap.size+1,0,none⟩)]] (V.alloc (.cells #[I_ n,d] 88)) (λe Y=>∃v,e=.returned (.agg #[z_ (jnN [n]:Int),v])/\IfV v/\Blk Y (W.heap.size+2) [O_,.nilIface] 88/\d2 (.returned (.agg #[z_ (jnN [n]:Int),v])) ((Y.setCell ⟨W.heap.size+2,0,none⟩ (z_ (jnN [n]:Int))).setCell ⟨W.heap.size+2,1,none⟩ v))):=zy (λq r' rv' g' T' n d V M=>by
  have A3:=(A_ V N_).alloc (.cells #[I_ n,d] 88)
  have a5:=zi V (.cells #[I_ n,d] 88)
  have e2:=M.n3
  have b3:=(M.b1.new A3).1
  refine(kY (w:=V.alloc (.cells #[I_ n,d] 88)) (ns:=[n]) (D:=λ_=>d) (fn:=144) (caps:=#[.pointer (some ⟨W.heap.size+1,0,none⟩)]) (R:=λv W'=>ItR c (V.heap.size+2) d v W') (ui (cs:=[I_ n,d]) (B_ V #[I_ n,d] 88) o_ rfl (by unfold maxLen;simp)) (λ_=>M.d1) (λk hk=>by simp at hk;omega) (by simp) (jA func144 K_ rfl) (λW' pv a9 hr=>?_) (λv W1 W2 h1 h2=>h1.fr h2 (λg hg e=>by rw[a5]at e;omega))).mono ?_
  .rw[a5]at hr
   have d7:=a9.size
   rw[a5]at d7
   have hB:V.heap.size+2<=W'.heap.size:=by
    have:=hr.lt
    obtain⟨gp,cp,rfl⟩:=zm hr (by simp)
    have:=hr.lt gp rfl
    omega
   exact oX b6 M.d1 (a9.bl b3 id) hr hB
  .rintro e Y ⟨v,rfl,a0,f4,v0,v1⟩
   have U:=A3.trans f4 u_
   have b2:=(M.b2.new U)
   refine⟨v,rfl,a0,b2.1,?_⟩
   rw[Q_.o]
   have X:=V_ Y (W.heap.size+2) 0 1 (z_ (jnN [n]:Int)) v
   have t4:=M.ti.new O U
   have b8:=M.st.trans (E_ U (λ_ h=>h))
   have d6:svD F Y (λy=>¬TSS (uT F) (uL F) rv' r' y) (UD F (.wrap c p u,y)) (UA (.wrap c p u,y)) (jnN [n]) v:=svD.items (V:=V) (J:=λy=>¬TSS (uT F) (uL F) rv' r' y) (B:=V.heap.size+2) Z.1 hv M.sv (λx t z hz=>hz.fr U u_) (λx hx e6 e=>by have:=(M.ti.li O e).2;omega) v0 v1
   refine⟨r',rv',g',T',jnN [n],v,rfl,tU _,a0,t4.put O (by show F.fb<W.heap.size+2;omega) b2.1 X,⟨b8.1.trans X (λx hx e=>M_),b8.2⟩,M.gr,?_,svD.put d6 b2.1 D_ D_ X⟩
   refine⟨λp1 ws e=>(by cases e),λ_ hn=>(Via.nev hv (by simp[yW]) hn).elim,λc1 p1 e7 u1 e8 e d8=>?_,λc p p' lw lr ow o q e=>(by cases e),λc p p' fw fr g i h e=>(by cases e),λc p p' fw fr g e=>(by cases e)⟩
   cases e
   cases Via.uniq hv d8
   exact⟨n,M.hk,.refl _⟩)
 replace Q:=zy Q;replace a1:=zy a1;go_in;go_upto_region 1 with fail;rw[<- Q.o];go_cut [7] (λv V=>∃q r' rv' g' T' n d,v=P_ q/\H_ (IM F W r rv g T (u,u') (.iface f l) q r' rv' g' T' n d V));case first=>
  refine tr_ 9 (λV=>f_ V F.fb 5 (P_ F.tu)/\f_ V W.heap.size 0 (.iface s A)/\f_ V W.heap.size 1 (.iface E bx)) ?_;refine tB_ 0 [1,2,3,9] ?_;refine tB_ 1 [2,3,9] ?_;refine tB_ 2 [3,9] ?_;refine tB_ 3 [9] ?_;refine tB_ 4 [5,8,9] ?_;refine tB_ 5 [8,9] ?_;refine tB_ 6 [7,8,9] ?_;refine tB_ 7 [8,9] ?_;refine tB_ 8 [9] ?_;refine jp 9 10 rfl rfl K_ (λ_=>⟨e5,p0,p1⟩) (λK G=>?_) (λK G=>?_)
  .go_simp;refine(call.o _ (A_ w1 _).drew).mono ?_;rintro e S ⟨r',rv',g',T',x,rfl,hx,N,b,hs,hg⟩;refine G _ _ ?_;have sD:=λW a m=>run_store prog W a x.d m ((b.t.q x hx).2.2.2).one;have fin:=zy (a7.o _ S (S.alloc (.cells #[I_ x.n,x.d] 88)) r' rv' g' T' x S.heap.size (A_ w1 _).drew b hs hg hx N (.inl ((A_ _ _).alloc _)) (B_ S #[I_ x.n,x.d] 88));generalize x.n=xn at *;generalize x.d=xd at *;refine t0_ 10 ?_;refine t0_ 11 ?_;refine td_ ?_ _;go_wp2;go_meet;exact⟨_,_,_,_,_,_,_,rfl,fin⟩
  .go_simp;refine G _ _ ?_;have X:=(A_ w1 N_).alloc (.cells #[O_,.nilIface] 88);have B3:=B_ w1 #[O_,.nilIface] 88;refine zw 9 rfl K_ (λ_=>⟨X.ke e5,X.ke p0,X.ke p1⟩) (λK G=>?_);go_simp;refine(call.o _ X.drew).mono ?_;rintro e S ⟨r',rv',g',T',x,rfl,hx,N,b,hs,hg⟩;refine G _ _ ?_;have sD:=λW a m=>run_store prog W a x.d m ((b.t.q x hx).2.2.2).one;have b7:¬TSS (uT F) (uL F) rv r w1.heap.size:=λe=>by
    have:=e0.o _ e;have:=a1.o;omega
   have U:=hs.1.bl B3.drew b7;have fin:=zy (a7.o _ S ((S.setCell ⟨w1.heap.size,0,none⟩ (I_ x.n)).setCell ⟨w1.heap.size,1,none⟩ x.d) r' rv' g' T' x w1.heap.size X.drew b hs hg hx N (.inr ⟨by have:=a1.o;omega,by show w1.heap.size<(w1.alloc _).heap.size;rw[zi];omega,U,V_ S w1.heap.size 0 1 _ _⟩) ((U.set 0 _).set 1 _));have k0:=U.c0;have k1:=U.c1;have t0:=U.th 0;have t1:=U.th 1;generalize x.n=xn at *;generalize x.d=xd at *;refine t0_ 11 ?_;refine td_ ?_ _;go_wp2;go_meet;exact⟨_,_,_,_,_,_,_,rfl,fin⟩
 case rest=>
  obtain⟨q,r',rv',g',T',n,d,rfl,M⟩:=hcut;have hC:=zy (a8.o _ _ _ _ _ _ _ _ M);have q0:=M.o.bq.c0;have q1:=M.o.bq.c1;have hd:=M.o.d1;generalize jnN [n]=jn at *;rcases hd with rfl|⟨tT,tx,rfl⟩;all_goals
   go_wp2_with (go_at_call 109;refine hC.o.mono ?_;rintro e Y ⟨v,rfl,a0,hb,hP⟩;have x0:=hb.cell 0;have x1:=hb.cell 1;have t0:=hb.th 0;have t1:=hb.th 1;have sD:=(λW a m=>run_store prog W a v m a0.one);have B8:=(hb.set 0 (I_ jn)).set 1 v;have y0:=B8.cell 0;have y1:=B8.cell 1;simp only[am_,an_,aa_,ab_]at x0 x1 y0 y1;replace hP:=zy hP);refine bodyPost_ret (v:=.agg #[I_ jn,v]) (by simp[results,results123,go_sem,y0,y1]) rfl ?_;exact hP
def XA{lv:Value}{n:Nat}{xs:List Value}(h:w.ownsRow B 88 2 lv n xs)(hn:n<=300)(h1:∀u∈xs,u.oneCell'=true):Calls prog 147 #[lv] w λe w'=>∃v,e=.returned v/\Fr w w' N_/\w'.ownsRow w.heap.size 88 2 v n xs:=by
 obtain⟨f,b⟩:=y_ (λ(e:Ending) (w':World)=>∃v,e=.returned v/\Fr w w' N_/\w'.ownsRow w.heap.size 88 2 v n xs);rw[<- b.o];rcases h.2 with⟨e,h0⟩|⟨g,cap,N,e,_⟩
 .have hp:H_ (f (.returned (L_)) w):=zy (by
   rw[b.o]
   obtain rfl:n=0:=M_
   obtain rfl:xs=[]:=List.eq_nil_of_length_eq_zero (by have:=h.1;omega)
   exact⟨_,rfl,A_ _ _,World.ownsRow_nil _ _ _ _⟩)
  subst e;have nn:∀W,(binOp .eql 261 (L_) (L_)).run prog W=.ok (.bool true) W:=λW=>by kernel_rfl
  go_in;go_wp2;try go_ret
  exact hp
 .subst e;obtain⟨ti,t,z,A,D⟩:=info_parts ZN;have nw:H_ (∀j u,xs[j]?=some u->(w.alloc (.cells #[] 88)).cell? ((⟨g,0,none⟩:Addr).add j)=some u):=zy (λj u E=>by
   have:=zr h rfl E
   have k:=((A_ w N_).alloc (.cells #[] 88)).ke this
   by_cases h0:j=0
   .subst h0
    exact k
   .simpa[Addr.add,h0] using k)
  have hl:H_ (xs.length=n*2):=zy h.1;have ow:H_ ((w.alloc (.cells #[] 88)).ownsRow w.heap.size 88 2 (S_ w.heap.size 0 0) 0 []):=zy (ui (cs:=[]) (B_ w #[] 88) l_ rfl o_);have fin:H_ (∀v w',w'.ownsRow w.heap.size 88 2 v (0+n) ([]++xs)->(w.alloc (.cells #[] 88)).grownBy w' (some w.heap.size)->f (.returned v) w'):=zy (λv w' q J=>by
   rw[b.o]
   rw[bn_,bk_]at q
   refine⟨v,rfl,?_,q⟩
   exact((A_ w N_).alloc (.cells #[] 88)).trans ((A_ _ (λx=>x=w.heap.size)).gw J (λk e _=>by simpa using e.symm)) (λx hx e=>M_))
  replace h1:=zy h1;have nn:∀W,(binOp .eql 261 (S_ g n cap) (L_)).run prog W=.ok (.bool false) W:=λW=>by kernel_rfl
  go_in;go_wp2_with (first
   |(at_builtin;go_must (refine wpList_append_own_at _ rfl _ _ 261 rfl w.heap.size 88 ti _ 2 24 nA t z A D rfl D_ (S_ w.heap.size 0 0) 0 [] rfl ?hown ⟨g,0,none⟩ n cap xs rfl ?len ?nn ?one ?b1 ?b2 ?b3 ?_)
     case hown=>exact ow
     case len=>exact hl
     case nn=>exact nw
     case one=>exact h1
     case b1=>unfold maxLen;omega
     case b2=>omega
     case b3=>simp
     intro K M m l H G
     have s:=zy (fin.o K M m l)
     clear m l H G))
  try go_ret
  exact s
section
variable {α ρ:Type} {P:TP α ρ} {I:TI α} {L:TL} {F:FD} {fs:List PF} {C:List (Rw α)->PF->Nat->Prop} {c0:List Value} {T0:TypeId} {W V V1:World} {r r':ρ} {rv rv' lv:Value} {g g':Bool} {T T':List (Rw α)} {ns:List Nat} {Dv:Nat->Value}
def RFM.put(l:P.OK I L)(h:RFM P I L F fs C c0 T0 W r rv g T ns Dv lv V r' rv' g' T'){q:Nat}{cs:List Value}(hb:Blk V q cs 88)(m:W.heap.size+2<=q)(hl:lv.ownBlock≠some q)(hf:Fr V V1 (λx=>x=q)):RFM P I L F fs C c0 T0 W r rv g T ns Dv lv V1 r' rv' g' T':=
 ⟨h.ti.put l (by have:=h.f;omega) hb hf,⟨h.st.1.trans hf (λx hx e=>M_),h.st.2⟩,h.gr,zj h.row hf (λb e k=>hl (k▸e)),h.no,λj k f e e'=>⟨(h.kn j k f e e').1,(h.kn j k f e e').2.put hb D_ D_ hf⟩,h.iv,h.le,h.o0.other hf M_,h.o1.other hf M_,h.f⟩
end
def cK(F:FD)(fw:List PF)(T:List (Rw (PT×PT)))(g:PF)(v:Nat):Prop:=
 (∀i h,jg fw g.letter=some i->fw[i]?=some h->∃ks:List Nat,ks.length=fw.length/\(∀(q:Nat) (f:PF) (k:Nat),fw[q]?=some f->ks[q]?=some k->if q=i then gz T (h.ty,g.ty) k else LL F f.ty k)/\le0 v (jnN ks))/\
 (jg fw g.letter=none->g.dflt=none->∃ks:List Nat,ks.length=fw.length/\(∀(q:Nat) (f:PF) (k:Nat),fw[q]?=some f->ks[q]?=some k->LL F f.ty k)/\le0 v (jnN ks))
def cK.ls{F:FD}{fw:List PF}{T:List (Rw (PT×PT))}{g:PF}{v o:Nat}(h:cK F fw T g v)(hv:le0 o v)(R:List (Rw (PT×PT))):cK F fw (T++R) g o:=by
 refine⟨λi s e e'=>?_,λe e'=>?_⟩
 .obtain⟨ks,h1,b,l⟩:=h.1 i s e e';refine⟨ks,h1,λq f k t u=>?_,hv.trans l⟩;have:=b q f k t u;split at this
  .rename_i m;rw[i_ m];exact this.more R
  .rename_i m;rw[n_ m];exact this
 .obtain⟨ks,h1,b,l⟩:=h.2 e e';exact⟨ks,h1,b,hv.trans l⟩
structure UFM(F:FD)(fw fr:List PF)(c0:List Value)(W:World)(r:Value×List (Rw Qu))(rv:Value)(g:Bool)(T:List (Rw (PT×PT)))(a:PT×PT)(qf:Nat)(ns:List Nat)(Dv:Nat->Value)(lv:Value)(j n:Nat)(d:Value)(V:World)(r':Value×List (Rw Qu))(rv':Value)(g':Bool)(T':List (Rw (PT×PT))):Prop where
 B:RFM (uT F) (uI F) (uL F) F fw (λ_ f k=>LL F f.ty k) c0 283 W r rv g T ns Dv lv V r' rv' g' T'
 len:ns.length=fw.length
 bf:kG V (TSS (uT F) (uL F) rv' r') qf [I_ n,d] 88
 ge:W.heap.size+2<=qf
 nl:lv.ownBlock≠some qf
 n3:n<=301
 d1:IfV d
 sv:svD F V (λy=>¬TSS (uT F) (uL F) rv' r' y) (UD F a) (UA a) n d
 dn:∀q x,q<j->fr[q]?=some x->cK F fw T' x n
section
variable {F:FD} {fw fr:List PF} {c0:List Value} {W V V1:World} {r r' r1:Value×List (Rw Qu)} {rv rv' rv1:Value} {g g' g1:Bool} {T T' T1:List (Rw (PT×PT))} {a:PT×PT} {qf:Nat} {ns:List Nat} {Dv:Nat->Value} {lv:Value} {j n:Nat} {d:Value}
def UFM.start(b:F.OK)(h:RFM (uT F) (uI F) (uL F) F fw (λ_ f k=>LL F f.ty k) c0 283 W r rv g T ns Dv lv V r' rv' g' T')(hl:ns.length=fw.length):UFM F fw fr c0 W r rv g T a V.heap.size ns Dv lv 0 0 .nilIface (V.alloc (.cells #[O_,.nilIface] 88)) r' rv' g' T':=
 have hz:=h.o1.1.lt
 ⟨h.new (vo b) ((A_ V _).alloc _),hl,⟨B_ V #[O_,.nilIface] 88,λe=>by have:=(h.ti.li (vo b) e).2;omega⟩,M_,λe=>by have:=(h.row.lt _ e).2;omega,M_,.inl rfl,⟨λ_=>rfl,λe=>absurd rfl e⟩,λq x l=>absurd l (bt_ q)⟩
def UFM.new(b:F.OK)(h:UFM F fw fr c0 W r rv g T a qf ns Dv lv j n d V r' rv' g' T')(hf:Fr V V1 N_):UFM F fw fr c0 W r rv g T a qf ns Dv lv j n d V1 r' rv' g' T':=
 ⟨h.B.new (vo b) hf,h.len,h.bf.new hf,h.ge,h.nl,h.n3,h.d1,h.sv.stp (E_ hf (λ_ h=>h)),h.dn⟩
def UFM.known(b:F.OK)(h:UFM F fw fr c0 W r rv g T a qf ns Dv lv j n d V r' rv' g' T')(o:TbI (uT F) (uI F) (uL F) V1 r1 rv1 g1 T1)(hs:Stp V V1 (TSS (uT F) (uL F) rv' r') (TSS (uT F) (uL F) rv1 r1))(hg:Grw (uT F).Cl T' T1 g' g1):UFM F fw fr c0 W r rv g T a qf ns Dv lv j n d V1 r1 rv1 g1 T1:=by
 have l:=hg;obtain⟨R,f,_⟩:=l;exact⟨h.B.known (vo b) (λ_ _ _ _ k=>k) o hs hg,h.len,h.bf.stp hs,h.ge,h.nl,h.n3,h.d1,h.sv.stp hs,λq x m e=>by rw[f];exact(h.dn q x m e).ls (.refl _) R⟩
def UFM.put(b:F.OK)(h:UFM F fw fr c0 W r rv g T a qf ns Dv lv j n d V r' rv' g' T'){q:Nat}{cs:List Value}(hb:Blk V q cs 88)(e:W.heap.size+2<=q)(hl:lv.ownBlock≠some q)(hn:q≠qf)(hf:Fr V V1 (λx=>x=q)):UFM F fw fr c0 W r rv g T a qf ns Dv lv j n d V1 r' rv' g' T':=
 ⟨h.B.put (vo b) hb e hl hf,h.len,h.bf.other hf (Ne.symm hn),h.ge,h.nl,h.n3,h.d1,h.sv.put hb D_ D_ hf,h.dn⟩
def UFM.next(h:UFM F fw fr c0 W r rv g T a qf ns Dv lv j n d V r' rv' g' T')(hx:∀x,fr[j]?=some x->cK F fw T' x n):UFM F fw fr c0 W r rv g T a qf ns Dv lv (j+1) n d V r' rv' g' T':=
 ⟨h.B,h.len,h.bf,h.ge,h.nl,h.n3,h.d1,h.sv,λq x f e=>by
  by_cases b:q=j
  .subst b
   exact hx x e
  .exact h.dn q x M_ e⟩
def UFM.best(l:F.OK)(h:UFM F fw fr c0 W r rv g T a qf ns Dv lv j n d V r' rv' g' T'){m:Nat}{kv:Value}{x:PF}(hm:m<=301)(hk:IfV kv)(s:svD F V (λy=>¬TSS (uT F) (uL F) rv' r' y) (UD F a) (UA a) m kv)(hx:fr[j]?=some x)(hc:cK F fw T' x m)(b:Bool)(hb:btr m n=b):UFM F fw fr c0 W r rv g T a qf ns Dv lv (j+1) (if b=true then m else n) (if b=true then kv else d) ((V.setCell ⟨qf,0,none⟩ (z_ ((if b=true then m else n:Nat):Int))).setCell ⟨qf,1,none⟩ (if b=true then kv else d)) r' rv' g' T':=by
 subst hb;have f:=V_ V qf 0 1 (z_ ((if btr m n=true then m else n:Nat):Int)) (if btr m n=true then kv else d);have k:=h.B.put (vo l) h.bf.1 h.ge h.nl f;obtain⟨l1,l2⟩:=ZL (n:=n) (m:=m);refine⟨k,h.len,⟨?_,h.bf.2⟩,h.ge,h.nl,by split;exact hm;exact h.n3,by split;exact hk;exact h.d1,?_,λq y t e=>?_⟩
 .have:=(h.bf.1.set 0 (z_ ((if btr m n=true then m else n:Nat):Int))).set 1 (if btr m n=true then kv else d);simpa using this
 .refine svD.put ?_ h.bf.1 D_ D_ f;split
  .exact s
  .exact h.sv
 .by_cases o:q=j
  .subst o;rw[hx]at e;cases e;have:=hc.ls l2 [];rwa[b3_]at this
  .have:=(h.dn q y M_ e).ls l1 [];rwa[b3_]at this
end
structure UCM(F:FD)(fw:List PF)(a:PT×PT)(x:PF)(ks:List Nat)(Dk:Nat->Value)(v:Value)(V:World)(r':Value×List (Rw Qu))(rv':Value)(T':List (Rw (PT×PT))):Prop where
 row:qI V v ks Dk
 len:ks.length=fw.length
 iv:∀j,IfV (Dk j)
 le:∀k∈ks,k<=301
 cl:cK F fw T' x (jnN ks)
 sv:∀V1 kv,Fr V V1 N_->(jnN ks=0\/jnN ks=301->kv=.nilIface)->(1<=jnN ks->jnN ks<=300->RcR (V.heap.size+2) ks.length Dk kv V1)->svD F V1 (λy=>¬TSS (uT F) (uL F) rv' r' y) (UD F a) (UA a) (jnN ks) kv
def Vy{ns:List Nat}{Dv:Nat->Value}{n:Nat}{d:Value}(hi:i<ns.length):((((List.range ns.length).flatMap λj=>[Value.int .i64 ((ns.getD j 0:Nat):Int),Dv j]).set (i*2) (I_ n)).set (i*2+1) d)=(List.range (ns.set i n).length).flatMap λj=>[Value.int .i64 (((ns.set i n).getD j 0:Nat):Int),(λj=>if j=i then d else Dv j) j]:=by
 have hl:∀(N:Nat) (f:Nat->List Value),(∀j,(f j).length=2)->((List.range N).flatMap f).length=N*2:=λN f hf=>by
  induction N with
  |zero=>rfl
  |succ N ih=>rw[bp_,be_,ai_,ih];simp[hf];omega
 have gt:∀(N:Nat) (f:Nat->List Value),(∀j,(f j).length=2)->∀q p,q<N->p<2->((List.range N).flatMap f)[q*2+p]?=(f q)[p]?:=λN f hf q p b hp=>wn (l:=List.range N) (λx _=>hf x) (b9_ b) hp;apply List.ext_getElem?;intro k;rw[bh_];by_cases hk:k<ns.length*2
 .obtain⟨q,p,hp,rfl⟩:∃q p,p<2/\k=q*2+p:=⟨k / 2,k % 2,M_,M_⟩;have b:q<ns.length:=M_;rw[gt _ _ (λ_=>rfl) q p b hp];have hb:((List.range ns.length).flatMap λj=>[Value.int .i64 ((ns.getD j 0:Nat):Int),Dv j])[q*2+p]?=([Value.int .i64 ((ns.getD q 0:Nat):Int),Dv q])[p]?:=gt _ _ (λ_=>rfl) q p b hp;have e:=hl ns.length (λj=>[Value.int .i64 ((ns.getD j 0:Nat):Int),Dv j]) (λ_=>rfl);by_cases h:q=i
  .subst h;rcases(by omega:p=0\/p=1) with rfl|rfl
   .rw[bq_ M_,Nat.add_zero,cd_ (by rw[e];omega)];simp[ap_,b]
   .rw[cd_ (by rw[bh_,e];omega)];simp
  .rw[bq_ M_,bq_ M_,hb];have:(ns.set i n).getD q 0=ns.getD q 0:=by rw[ap_,ap_,bq_ M_]
   rw[this];simp[h]
 .rw[a4_ (by rw[bh_,bh_,hl _ _ (λ_=>rfl)];omega),a4_ (by rw[hl _ _ (λ_=>rfl)];omega)]
section
variable {F:FD} {fw fr:List PF} {c0:List Value} {W V:World} {r r':Value×List (Rw Qu)} {rv rv':Value} {g g':Bool} {T T':List (Rw (PT×PT))} {qf c p p':Nat} {y:PT} {ns:List Nat} {Dv:Nat->Value} {lv:Value} {j n:Nat} {d v:Value} {x:PF}
def VJ(o:F.OK)(h:UFM F fw fr c0 W r rv g T (.leaf c p,y) qf ns Dv lv j n d V r' rv' g' T')(hv:Via (zx F.ds) (zx F.ds') (.leaf c p) y (.leaf c p'))(hb:zu c=false)(b:zx F.ds c=some (.recd fw))(D:zx F.ds' c=some (.recd fr))(hx:fr[j]?=some x)(hi:jg fw x.letter=none)(hd:x.dflt=none)(row:qI V v ns Dv):UCM F fw (.leaf c p,y) x ns Dv v V r' rv' T':=by
 refine⟨row,h.len,h.B.iv,h.B.le,⟨λi M e=>(by rw[hi]at e;cases e),λ_ _=>⟨ns,h.len,λq f k e e'=>(h.B.kn q k f e' e).1,.refl _⟩⟩,λV1 kv hf h0 h1=>?_⟩;refine svD.recd (F:=F) (V:=V) (J:=λy=>¬TSS (uT F) (uL F) rv' r' y) (Dj:=λj d=>∀f,fw[j]?=some f->Dat (zx F.ds) d f.ty) (B:=V.heap.size+2) h.len (λq k f e e'=>?_) (λds hl A=>?_) (λu hu=>⟨c,p,hu,b⟩) (λz t u hz=>hz.fr hf u_) (λz hz N e=>by have:=(h.B.ti.li (vo o) e).2;omega) h0 h1
 .have:=(h.B.kn q k f e e').2;exact⟨this.1,λs=>by
   obtain⟨z,E,G,H⟩:=this.2 s
   exact⟨z,λK m=>by rw[e']at m;cases m;exact E _ rfl,G,H⟩⟩
 .refine Un.lack hv hb b D (.recd b hb hl (λi z t e e'=>?_)) (aj_ hx) hi hd;rw[aq_]at e';cases l:fw[i]? with
  |none=>rw[l]at e';cases e'
  |some f=>rw[l]at e';cases e';exact A i z e f l
def Yd(O:F.OK){G:PF}{z:Rw (PT×PT)}(h:UFM F fw fr c0 W r rv g T (.leaf c p,y) qf ns Dv lv j n d V r' rv' g' T')(hv:Via (zx F.ds) (zx F.ds') (.leaf c p) y (.leaf c p'))(hb:zu c=false)(D:zx F.ds c=some (.recd fw))(R:zx F.ds' c=some (.recd fr))(hx:fr[j]?=some x)(hi:jg fw x.letter=some i)(o:fw[i]?=some G)(hz:z∈T')(N:z.a=(G.ty,x.ty))(row:qI V v (ns.set i z.n) (λj=>if j=i then z.d else Dv j)):UCM F fw (.leaf c p,y) x (ns.set i z.n) (λj=>if j=i then z.d else Dv j) v V r' rv' T':=by
 have a1:=(ae_.1 o).1;have a0:=h.len;have q:=(h.B.ti.t.q z hz).2.2;have sv:=(h.B.ti.v z hz).1;rw[N]at sv;have s:∀(q k:Nat),(ns.set i z.n)[q]?=some k->(q=i/\k=z.n)\/(q≠i/\ns[q]?=some k):=λq k e=>by
  by_cases l:q=i
  .subst l;rw[cd_ M_]at e;cases e;exact .inl ⟨rfl,rfl⟩
  .rw[bq_ M_]at e;exact .inr ⟨l,e⟩
 refine⟨row,by rw[bh_];exact h.len,λb=>?_,λk hk=>?_,⟨λi' Z e e'=>?_,λe=>(by rw[hi]at e;cases e)⟩,λV1 kv hf h0 h1=>?_⟩
 .show IfV (if b=i then z.d else Dv b);split
  .exact q.2
  .exact h.B.iv b
 .obtain⟨b,m⟩:=a5_ hk;rcases s b k m with⟨_,rfl⟩|⟨_,e⟩
  .exact q.1
  .exact h.B.le k (aj_ e)
 .rw[hi]at e;cases e;rw[o]at e';cases e';refine⟨_,by rw[bh_];exact h.len,λb f k e e'=>?_,.refl _⟩;rcases s b k e' with⟨rfl,rfl⟩|⟨l,A⟩
  .rw[i_ rfl];exact⟨z,hz,N,rfl⟩
  .rw[n_ l];exact(h.B.kn b k f A e).1
 .refine svD.recd (F:=F) (V:=V) (J:=λy=>¬TSS (uT F) (uL F) rv' r' y) (Dj:=λq d=>if q=i then Un (zx F.ds) (zx F.ds') G.ty x.ty d else ∀f,fw[q]?=some f->Dat (zx F.ds) d f.ty) (B:=V.heap.size+2) (by rw[bh_];exact h.len) (λb k f e e'=>?_) (λds hl K=>?_) (λu hu=>⟨c,p,hu,D⟩) (λz t u hz=>hz.fr hf u_) (λz hz a2 e=>by have:=(h.B.ti.li (vo O) e).2;omega) h0 h1
  .rcases s b k e with⟨rfl,rfl⟩|⟨l,A⟩
   .rw[o]at e';cases e';simp only[if_true];exact sv
   .simp only[l,if_false];have:=(h.B.kn b k f A e').2;exact⟨this.1,λQ=>by
     obtain⟨z,S,U,X⟩:=this.2 Q
     exact⟨z,λY E=>by rw[e']at E;cases E;exact S _ rfl,U,X⟩⟩
  .have H:i<ds.length:=M_;have M:=K i _ (af_ H);rw[i_ rfl]at M;refine Un.field hv hb D R (.recd D hb hl (λb z t e e'=>?_)) (aj_ hx) hi o (af_ H) M;rw[aq_]at e';have m:=K b z e;by_cases l:b=i
   .subst l;rw[o]at e';cases e';rw[i_ rfl]at m;exact m.dat
   .rw[n_ l]at m;cases E:fw[b]? with
    |none=>rw[E]at e';cases e'
    |some f=>rw[E]at e';cases e';exact m f E
end
end Go.Proofs.YtjkiencmjggakaaGreatDoor
