import Derived.Test.YtamhgejdkclmdaaGreatDoorW27
set_option maxHeartbeats 16000000
set_option maxRecDepth 100000
set_option linter.defProp false
set_option linter.unusedSimpArgs false
set_option linter.unusedVariables false
open Go.Proofs.Tryz
namespace Go.Proofs.YtamhgejdkclmdaaGreatDoor
open Go.RowKit
variable {bT:Av}{bx:Ax}{ua va:Al}{uc B m un vc i:Nat}{w:Aw}{q:Int}
def FX.cell5{F:FD}{W:Aw}(h:FX F W):W.cell? ⟨F.fb,5,none⟩=some (P_ F.tu):=h.b.cell 5
def Zd{F:FD}(H:F.OK){W:Aw}{r:Bt}{rv uv:Ax}{g:Ar}{T:Ai}{p:Nat}{l:Ad}{y:PT}{X:Ah}(hK:KOK (uT F) (uI F) (uL F) 53 prV m)(h:TbI (uT F) (uI F) (uL F) W r rv g T)(ho:W.ownsRow 0 58 1 uv l.length ((List.range l.length).map X))(hP:∀g,uv.ownBlock=some g->F.P g)(hX:∀i t,l[i]?=some t->TyV W F.P t (X i))(hy:TyV W F.P' y (.iface bT bx))(hq:okQ F (.ty (.alts p l)))(hqy:okY F y)(hm:90000<=T.length+m):Calls prog 138 #[P_ F.fb,.agg #[uv,.iface bT bx]] W (yG (uT F) (uI F) (uL F) W r rv g T (.alts p l,y)):=by
 have cc1:=Nat
 exact cq1_
set_option maxRecDepth 100000
set_option linter.defProp false
@[go_sem]def Ul:=yH 298 203
@[go_sem]def Ja:=vm 298 203 (.agg #[])
section
variable {W:Aw} {R:Co} {fb:Nat} {wT:Av} {wx:Ax}
def cq9_{p:Prop}(h:p:=by
 refine hq_ λA t=>?_;have k:H_ (∀o,Fr W ((W.alloc (.cells #[O_,.nilIface] 93)).alloc o) N_/\Blk ((W.alloc (.cells #[O_,.nilIface] 93)).alloc o) W.heap.size [O_,.nilIface] 93):=zy (λo=>⟨((A_ W _).alloc _).alloc _,(B_ W _ _).alloc _⟩);replace h:=zy h;(first|(have:=cc4;have n0:=Ja 270 D_)|(have:=cc5;have D:=yc hc)|(skip));go_in;go_wp2_with ((first|go_at_call 140|go_at_call 141|go_at_call 139|go_at_call 138|go_at_call 91|go_at_call 137);apply(h.o _ ?fr ?bl).mono;(case fr=>exact(k.o _).1);(case bl=>exact(k.o _).2);rintro e J ⟨n,d,rfl,hd,hb,f⟩;have u:=hb.cell 0;have z:=hb.cell 1;have G:=hb.th 0;have H:=hb.th 1;have E:=(λW a m=>run_store prog W a d m hd.one);have b:=(hb.set 0 (I_ n)).set 1 d;have l:=b.cell 0;have s:=b.cell 1;simp only[am_,ao_,aa_,ab_]at u z l s;replace f:=zy f;clear b hb hd);refine bodyPost_ret (v:=.agg #[I_ n,d]) (by simp[results,results91,go_sem,l,s]) rfl ?_;rw[t.o];exact f.o):p:=h
def sG{tb:Nat}(hc:W.cell? ⟨fb,4,none⟩=some (P_ tb))(h:∀W1,Fr W W1 N_->Blk W1 W.heap.size [O_,.nilIface] 93->Calls prog 137 #[P_ tb,.iface wT wx] W1 (kH W R)):Calls prog 91 #[P_ fb,.iface 298 (.agg #[]),.iface wT wx] W R:=by
 have cc5:=Nat
 exact cq9_
def sW(h:∀W1,Fr W W1 N_->Blk W1 W.heap.size [O_,.nilIface] 93->Calls prog 138 #[P_ fb,.agg #[.slice ua un uc,.iface bT bx]] W1 (kH W R)):Calls prog 91 #[P_ fb,.iface 267 (.agg #[.slice ua un uc,.iface bT bx]),.iface wT wx] W R:=by
 have cc3:=Nat
 exact cq9_
def eU{n0:Int}(h:∀W1,Fr W W1 N_->Blk W1 W.heap.size [O_,.nilIface] 93->Calls prog 91 #[P_ fb,.iface bT bx,.iface wT wx] W1 (kH W R)):Calls prog 91 #[P_ fb,.iface 270 (.agg #[Z_ n0,.iface bT bx]),.iface wT wx] W R:=by
 have cc4:=Nat
 exact cq9_
def cO{aT:Av}{ax:Ax}(h:∀W1,Fr W W1 N_->Blk W1 W.heap.size [O_,.nilIface] 93->Calls prog 139 #[P_ fb,.agg #[.iface aT ax,.iface bT bx],.iface wT wx] W1 (kH W R)):Calls prog 91 #[P_ fb,.iface 272 (.agg #[.iface aT ax,.iface bT bx]),.iface wT wx] W R:=by
 have cc2:=Nat
 exact cq9_
def ur{p:Int}{vn:Nat}{a b:Al}(h:∀W1,Fr W W1 N_->Blk W1 W.heap.size [O_,.nilIface] 93->Calls prog 140 #[.agg #[Z_ p,.slice ua un uc,.pointer a,Z_ q,.slice va vn vc,.pointer b]] W1 (kH W R)):Calls prog 91 #[P_ fb,.iface 275 (.agg #[Z_ p,.slice ua un uc,.pointer a,Z_ q,.slice va vn vc,.pointer b]),.iface wT wx] W R:=by
 exact cq9_
def cm{p:Int}{vn:Nat}(h:∀W1,Fr W W1 N_->Blk W1 W.heap.size [O_,.nilIface] 93->Calls prog 141 #[P_ fb,.agg #[Z_ p,.slice ua un uc,Z_ q,.slice va vn vc]] W1 (kH W R)):Calls prog 91 #[P_ fb,.iface 278 (.agg #[Z_ p,.slice ua un uc,Z_ q,.slice va vn vc]),.iface wT wx] W R:=by
 have cc1:=Nat
 exact cq9_
def eM(h:∀l,Fr W l N_->R (.returned (.agg #[O_,.nilIface])) l):Calls prog 91 #[P_ fb,.iface 265 (.agg #[]),.iface wT wx] W R:=by
 refine hq_ λD u=>?_;obtain⟨w1,hw1⟩:=e_ (W.alloc (.cells #[O_,.nilIface] 93));have k:Fr W w1 N_:=xv_
 have b:Blk w1 W.heap.size [O_,.nilIface] 93:=y6_
 have z:=b.cell 0;have A:=b.cell 1;have E:=b.th 0;have G:=b.th 1;have f:=(b.set 0 (O_)).set 1 .nilIface;have s:=f.cell 0;have t:=f.cell 1;simp only[am_,ao_,aa_,ab_]at z A s t;have fin:=zy (h _ (k.trans (J_ w1 W.heap.size 0 1 (O_) .nilIface) (λx hx e=>M_)));replace hw1:=zy hw1;go_in;go_upto_region 1 with fail;rw[<- hw1.o];go_wp2;refine bodyPost_ret (v:=.agg #[O_,.nilIface]) (by simp[results,results91,go_sem,s,t]) rfl ?_;rw[u.o];exact fin
end
def Gu(W:Aw)(lw lr:As)(o:Ac)(e:Ak)(w':Aw):Prop:=
 Fr W w' N_/\((e=.returned (.agg #[O_,.nilIface])/\∀(i:Nat) (c:Nat×Nat),lw[i]?=some c->jY lr o c.1≠none)\/∃(i:Nat) (c:Nat×Nat),lw[i]?=some c/\jY lr o c.1=none/\e=.returned (.agg #[Z_ 1,.iface 157 (.agg #[U_ c.1,I_ i])]))
def BG{W:Aw}{g cap:Nat}{l:As}(ho:W.ownsRow 0 192 2 (S_ g l.length cap) l.length (zI l)){c:Nat×Nat}(hi:l[i]?=some c):W.cell? ⟨g,i*2,none⟩=some (I_ c.2)/\W.cell? ⟨g,i*2+1,none⟩=some (U_ c.1):=by
 have h0:=gZ (f:=λq:Nat×Nat=>[Value.int .i64 (q.2:Int),Value.int .u8 (q.1:Int)]) (w:=2) (l:=l) (λx _=>rfl) (j:=0) hi M_;have h1:=gZ (f:=λq:Nat×Nat=>[Value.int .i64 (q.2:Int),Value.int .u8 (q.1:Int)]) (w:=2) (l:=l) (λx _=>rfl) (j:=1) hi M_;exact⟨zt ho rfl h0,zt ho rfl h1⟩
def Vn{W:Aw}{Q:Az}{lw lr:As}{o:Ac}{p:Int}{a b:Al}(hw:W.ownsRow 0 192 2 (.slice ua lw.length uc) lw.length (zI lw))(hr:W.ownsRow 0 192 2 (.slice va lr.length vc) lr.length (zI lr))(hu:qu W Q o (.pointer b))(hl:lw.length<=300)(a0:lr.length<=300):Calls prog 140 #[.agg #[Z_ p,.slice ua lw.length uc,.pointer a,Z_ q,.slice va lr.length vc,.pointer b]] W (Gu W lw lr o):=by
 obtain⟨O,z⟩:=y_ (Gu W lw lr o);rw[<- z.o];obtain⟨w1,hw1⟩:=e_ ((W.alloc (.cells #[Z_ p,.slice ua lw.length uc,.pointer a,Z_ q,.slice va lr.length vc,.pointer b] 275)).alloc (.cells #[O_,.nilIface] 93));have t:Fr W w1 N_:=xa_
 have D:Blk w1 W.heap.size [Z_ p,.slice ua lw.length uc,.pointer a,Z_ q,.slice va lr.length vc,.pointer b] 275:=xf_
 have N:Blk w1 (W.heap.size+1) [O_,.nilIface] 93:=by
  rw[hw1];have:=B_ (W.alloc (.cells #[Z_ p,.slice ua lw.length uc,.pointer a,Z_ q,.slice va lr.length vc,.pointer b] 275)) #[O_,.nilIface] 93;rw[zc]at this;exact this
 have c1:=D.c1;have E:H_ (∀V,Fr w1 V N_->V.cell? ⟨W.heap.size,3,none⟩=some (Z_ q)/\V.cell? ⟨W.heap.size,4,none⟩=some (.slice va lr.length vc)/\V.cell? ⟨W.heap.size,5,none⟩=some (.pointer b)/\Blk V (W.heap.size+1) [O_,.nilIface] 93):=zy (λV f=>by
  have k:=f.bl D id
  exact⟨k.cell 3,k.cell 4,k.cell 5,f.bl N id⟩)
 have item:H_ (∀V (i:Nat) (c:Nat×Nat),Fr w1 V N_->lw[i]?=some c->∃g,ua=some ⟨g,0,none⟩/\V.cell? ⟨g,i*2,none⟩=some (I_ c.2)/\V.cell? ⟨g,i*2+1,none⟩=some (U_ c.1)):=zy (λV i c f hi=>by
  have o1:=zj hw (t.trans f u_) u_
  obtain⟨g,a3,e⟩:=zp o1 (by have:=(ai_.1 hi).1;omega)
  cases e
  exact⟨g,rfl,BG o1 hi⟩)
 have rd:H_ (∀V c,Fr w1 V N_->Calls prog 161 #[.agg #[Z_ q,.slice va lr.length vc,.pointer b],.int .u8 ((c:Nat):Int)] V λe w'=>e=.returned (wj (jY lr o c))/\Fr V w' N_):=zy (λV c f=>by
  have hf:=t.trans f u_
  exact rJ (zj hr hf u_) (hu.fr hf u_) a0)
 have no:H_ (∀V,Fr w1 V N_->(∀(i:Nat) (c:Nat×Nat),lw[i]?=some c->jY lr o c.1≠none)->O (.returned (.agg #[O_,.nilIface])) ((V.setCell ⟨W.heap.size+1,0,none⟩ (O_)).setCell ⟨W.heap.size+1,1,none⟩ .nilIface)):=zy (λV f k=>by
  rw[z.o]
  exact⟨(t.trans f u_).trans (J_ V (W.heap.size+1) 0 1 _ _) (λx hx e=>M_),.inl ⟨rfl,k⟩⟩)
 have a2:H_ (∀V (i:Nat) (c:Nat×Nat),Fr w1 V N_->lw[i]?=some c->jY lr o c.1=none->O (.returned (.agg #[Z_ 1,.iface 157 (.agg #[U_ c.1,I_ i])])) ((V.setCell ⟨W.heap.size+1,0,none⟩ (Z_ 1)).setCell ⟨W.heap.size+1,1,none⟩ (.iface 157 (.agg #[U_ c.1,I_ i])))):=zy (λV i c f Y k2=>by
  rw[z.o]
  exact⟨(t.trans f u_).trans (J_ V (W.heap.size+1) 0 1 _ _) (λx hx e=>M_),.inr ⟨i,c,Y,k2,rfl⟩⟩)
 replace hw1:=zy hw1;go_in;go_upto_region 1 with fail;rw[<- hw1.o];go_wp2;go_loopg [11] (lw.length+1) (λmm v V=>∃i:Nat,v=I_ i/\H_ (Fr w1 V N_)/\i<=lw.length/\lw.length+1-i<=mm/\H_ (∀(j:Nat) (c:Nat×Nat),j<i->lw[j]?=some c->jY lr o c.1≠none));case atStart=>exact⟨0,rfl,zy (A_ _ _),al_ _,M_,zy (λj c U=>absurd U (Nat.not_lt_zero j))⟩
 case round=>
  obtain⟨i,rfl,f,hi,a5,hs⟩:=hrel;by_cases X:i<lw.length
  .have a1:(i:Int)<(lw.length:Int):=M_;obtain⟨c,hc⟩:∃c,lw[i]?=some c:=⟨_,ak_ X⟩;obtain⟨g,rfl,k0,Y⟩:=item.o wr i c f hc;obtain⟨A,hw4⟩:=e_ (wr.alloc (.cells #[I_ c.2,U_ c.1] 192));have f4:Fr w1 A N_:=by rw[hw4];exact f.o.alloc _
   have b4:Blk A wr.heap.size [I_ c.2,U_ c.1] 192:=yx_
   obtain⟨d3,d4,d5,-⟩:=E.o A f4;have e1:=b4.c1;have l:=zy (rd.o A c.1 f4);replace hw4:=zy hw4;cases s:jY lr o c.1 with
   |none=>
    rw[s]at l;have u:wj none=.tuple #[O_,.bool false]:=rfl;rw[u]at l;have fin:=zy (λV f=>a2.o V i c f hc s);generalize c.1=cc at *;generalize c.2=cp at *;go_upto_region 4 with fail;rw[<- hw4.o];go_wp2_with (first
     |(go_at_call 161;apply l.o.mono;rintro e w5 ⟨rfl,f5⟩;have G:=zy (f4.trans f5 u_);have a4:=f5.ke e1)
     |(go_at_call 86;apply nD.mono;rintro e Z ⟨rfl,S⟩;have H:=G.o.trans S u_;have hb:=(E.o Z H).2.2.2;have K:=hb.cell 0;have M:=hb.cell 1;have t0:=hb.th 0;have t1:=hb.th 1;have h:=(hb.set 0 (Z_ 1)).set 1 (.iface 157 (.agg #[U_ cc,I_ i]));have x0:=h.cell 0;have x1:=h.cell 1;simp only[am_,ao_,aa_,ab_]at K M x0 x1;have fn:=zy (fin.o Z H)))
    refine bodyPost_ret (v:=.agg #[Z_ 1,.iface 157 (.agg #[U_ cc,I_ i])]) z6_ rfl ?_;exact fn
   |some k=>
    rw[s]at l;have u:wj (some k)=.tuple #[I_ k,.bool true]:=rfl;rw[u]at l;have nx:H_ (∀(j:Nat) (c:Nat×Nat),j<i+1->lw[j]?=some c->jY lr o c.1≠none):=zy (λj c' U J=>by
     by_cases e:j=i
     .subst e
      rw[hc]at J
      cases J
      rw[s]
      simp
     .exact hs.o j c' M_ J)
    generalize c.1=cc at *;generalize c.2=cp at *;go_upto_region 4 with fail;rw[<- hw4.o];go_wp2_with (go_at_call 161;apply l.o.mono;rintro e w5 ⟨rfl,f5⟩;have G:=zy (f4.trans f5 u_));go_roundg (lw.length+1-(i+1));case measure=>omega
    case rel=>exact⟨i+1,by simp,G,X,l_,nx⟩
  .have a1:¬((i:Int)<(lw.length:Int)):=M_;have fin:=zy (no.o wr f (λj c hc=>hs.o j c (by have:=(ai_.1 hc).1;omega) hc));have hb:=(E.o wr f).2.2.2;have K:=hb.cell 0;have M:=hb.cell 1;have t0:=hb.th 0;have t1:=hb.th 1;have h:=(hb.set 0 (O_)).set 1 .nilIface;have x0:=h.cell 0;have x1:=h.cell 1;simp only[am_,ao_,aa_,ab_]at K M x0 x1;go_wp2;refine bodyPost_ret (v:=.agg #[O_,.nilIface]) z6_ rfl ?_;exact fin
set_option maxRecDepth 100000
set_option linter.defProp false
@[go_sem]def UT:=yH 220 20
@[go_sem]def Qr:=vm 220 20 (.agg #[O_,.nilIface])
def Wi(u:Av)(h:u≠220)(v:Ax):Calls prog 181 #[.iface u v] w λe w'=>e=.returned (.bool false)/\Fr w w' N_:=by
 refine hq_ λf b=>?_;have n:=Qr u h;go_in;go_wp2;try go_ret
 rw[b.o];exact⟨rfl,by first|exact A_ _ _|exact(A_ _ _).alloc _⟩
def JF{p:Int}{vT:Av}{vx:Ax}:Calls prog 181 #[.iface 220 (.agg #[Z_ p,.iface vT vx])] w λe w'=>e=.returned (.bool true)/\Fr w w' N_:=by
 refine hq_ λf b=>?_;go_in;go_wp2;try go_ret
 rw[b.o];exact⟨rfl,by first|exact A_ _ _|exact(A_ _ _).alloc _⟩
def ItR(c B:Nat)(dv v:Ax)(W:Aw):Prop:=
 (c=91/\∃pv,v=.iface 147 pv/\W.ownsRow B 64 1 pv 1 [dv])\/(c=123/\∃pv,v=.iface 150 pv/\W.ownsRow B 206 2 pv 1 [.string ⟨#[97]⟩,dv])
def ItR.fr{c:Nat}{dv v:Ax}{W W':Aw}{S:Az}(h:ItR c B dv v W)(hf:Fr W W' S)(f:∀g,B<=g->¬S g):ItR c B dv v W':=by
 rcases h with⟨e,pv,h1,b⟩|⟨e,pv,h1,b⟩
 .exact .inl ⟨e,pv,h1,zj b hf (λg hg=>f g (b.lt g hg).1)⟩
 .exact .inr ⟨e,pv,h1,zj b hf (λg hg=>f g (b.lt g hg).1)⟩
def YX{b c:Nat}{pv dT:Ax}{wT:Av}{wx:Ax}(hc:(c=91/\wT≠220)\/(c=123/\wT=220/\∃p vT vx,wx=.agg #[Z_ p,.iface vT vx]))(E:IfV dT)(h:Blk w b [.iface wT wx] 58)(ho:w.ownsRow B 64 1 pv 1 [dT])(hB:B<=w.heap.size):Calls prog 180 #[pv,P_ b] w λe w'=>∃v,e=.returned v/\IfV v/\Fr w w' N_/\ItR c B dT v w':=by
 obtain⟨z,k⟩:=y_ (λ(e:Ending) (w':World)=>∃v,e=.returned v/\IfV v/\Fr w w' N_/\ItR c B dT v w');rw[<- k.o];have c0:=h.c0;obtain⟨g,A,rfl⟩:=zp ho M_;have D:w.cell? ⟨g,0,none⟩=some dT:=zt ho rfl rfl;rcases hc with⟨hc,hw⟩|⟨hc,rfl,p,vT,vx,rfl⟩
 .have t:=zy (Wi (w:=w) wT hw wx);have fin:H_ (∀V,Fr w V N_->z (.returned (.iface 147 (S_ g 1 A))) V):=zy (λV l=>by
   rw[k.o]
   exact⟨_,rfl,.inr ⟨_,_,rfl⟩,l,.inl ⟨hc,_,rfl,zj ho l u_⟩⟩)
  replace hc:=zy hc;go_in;go_wp2_with (go_at_call 181;apply t.o.mono;rintro e u ⟨rfl,f⟩;have s:=zy (fin.o u f));try go_ret
  exact s
 .have t:=zy (JF (w:=w) (p:=p) (vT:=vT) (vx:=vx));have fin:H_ (∀V,Fr w V N_->z (.returned (.iface 150 (S_ V.heap.size 1 1))) (V.alloc (.cells #[.string ⟨#[97]⟩,dT] 206))):=zy (λV l=>by
   rw[k.o]
   refine⟨_,rfl,.inr ⟨_,_,rfl⟩,l.alloc _,.inr ⟨hc,_,rfl,?_⟩⟩
   exact cQ (cs:=[.string ⟨#[97]⟩,dT]) (B_ V #[.string ⟨#[97]⟩,dT] 206) (aj_ hB l.size) rfl xr_)
  replace hc:=zy hc;rcases E with rfl|⟨H,tx,rfl⟩;all_goals
   go_in;go_wp2_with (go_at_call 181;apply t.o.mono;rintro e u ⟨rfl,f⟩;have G:=f.ke D;have s:=zy (fin.o u f));try go_ret
   exact s
def Via.uniq{ew er:Au}{x y r r':PT}(h:Via ew er x y r)(b:Via ew er x y r'):r=r':=by
 rcases h with⟨a,rfl⟩|⟨p,rs,k,rfl,h1,o⟩
 .rcases b with⟨_,rfl⟩|⟨p,rs,k,rfl,_⟩
  .rfl
  .cases a
 .rcases b with⟨a,rfl⟩|⟨p',t,s,e,f,l⟩
  .cases a
  .cases e;rw[h1]at f;cases f;rw[o]at l;exact Option.some.inj l
def Via.nev{ew er:Au}{x y r:PT}(h:Via ew er x y r)(hm:yt ew er x r=true)(hn:Nev ew er x y):False:=by
 rcases h with⟨a,rfl⟩|⟨p,rs,k,rfl,h1,b⟩
 .rcases hn with⟨_,h⟩|⟨p,rs,rfl,_⟩
  .rw[hm]at h;cases h
  .cases a
 .rcases hn with⟨a,_⟩|⟨p',f,e,h⟩
  .cases a
  .cases e;rw[h1]at h;cases h
def svD.items{F:FD}{V f:Aw}{J o:Az}{c p p' n:Nat}{u u' y:PT}{d v:Ax}(hc:c=91\/c=123)(hv:Via (zx F.ds) (zx F.ds') (.wrap c p u) y (.wrap c p' u'))(h:svD F V J (UD F (u,u')) (UA (u,u')) n d)(G:∀x t z,DaV (zx F.ds) V J x t z->DaV (zx F.ds) f o x t z)(hB:∀x,B<=x->x<f.heap.size->o x)(h0:jnN [n]=0\/jnN [n]=301->v=.nilIface)(h1:1<=jnN [n]->jnN [n]<=300->ItR c B d v f):svD F f o (UD F (.wrap c p u,y)) (UA (.wrap c p u,y)) (jnN [n]) v:=by
 refine⟨h0,λe=>?_⟩;obtain⟨x,l,E,H⟩:=h.2 (oY e);have hx:n<=301:=by rw[<- E];unfold nd3;split<;>omega
 rcases hc with rfl|rfl
 .have s:jnN [n]=nd3 (.mk 91 0 noB [] [x]):=by rw[<- E];exact iG (ds:=[x])
  refine⟨.mk 91 0 noB [] [x],.items hv (.list x8_ (λz hz=>by simp at hz;subst hz;exact Un.dat l)) zp_ l,s.symm,λb t D=>?_⟩;obtain rfl:t=.wrap 91 p u:=D;rcases h1 M_ b with⟨_,pv,rfl,hr⟩|⟨e,_⟩
  .have A:n<=300:=(KS (ns:=[n]) x8_ b M_).2;refine .row (λ_=>d) (.inl ⟨rfl,rfl⟩) (yr hr) (λg hg=>hB g (hr.lt g hg).1 (hr.lt g hg).2) (λi z hz=>?_);cases i with
   |zero=>simp at hz;subst hz;exact G _ _ _ (H A u rfl)
   |succ i=>simp at hz
  .cases e
 .have s:jnN [n]=nd3 (.mk 123 0 noB [⟨#[97]⟩] [x]):=by rw[<- E];exact iG (ds:=[x])
  refine⟨.mk 123 0 noB [⟨#[97]⟩] [x],.items hv (.map x8_ rfl ⟨by simp[kV],λk hk=>by
   have K:k=0:=by
    have:k<1:=hk
    omega
   subst K
   decide,by show(1:Nat)<=_;omega,trivial⟩ (λz hz=>by simp at hz;subst hz;exact Un.dat l)) zp_ l,s.symm,λb t D=>?_⟩
  obtain rfl:t=.wrap 123 p u:=D;rcases h1 M_ b with⟨e,_⟩|⟨_,pv,rfl,hr⟩
  .cases e
  .have A:n<=300:=(KS (ns:=[n]) x8_ b M_).2;refine .map (λ_=>d) rfl (λk hk=>by simp at hk;subst hk;show(1:Nat)<=_;omega) (yr hr) (λg hg=>hB g (hr.lt g hg).1 (hr.lt g hg).2) (λi z hz=>?_);cases i with
   |zero=>simp at hz;subst hz;exact G _ _ _ (H A u rfl)
   |succ i=>simp at hz
structure IM(F:FD)(W:Aw)(r:Bt)(rv:Ax)(g:Ar)(T:Ai)(a:Es)(wv:Ax)(q:Nat)(r':Bt)(rv':Ax)(g':Ar)(T':Ai)(n:Nat)(d:Ax)(V:Aw):Prop where
 n3:n<=301
 d1:IfV d
 ti:TbI (uT F) (uI F) (uL F) V r' rv' g' T'
 st:Stp W V (TSS (uT F) (uL F) rv r) (TSS (uT F) (uL F) rv' r')
 gr:Grw (uT F).Cl T T' g g'
 hk:fG T' a n
 sv:svD F V (λy=>¬TSS (uT F) (uL F) rv' r' y) (UD F a) (UA a) n d
 bq:Blk V q [I_ n,d] 93
 b1:wY V (TSS (uT F) (uL F) rv' r') (W.heap.size+1) [wv] 58
 b2:wY V (TSS (uT F) (uL F) rv' r') (W.heap.size+2) [O_,.nilIface] 93
def sF{F:FD}(b8:F.OK){W:Aw}{r:Bt}{rv:Ax}{g:Ar}{T:Ai}{c p p':Nat}{u u' y:PT}{aT wT:Av}{ax wx:Ax}(f:KOK (uT F) (uI F) (uL F) 53 prV m)(h:TbI (uT F) (uI F) (uL F) W r rv g T)(ha:TyV W F.P u (.iface aT ax))(hb:TyV W F.P' u' (.iface bT bx))(hw:TyV W F.P (.wrap c p u) (.iface wT wx))(hq:okQ F (.ty (.wrap c p u)))(a2:okY F u')(hv:Via (zx F.ds) (zx F.ds') (.wrap c p u) y (.wrap c p' u'))(hm:90000<=T.length+m):Calls prog 139 #[P_ F.fb,.agg #[.iface aT ax,.iface bT bx],.iface wT wx] W (yG (uT F) (uI F) (uL F) W r rv g T (.wrap c p u,y)):=by
 obtain⟨b9,Q_⟩:=y_ (yG (uT F) (uI F) (uL F) W r rv g T (.wrap c p u,y));rw[<- Q_.o];have A:=vC b8;have Q:=hq.2.1;unfold okT at Q;have a1:=hq.2.2;unfold xA at a1;have a5:okQ F (.ty u):=⟨hq.1.wrap,Q.2,a1⟩;have b5:(c=91/\wT≠220)\/(c=123/\wT=220/\∃p vT vx,wx=.agg #[Z_ p,.iface vT vx]):=by
  cases hw with
  |wrap _ _ b=>
   obtain⟨vT,vx,rfl⟩:=b.iface;rcases Q.1 with rfl|rfl
   .exact .inl ⟨rfl,D_⟩
   .exact .inr ⟨rfl,rfl,_,vT,vx,rfl⟩
 obtain⟨w1,E⟩:=e_ (((W.alloc (.cells #[.iface aT ax,.iface bT bx] 272)).alloc (.cells #[.iface wT wx] 58)).alloc (.cells #[O_,.nilIface] 93));have z1:=zc W (.cells #[.iface aT ax,.iface bT bx] 272);have z2:=zc (W.alloc (.cells #[.iface aT ax,.iface bT bx] 272)) (.cells #[.iface wT wx] 58);have X:Fr W w1 N_:=by rw[E];exact(((A_ W _).alloc _).alloc _).alloc _
 have B0:Blk w1 W.heap.size [.iface aT ax,.iface bT bx] 272:=by rw[E];exact((B_ W _ _).alloc _).alloc _
 have B1:Blk w1 (W.heap.size+1) [.iface wT wx] 58:=by
  rw[E];have:=(B_ (W.alloc (.cells #[.iface aT ax,.iface bT bx] 272)) #[.iface wT wx] 58).alloc (.cells #[O_,.nilIface] 93);rw[z1]at this;exact this
 have B2:Blk w1 (W.heap.size+2) [O_,.nilIface] 93:=by
  rw[E];have:=B_ ((W.alloc (.cells #[.iface aT ax,.iface bT bx] 272)).alloc (.cells #[.iface wT wx] 58)) #[O_,.nilIface] 93;rw[z2,z1]at this;exact this
 have hl:=λx (hx:TSS (uT F) (uL F) rv r x)=>(h.li A hx);have e0:F.fb<W.heap.size:=xy_
 have e5:w1.cell? ⟨F.fb,5,none⟩=some (P_ F.tu):=(h.new A X).i.1.i.cell5;have p0:=B0.c0;have U:=B0.c1;have call:H_ (∀V,Fr w1 V N_->Calls prog 53 #[P_ F.tu,.agg #[.iface aT ax,.iface bT bx]] V (jp (uT F) (uI F) (uL F) V r rv g T (u,u'))):=zy (λV hV=>by
  have hf:=X.trans hV u_
  exact f V r rv g T (u,u') [.iface aT ax,.iface bT bx] (h.new A hf) ⟨a5,a2⟩ ⟨⟨_,_,rfl,ha.fr hf u_,hb.fr hf u_⟩,a5,a2⟩ hm)
 have d9:H_ (∀x,TSS (uT F) (uL F) rv r x->x<W.heap.size):=zy (λx e=>(hl x e).2);have a6:H_ (∀Y V V1 r' rv' g' T' (x:Rw (PT×PT)) q,Fr w1 Y N_->TbI (uT F) (uI F) (uL F) V r' rv' g' T'->Stp Y V (TSS (uT F) (uL F) rv r) (TSS (uT F) (uL F) rv' r')->Grw (uT F).Cl T T' g g'->x∈T'->x.a=(u,u')->(Fr V V1 N_\/(W.heap.size+3<=q/\q<Y.heap.size/\Blk V q [O_,.nilIface] 93/\Fr V V1 (λx=>x=q)))->Blk V1 q [I_ x.n,x.d] 93->IM F W r rv g T (u,u') (.iface wT wx) q r' rv' g' T' x.n x.d V1):=zy (λY V V1 r' rv' g' T' x q hf b hs hg hx s d8 b4=>by
  have qq:=(b.t.q x hx).2.2
  have a3:=(E_ (X.trans hf u_) (λ_ h=>h)).trans hs
  have o1:wY w1 (TSS (uT F) (uL F) rv r) (W.heap.size+1) [.iface wT wx] 58:=⟨B1,λe=>by have:=(hl _ e).2;omega⟩
  have o2:wY w1 (TSS (uT F) (uL F) rv r) (W.heap.size+2) [O_,.nilIface] 93:=⟨B2,λe=>by have:=(hl _ e).2;omega⟩
  have k1:=(o1.new hf).stp hs
  have k2:=(o2.new hf).stp hs
  have sv:=(b.v x hx).1
  rw[s]at sv
  rcases d8 with l|⟨e2,e3,a9,l⟩
  .exact⟨qq.1,qq.2,b.new A l,a3.trans (E_ l (λ_ h=>h)),hg,⟨x,hx,s,rfl⟩,svD.stp sv (E_ l (λ_ h=>h)),b4,k1.new l,k2.new l⟩
  .exact⟨qq.1,qq.2,b.put A (by show F.fb<q;omega) a9 l,⟨a3.1.trans l (λy hy e=>M_),a3.2⟩,hg,⟨x,hx,s,rfl⟩,svD.put sv a9 D_ D_ l,b4,k1.ot l M_,k2.ot l M_⟩)
 have a0:w1.heap.size=W.heap.size+3:=by rw[E,zc,z2,z1]
 have a7:H_ (∀q r' rv' g' T' n d V,IM F W r rv g T (u,u') (.iface wT wx) q r' rv' g' T' n d V->Calls prog 125 #[S_ V.heap.size 1 1,.func (.func 180) #[] #[.pointer (some ⟨W.heap.size+1,0,none⟩)]] (V.alloc (.cells #[I_ n,d] 93)) (λe O=>∃v,e=.returned (.agg #[Z_ (jnN [n]:Int),v])/\IfV v/\Blk O (W.heap.size+2) [O_,.nilIface] 93/\b9 (.returned (.agg #[Z_ (jnN [n]:Int),v])) ((O.setCell ⟨W.heap.size+2,0,none⟩ (Z_ (jnN [n]:Int))).setCell ⟨W.heap.size+2,1,none⟩ v))):=zy (λq r' rv' g' T' n d V M=>by
  have A3:=(A_ V N_).alloc (.cells #[I_ n,d] 93)
  have a4:=zc V (.cells #[I_ n,d] 93)
  have e1:=M.n3
  have b3:=(M.b1.new A3).1
  refine(wh (w:=V.alloc (.cells #[I_ n,d] 93)) (ns:=[n]) (D:=λ_=>d) (fn:=180) (caps:=#[.pointer (some ⟨W.heap.size+1,0,none⟩)]) (R:=λv W'=>ItR c (V.heap.size+2) d v W') (cQ (cs:=[I_ n,d]) (B_ V #[I_ n,d] 93) o_ rfl (by unfold maxLen;simp)) (λ_=>M.d1) (λk hk=>by simp at hk;omega) x8_ (qX func180 K_ rfl) (λW' pv a8 hr=>?_) (λv W1 W2 h1 h2=>h1.fr h2 (λg hg e=>by rw[a4]at e;omega))).mono ?_
  .rw[a4]at hr
   have d6:=a8.size
   rw[a4]at d6
   have hB:V.heap.size+2<=W'.heap.size:=by
    have:=hr.lt
    obtain⟨gp,cp,rfl⟩:=zp hr x8_
    have:=hr.lt gp rfl
    omega
   exact YX b5 M.d1 (a8.bl b3 id) hr hB
  .rintro e O ⟨v,rfl,S,f4,v0,v1⟩
   have Z:=A3.trans f4 u_
   have b2:=(M.b2.new Z)
   refine⟨v,rfl,S,b2.1,?_⟩
   rw[Q_.o]
   have hF:=J_ O (W.heap.size+2) 0 1 (Z_ (jnN [n]:Int)) v
   have t4:=M.ti.new A Z
   have b7:=M.st.trans (E_ Z (λ_ h=>h))
   have d2:svD F O (λy=>¬TSS (uT F) (uL F) rv' r' y) (UD F (.wrap c p u,y)) (UA (.wrap c p u,y)) (jnN [n]) v:=svD.items (V:=V) (J:=λy=>¬TSS (uT F) (uL F) rv' r' y) (B:=V.heap.size+2) Q.1 hv M.sv (λx t z hz=>hz.fr Z u_) (λx hx e4 e=>by have:=(M.ti.li A e).2;omega) v0 v1
   refine⟨r',rv',g',T',jnN [n],v,rfl,iW _,S,t4.put A (by show F.fb<W.heap.size+2;omega) b2.1 hF,⟨b7.1.trans hF (λx hx e=>M_),b7.2⟩,M.gr,?_,svD.put d2 b2.1 D_ D_ hF⟩
   refine⟨λU ws e=>yg_,λ_ hn=>(Via.nev hv (by simp[yt]) hn).elim,λc1 U e6 u1 e7 e d7=>?_,λc p p' lw lr ow o q e=>yg_,λc p p' fw fr g i h e=>yg_,λc p p' fw fr g e=>yg_⟩
   cases e
   cases Via.uniq hv d7
   exact⟨n,M.hk,.refl _⟩)
 replace E:=zy E;replace a0:=zy a0;go_in;go_upto_region 1 with fail;rw[<- E.o];go_cut [7] (λv V=>∃q r' rv' g' T' n d,v=P_ q/\H_ (IM F W r rv g T (u,u') (.iface wT wx) q r' rv' g' T' n d V));case first=>
  refine tr_ 9 (λV=>z_ V F.fb 5 (P_ F.tu)/\z_ V W.heap.size 0 (.iface aT ax)/\z_ V W.heap.size 1 (.iface bT bx)) ?_;refine tB_ 0 [1,2,3,9] ?_;refine tB_ 1 [2,3,9] ?_;refine tB_ 2 [3,9] ?_;refine tB_ 3 [9] ?_;refine tB_ 4 [5,8,9] ?_;refine tB_ 5 [8,9] ?_;refine tB_ 6 [7,8,9] ?_;refine tB_ 7 [8,9] ?_;refine tB_ 8 [9] ?_;refine jV 9 10 rfl rfl K_ (λ_=>⟨e5,p0,U⟩) (λK f=>?_) (λK f=>?_)
  .go_simp;refine(call.o _ (A_ w1 _).drew).mono ?_;rintro e G ⟨r',rv',g',T',x,rfl,hx,s,b,hs,hg⟩;refine f _ _ ?_;have sD:=λW a m=>run_store prog W a x.d m ((b.t.q x hx).2.2.2).one;have fin:=zy (a6.o _ G (G.alloc (.cells #[I_ x.n,x.d] 93)) r' rv' g' T' x G.heap.size (A_ w1 _).drew b hs hg hx s (.inl ((A_ _ _).alloc _)) (B_ G #[I_ x.n,x.d] 93));generalize x.n=xn at *;generalize x.d=xd at *;refine t0_ 10 ?_;refine t0_ 11 ?_;refine td_ ?_ _;go_wp2;go_meet;exact⟨_,_,_,_,_,_,_,rfl,fin⟩
  .go_simp;refine f _ _ ?_;have N:=(A_ w1 N_).alloc (.cells #[O_,.nilIface] 93);have B3:=B_ w1 #[O_,.nilIface] 93;refine zh 9 rfl K_ (λ_=>⟨N.ke e5,N.ke p0,N.ke U⟩) (λK f=>?_);go_simp;refine(call.o _ N.drew).mono ?_;rintro e G ⟨r',rv',g',T',x,rfl,hx,s,b,hs,hg⟩;refine f _ _ ?_;have sD:=λW a m=>run_store prog W a x.d m ((b.t.q x hx).2.2.2).one;have b6:¬TSS (uT F) (uL F) rv r w1.heap.size:=λe=>by
    have:=d9.o _ e;have:=a0.o;omega
   have H:=hs.1.bl B3.drew b6;have fin:=zy (a6.o _ G ((G.setCell ⟨w1.heap.size,0,none⟩ (I_ x.n)).setCell ⟨w1.heap.size,1,none⟩ x.d) r' rv' g' T' x w1.heap.size N.drew b hs hg hx s (.inr ⟨by have:=a0.o;omega,by show w1.heap.size<(w1.alloc _).heap.size;rw[zc];omega,H,J_ G w1.heap.size 0 1 _ _⟩) ((H.set 0 _).set 1 _));have k0:=H.c0;have k1:=H.c1;have t0:=H.th 0;have t1:=H.th 1;generalize x.n=xn at *;generalize x.d=xd at *;refine t0_ 11 ?_;refine td_ ?_ _;go_wp2;go_meet;exact⟨_,_,_,_,_,_,_,rfl,fin⟩
 case rest=>
  obtain⟨q,r',rv',g',T',n,d,rfl,M⟩:=hcut;have hC:=zy (a7.o _ _ _ _ _ _ _ _ M);have q0:=M.o.bq.c0;have q1:=M.o.bq.c1;have hd:=M.o.d1;generalize jnN [n]=jn at *;rcases hd with rfl|⟨tT,tx,rfl⟩;all_goals
   go_wp2_with (go_at_call 125;refine hC.o.mono ?_;rintro e O ⟨v,rfl,S,hb,hP⟩;have x0:=hb.cell 0;have x1:=hb.cell 1;have t0:=hb.th 0;have t1:=hb.th 1;have sD:=(λW a m=>run_store prog W a v m S.one);have B8:=(hb.set 0 (I_ jn)).set 1 v;have y0:=B8.cell 0;have y1:=B8.cell 1;simp only[am_,ao_,aa_,ab_]at x0 x1 y0 y1;replace hP:=zy hP);refine bodyPost_ret (v:=.agg #[I_ jn,v]) (by simp[results,results139,go_sem,y0,y1]) rfl ?_;exact hP
def Qj{lv:Ax}{n:Nat}{xs:Ay}(h:w.ownsRow B 93 2 lv n xs)(hn:n<=300)(h1:∀u∈xs,u.oneCell'=true):Calls prog 182 #[lv] w λe w'=>∃v,e=.returned v/\Fr w w' N_/\w'.ownsRow w.heap.size 93 2 v n xs:=by
 obtain⟨f,b⟩:=y_ (λ(e:Ending) (w':World)=>∃v,e=.returned v/\Fr w w' N_/\w'.ownsRow w.heap.size 93 2 v n xs);rw[<- b.o];rcases h.2 with⟨e,h0⟩|⟨g,l,S,e,_⟩
 .have hp:H_ (f (.returned (L_)) w):=zy (by
   rw[b.o]
   obtain rfl:n=0:=M_
   obtain rfl:xs=[]:=ci_ (by have:=h.1;omega)
   exact⟨_,rfl,A_ _ _,World.ownsRow_nil _ _ _ _⟩)
  subst e;have nn:∀W,(binOp .eql 288 (L_) (L_)).run prog W=.ok (.bool true) W:=λW=>by kernel_rfl
  go_in;go_wp2;try go_ret
  exact hp
 .subst e;obtain⟨ti,D,E,G,H⟩:=info_parts XI;have nw:H_ (∀j u,xs[j]?=some u->(w.alloc (.cells #[] 93)).cell? ((⟨g,0,none⟩:Addr).add j)=some u):=zy (λj u J=>by
   have:=zt h rfl J
   have k:=((A_ w N_).alloc (.cells #[] 93)).ke this
   by_cases h0:j=0
   .subst h0
    exact k
   .simpa[Addr.add,h0] using k)
  have hl:H_ (xs.length=n*2):=zy h.1;have ow:H_ ((w.alloc (.cells #[] 93)).ownsRow w.heap.size 93 2 (S_ w.heap.size 0 0) 0 []):=zy (cQ (cs:=[]) (B_ w #[] 93) l_ rfl o_);have fin:H_ (∀v w',w'.ownsRow w.heap.size 93 2 v (0+n) ([]++xs)->(w.alloc (.cells #[] 93)).grownBy w' (some w.heap.size)->f (.returned v) w'):=zy (λv w' z N=>by
   rw[b.o]
   rw[bx_,bm_]at z
   refine⟨v,rfl,?_,z⟩
   exact((A_ w N_).alloc (.cells #[] 93)).trans ((A_ _ (λx=>x=w.heap.size)).gw N (λk e _=>by simpa using e.symm)) (λx hx e=>M_))
  replace h1:=zy h1;have nn:∀W,(binOp .eql 288 (S_ g n l) (L_)).run prog W=.ok (.bool false) W:=λW=>by kernel_rfl
  go_in;go_wp2_with (first
   |(at_builtin;go_must (refine wpList_append_own_at _ rfl _ _ 288 rfl w.heap.size 93 ti _ 2 24 eR D E G H rfl D_ (S_ w.heap.size 0 0) 0 [] rfl ?hown ⟨g,0,none⟩ n l xs rfl ?len ?nn ?one ?b1 ?b2 ?b3 ?_)
     case hown=>exact ow
     case len=>exact hl
     case nn=>exact nw
     case one=>exact h1
     case b1=>unfold maxLen;omega
     case b2=>omega
     case b3=>simp
     intro O Q t s M K
     have A:=zy (fin.o O Q t s)
     clear t s M K))
  try go_ret
  exact A
section
variable {α ρ:Type} {P:TP α ρ} {I:TI α} {L:TL} {F:FD} {fs:An} {C:List (Rw α)->PF->Nat->Prop} {c0:Ay} {T0:Av} {W V V1:Aw} {r r':ρ} {rv rv' lv:Ax} {g g':Ar} {T T':List (Rw α)} {ns:Ao} {Dv:Ah}
def RFM.put(l:P.OK I L)(h:RFM P I L F fs C c0 T0 W r rv g T ns Dv lv V r' rv' g' T'){q:Nat}{cs:Ay}(hb:Blk V q cs 93)(o:W.heap.size+2<=q)(hl:lv.ownBlock≠some q)(hf:Fr V V1 (λx=>x=q)):RFM P I L F fs C c0 T0 W r rv g T ns Dv lv V1 r' rv' g' T':=
 ⟨h.ti.put l (by have:=h.f;omega) hb hf,⟨h.st.1.trans hf (λx hx e=>M_),h.st.2⟩,h.gr,zj h.row hf (λb e k=>hl (k▸e)),h.no,λj k f e e'=>⟨(h.kn j k f e e').1,(h.kn j k f e e').2.put hb D_ D_ hf⟩,h.iv,h.le,h.o0.ot hf M_,h.o1.ot hf M_,h.f⟩
end
def dh(F:FD)(fw:An)(T:Ai)(g:PF)(v:Nat):Prop:=
 (∀i h,vu fw g.letter=some i->fw[i]?=some h->∃ks:List Nat,ks.length=fw.length/\(∀(q:Nat) (f:PF) (k:Nat),fw[q]?=some f->ks[q]?=some k->if q=i then fG T (h.ty,g.ty) k else LL F f.ty k)/\le0 v (jnN ks))/\
 (vu fw g.letter=none->g.dflt=none->∃ks:List Nat,ks.length=fw.length/\(∀(q:Nat) (f:PF) (k:Nat),fw[q]?=some f->ks[q]?=some k->LL F f.ty k)/\le0 v (jnN ks))
def dh.ls{F:FD}{fw:An}{T:Ai}{g:PF}{v s:Nat}(h:dh F fw T g v)(hv:le0 s v)(R:Ai):dh F fw (T++R) g s:=by
 refine⟨λi t e e'=>?_,λe e'=>?_⟩
 .obtain⟨ks,h1,b,l⟩:=h.1 i t e e';refine⟨ks,h1,λq f k u z=>?_,hv.trans l⟩;have:=b q f k u z;split at this
  .rename_i o;rw[i_ o];exact this.more R
  .rename_i o;rw[n_ o];exact this
 .obtain⟨ks,h1,b,l⟩:=h.2 e e';exact⟨ks,h1,b,hv.trans l⟩
structure UFM(F:FD)(fw fr:An)(c0:Ay)(W:Aw)(r:Bt)(rv:Ax)(g:Ar)(T:Ai)(a:Es)(qf:Nat)(ns:Ao)(Dv:Ah)(lv:Ax)(j n:Nat)(d:Ax)(V:Aw)(r':Bt)(rv':Ax)(g':Ar)(T':Ai):Prop where
 B:RFM (uT F) (uI F) (uL F) F fw (λ_ f k=>LL F f.ty k) c0 278 W r rv g T ns Dv lv V r' rv' g' T'
 len:ns.length=fw.length
 bf:wY V (TSS (uT F) (uL F) rv' r') qf [I_ n,d] 93
 ge:W.heap.size+2<=qf
 nl:lv.ownBlock≠some qf
 n3:n<=301
 d1:IfV d
 sv:svD F V (λy=>¬TSS (uT F) (uL F) rv' r' y) (UD F a) (UA a) n d
 dn:∀q x,q<j->fr[q]?=some x->dh F fw T' x n
section
variable {F:FD} {fw fr:An} {c0:Ay} {W V V1:Aw} {r r' r1:Bt} {rv rv' rv1:Ax} {g g' g1:Ar} {T T' T1:Ai} {a:Es} {qf:Nat} {ns:Ao} {Dv:Ah} {lv:Ax} {j n:Nat} {d:Ax}
def UFM.start(b:F.OK)(h:RFM (uT F) (uI F) (uL F) F fw (λ_ f k=>LL F f.ty k) c0 278 W r rv g T ns Dv lv V r' rv' g' T')(hl:ns.length=fw.length):UFM F fw fr c0 W r rv g T a V.heap.size ns Dv lv 0 0 .nilIface (V.alloc (.cells #[O_,.nilIface] 93)) r' rv' g' T':=
 have hz:=h.o1.1.lt
 ⟨h.new (vC b) ((A_ V _).alloc _),hl,⟨B_ V #[O_,.nilIface] 93,λe=>by have:=(h.ti.li (vC b) e).2;omega⟩,M_,λe=>by have:=(h.row.lt _ e).2;omega,M_,.inl rfl,⟨λ_=>rfl,λe=>absurd rfl e⟩,λq x l=>absurd l (Nat.not_lt_zero q)⟩
def UFM.new(b:F.OK)(h:UFM F fw fr c0 W r rv g T a qf ns Dv lv j n d V r' rv' g' T')(hf:Fr V V1 N_):UFM F fw fr c0 W r rv g T a qf ns Dv lv j n d V1 r' rv' g' T':=
 ⟨h.B.new (vC b) hf,h.len,h.bf.new hf,h.ge,h.nl,h.n3,h.d1,h.sv.stp (E_ hf (λ_ h=>h)),h.dn⟩
def UFM.known(b:F.OK)(h:UFM F fw fr c0 W r rv g T a qf ns Dv lv j n d V r' rv' g' T')(s:TbI (uT F) (uI F) (uL F) V1 r1 rv1 g1 T1)(hs:Stp V V1 (TSS (uT F) (uL F) rv' r') (TSS (uT F) (uL F) rv1 r1))(hg:Grw (uT F).Cl T' T1 g' g1):UFM F fw fr c0 W r rv g T a qf ns Dv lv j n d V1 r1 rv1 g1 T1:=by
 have l:=hg;obtain⟨R,f,_⟩:=l;exact⟨h.B.known (vC b) (λ_ _ _ _ k=>k) s hs hg,h.len,h.bf.stp hs,h.ge,h.nl,h.n3,h.d1,h.sv.stp hs,λq x o e=>by rw[f];exact(h.dn q x o e).ls (.refl _) R⟩
def UFM.put(b:F.OK)(h:UFM F fw fr c0 W r rv g T a qf ns Dv lv j n d V r' rv' g' T'){q:Nat}{cs:Ay}(hb:Blk V q cs 93)(e:W.heap.size+2<=q)(hl:lv.ownBlock≠some q)(hn:q≠qf)(hf:Fr V V1 (λx=>x=q)):UFM F fw fr c0 W r rv g T a qf ns Dv lv j n d V1 r' rv' g' T':=
 ⟨h.B.put (vC b) hb e hl hf,h.len,h.bf.ot hf (Ne.symm hn),h.ge,h.nl,h.n3,h.d1,h.sv.put hb D_ D_ hf,h.dn⟩
def UFM.next(h:UFM F fw fr c0 W r rv g T a qf ns Dv lv j n d V r' rv' g' T')(hx:∀x,fr[j]?=some x->dh F fw T' x n):UFM F fw fr c0 W r rv g T a qf ns Dv lv (j+1) n d V r' rv' g' T':=
 ⟨h.B,h.len,h.bf,h.ge,h.nl,h.n3,h.d1,h.sv,λq x f e=>by
  by_cases b:q=j
  .subst b
   exact hx x e
  .exact h.dn q x M_ e⟩
def UFM.best(l:F.OK)(h:UFM F fw fr c0 W r rv g T a qf ns Dv lv j n d V r' rv' g' T'){kv:Ax}{x:PF}(hm:m<=301)(hk:IfV kv)(s:svD F V (λy=>¬TSS (uT F) (uL F) rv' r' y) (UD F a) (UA a) m kv)(hx:fr[j]?=some x)(hc:dh F fw T' x m)(b:Ar)(hb:btr m n=b):UFM F fw fr c0 W r rv g T a qf ns Dv lv (j+1) (if b=true then m else n) (if b=true then kv else d) ((V.setCell ⟨qf,0,none⟩ (Z_ ((if b=true then m else n:Nat):Int))).setCell ⟨qf,1,none⟩ (if b=true then kv else d)) r' rv' g' T':=by
 subst hb;have f:=J_ V qf 0 1 (Z_ ((if btr m n=true then m else n:Nat):Int)) (if btr m n=true then kv else d);have k:=h.B.put (vC l) h.bf.1 h.ge h.nl f;obtain⟨l1,l2⟩:=XH (n:=n) (m:=m);refine⟨k,h.len,⟨?_,h.bf.2⟩,h.ge,h.nl,by split;exact hm;exact h.n3,by split;exact hk;exact h.d1,?_,λq y t e=>?_⟩
 .have:=(h.bf.1.set 0 (Z_ ((if btr m n=true then m else n:Nat):Int))).set 1 (if btr m n=true then kv else d);simpa using this
 .refine svD.put ?_ h.bf.1 D_ D_ f;split
  .exact s
  .exact h.sv
 .by_cases o:q=j
  .subst o;rw[hx]at e;cases e;have:=hc.ls l2 [];rwa[bd_]at this
  .have:=(h.dn q y M_ e).ls l1 [];rwa[bd_]at this
end
structure UCM(F:FD)(fw:An)(a:Es)(x:PF)(ks:Ao)(Dk:Ah)(v:Ax)(V:Aw)(r':Bt)(rv':Ax)(T':Ai):Prop where
 row:kR V v ks Dk
 len:ks.length=fw.length
 iv:∀j,IfV (Dk j)
 le:∀k∈ks,k<=301
 cl:dh F fw T' x (jnN ks)
 sv:∀V1 kv,Fr V V1 N_->(jnN ks=0\/jnN ks=301->kv=.nilIface)->(1<=jnN ks->jnN ks<=300->RcR (V.heap.size+2) ks.length Dk kv V1)->svD F V1 (λy=>¬TSS (uT F) (uL F) rv' r' y) (UD F a) (UA a) (jnN ks) kv
def Qw{ns:Ao}{Dv:Ah}{n:Nat}{d:Ax}(hi:i<ns.length):((((List.range ns.length).flatMap λj=>[Value.int .i64 ((ns.getD j 0:Nat):Int),Dv j]).set (i*2) (I_ n)).set (i*2+1) d)=(List.range (ns.set i n).length).flatMap λj=>[Value.int .i64 (((ns.set i n).getD j 0:Nat):Int),(λj=>if j=i then d else Dv j) j]:=by
 have hl:∀(N:Nat) (f:Nat->List Value),(∀j,(f j).length=2)->((List.range N).flatMap f).length=N*2:=λN f hf=>by
  induction N with
  |zero=>rfl
  |succ N ih=>rw[br_,a9_,ah_,ih];simp[hf];omega
 have gt:∀(N:Nat) (f:Nat->List Value),(∀j,(f j).length=2)->∀q p,q<N->p<2->((List.range N).flatMap f)[q*2+p]?=(f q)[p]?:=λN f hf q p b hp=>gZ (l:=List.range N) (λx _=>hf x) (ce_ b) hp;apply List.ext_getElem?;intro k;rw[bn_];by_cases hk:k<ns.length*2
 .obtain⟨q,p,hp,rfl⟩:∃q p,p<2/\k=q*2+p:=⟨k / 2,k % 2,M_,M_⟩;have b:q<ns.length:=M_;rw[gt _ _ (λ_=>rfl) q p b hp];have hb:((List.range ns.length).flatMap λj=>[Value.int .i64 ((ns.getD j 0:Nat):Int),Dv j])[q*2+p]?=([Value.int .i64 ((ns.getD q 0:Nat):Int),Dv q])[p]?:=gt _ _ (λ_=>rfl) q p b hp;have e:=hl ns.length (λj=>[Value.int .i64 ((ns.getD j 0:Nat):Int),Dv j]) (λ_=>rfl);by_cases h:q=i
  .subst h;rcases(by omega:p=0\/p=1) with rfl|rfl
   .rw[bu_ M_,b3_,ch_ (by rw[e];omega)];simp[aw_,b]
   .rw[ch_ (by rw[bn_,e];omega)];simp
  .rw[bu_ M_,bu_ M_,hb];have:(ns.set i n).getD q 0=ns.getD q 0:=by rw[aw_,aw_,bu_ M_]
   rw[this];simp[h]
 .rw[bl_ (by rw[bn_,bn_,hl _ _ (λ_=>rfl)];omega),bl_ (by rw[hl _ _ (λ_=>rfl)];omega)]
section
variable {F:FD} {fw fr:An} {c0:Ay} {W V:Aw} {r r':Bt} {rv rv':Ax} {g g':Ar} {T T':Ai} {qf c p p':Nat} {y:PT} {ns:Ao} {Dv:Ah} {lv:Ax} {j n:Nat} {d v:Ax} {x:PF}
def QL(s:F.OK)(h:UFM F fw fr c0 W r rv g T (.leaf c p,y) qf ns Dv lv j n d V r' rv' g' T')(hv:Via (zx F.ds) (zx F.ds') (.leaf c p) y (.leaf c p'))(hb:zr c=false)(b:zx F.ds c=some (.recd fw))(E:zx F.ds' c=some (.recd fr))(hx:fr[j]?=some x)(hi:vu fw x.letter=none)(hd:x.dflt=none)(row:kR V v ns Dv):UCM F fw (.leaf c p,y) x ns Dv v V r' rv' T':=by
 refine⟨row,h.len,h.B.iv,h.B.le,⟨λi M e=>zl_,λ_ _=>⟨ns,h.len,λq f k e e'=>(h.B.kn q k f e' e).1,.refl _⟩⟩,λV1 kv hf h0 h1=>?_⟩;refine svD.recd (F:=F) (V:=V) (J:=λy=>¬TSS (uT F) (uL F) rv' r' y) (Dj:=λj d=>∀f,fw[j]?=some f->Dat (zx F.ds) d f.ty) (B:=V.heap.size+2) h.len (λq k f e e'=>?_) (λds hl D=>?_) (λu hu=>⟨c,p,hu,b⟩) (λz t u hz=>hz.fr hf u_) (λz hz N e=>by have:=(h.B.ti.li (vC s) e).2;omega) h0 h1
 .have:=(h.B.kn q k f e e').2;exact⟨this.1,λA=>by
   obtain⟨z,G,H,K⟩:=this.2 A
   exact⟨z,λf' o=>by rw[e']at o;cases o;exact G _ rfl,H,K⟩⟩
 .refine Un.lack hv hb b E (.recd b hb hl (λi z t e e'=>?_)) (ag_ hx) hi hd;rw[as_]at e';cases l:fw[i]? with
  |none=>rw[l]at e';cases e'
  |some f=>rw[l]at e';cases e';exact D i z e f l
def Vo(Q:F.OK){H:PF}{z:Rw (PT×PT)}(h:UFM F fw fr c0 W r rv g T (.leaf c p,y) qf ns Dv lv j n d V r' rv' g' T')(hv:Via (zx F.ds) (zx F.ds') (.leaf c p) y (.leaf c p'))(hb:zr c=false)(E:zx F.ds c=some (.recd fw))(U:zx F.ds' c=some (.recd fr))(hx:fr[j]?=some x)(hi:vu fw x.letter=some i)(s:fw[i]?=some H)(hz:z∈T')(O:z.a=(H.ty,x.ty))(row:kR V v (ns.set i z.n) (λj=>if j=i then z.d else Dv j)):UCM F fw (.leaf c p,y) x (ns.set i z.n) (λj=>if j=i then z.d else Dv j) v V r' rv' T':=by
 have a2:=(ai_.1 s).1;have a1:=h.len;have q:=(h.B.ti.t.q z hz).2.2;have sv:=(h.B.ti.v z hz).1;rw[O]at sv;have A:∀(q k:Nat),(ns.set i z.n)[q]?=some k->(q=i/\k=z.n)\/(q≠i/\ns[q]?=some k):=λq k e=>by
  by_cases l:q=i
  .subst l;rw[ch_ M_]at e;cases e;exact .inl ⟨rfl,rfl⟩
  .rw[bu_ M_]at e;exact .inr ⟨l,e⟩
 refine⟨row,by rw[bn_];exact h.len,λb=>?_,λk hk=>?_,⟨λi' a0 e e'=>?_,λe=>zl_⟩,λV1 kv hf h0 h1=>?_⟩
 .show IfV (if b=i then z.d else Dv b);split
  .exact q.2
  .exact h.B.iv b
 .obtain⟨b,o⟩:=bp_ hk;rcases A b k o with⟨_,rfl⟩|⟨_,e⟩
  .exact q.1
  .exact h.B.le k (ag_ e)
 .rw[hi]at e;cases e;rw[s]at e';cases e';refine⟨_,by rw[bn_];exact h.len,λb f k e e'=>?_,.refl _⟩;rcases A b k e' with⟨rfl,rfl⟩|⟨l,D⟩
  .rw[i_ rfl];exact⟨z,hz,O,rfl⟩
  .rw[n_ l];exact(h.B.kn b k f D e).1
 .refine svD.recd (F:=F) (V:=V) (J:=λy=>¬TSS (uT F) (uL F) rv' r' y) (Dj:=λq d=>if q=i then Un (zx F.ds) (zx F.ds') H.ty x.ty d else ∀f,fw[q]?=some f->Dat (zx F.ds) d f.ty) (B:=V.heap.size+2) (by rw[bn_];exact h.len) (λb k f e e'=>?_) (λds hl M=>?_) (λu hu=>⟨c,p,hu,E⟩) (λz t u hz=>hz.fr hf u_) (λz hz a3 e=>by have:=(h.B.ti.li (vC Q) e).2;omega) h0 h1
  .rcases A b k e with⟨rfl,rfl⟩|⟨l,D⟩
   .rw[s]at e';cases e';simp only[if_true];exact sv
   .simp only[l,if_false];have:=(h.B.kn b k f D e').2;exact⟨this.1,λS=>by
     obtain⟨z,X,Y,Z⟩:=this.2 S
     exact⟨z,λf' G=>by rw[e']at G;cases G;exact X _ rfl,Y,Z⟩⟩
  .have K:i<ds.length:=M_;have N:=M i _ (ak_ K);rw[i_ rfl]at N;refine Un.field hv hb E U (.recd E hb hl (λb z t e e'=>?_)) (ag_ hx) hi s (ak_ K) N;rw[as_]at e';have o:=M b z e;by_cases l:b=i
   .subst l;rw[s]at e';cases e';rw[i_ rfl]at o;exact o.dat
   .rw[n_ l]at o;cases G:fw[b]? with
    |none=>rw[G]at e';cases e'
    |some f=>rw[G]at e';cases e';exact o f G
end
end Go.Proofs.YtamhgejdkclmdaaGreatDoor
