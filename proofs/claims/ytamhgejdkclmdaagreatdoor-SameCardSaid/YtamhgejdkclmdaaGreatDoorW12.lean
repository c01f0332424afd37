import Derived.Test.YtamhgejdkclmdaaGreatDoorW11
set_option maxHeartbeats 16000000
set_option maxRecDepth 100000
set_option linter.defProp false
set_option linter.unusedSimpArgs false
set_option linter.unusedVariables false
open Go.Proofs.Tryz
namespace Go.Proofs.YtamhgejdkclmdaaGreatDoor
open Go.RowKit
variable {w w':Aw}{P S:Az}{q b g m cap x c:Nat}{s:BA}{ds:Aq}{t:PT}{sv ex rv v:Ax}{xs:Ay}{et:Av}{fs:An}{seen:Ao}{p:Int}{l:As}{f:PF}
def yM(w:Aw)(cause:Ax)(L:Ao)(e:Ak)(w':Aw):Prop:=
 ∃v,e=.returned v/\Fr w w' N_/\match L with | []=>v=.nilIface|x::_=>zA w' w.heap.size v (x:Int) cause
def vw(g:Nat)(w:Aw)(et:Av)(ex:Ax):Prop:=w.cell? ⟨g,0,none⟩=some (.iface et ex)
def vw.fr(h:vw g w et ex)(hf:Fr w w' S)(d:¬S g):vw g w' et ex:=
 (World.cell?_of_block (a:=⟨g,0,none⟩) (hf.block _ (World.block_lt_of_cell? w ⟨g,0,none⟩ h) d)).trans h
def xg(p:Int)(w:Aw):Calls prog 77 #[Z_ p] w λe w'=>e=.returned (Z_ p)/\w'=w:=by
 go_in;go_wp2;go_ret;exact⟨rfl,rfl⟩
def ji(c:Nat):vB c≠219/\vB c≠220/\vB c≠223/\vB c≠226/\vB c≠228/\vB c≠233/\vB c≠235:=by
 unfold vB
 repeat' split
 all_goals decide
def pQ(t:PT):Prop:=∀(w:World) (P:Nat->Prop) (s:BA) (ds:List PD) (sv rv v:Value) (xs:List Value) (et:TypeId) (ex:Value),yC w P s ds sv xs->TyV w P t v->vw 1 w et ex->
 Calls prog 79 #[.agg #[sv,rv],v] w (yM w (.iface et ex) (vz (zx ds) (za t)))
def Vi(c p:Nat)(hc:zr c=true):pQ (.leaf c p):=by
 intro w P s ds sv rv v xs et ex D hv d;refine hq_ λj a=>?_;have e:=zy (show vz (zx ds) (za (.leaf c p))=[] by rw[za,i_ hc];rfl);have i:v=.iface (vB c) (.agg #[I_ p]):=by
  cases hv with
  |base _ _ h=>rfl
  |name _ _ h=>
   simp only[zr,ax_,beq_iff_eq]at hc;simp only[zo,a0_,decide_eq_true_eq]at h;omega
 subst i;clear hv D d;obtain⟨u,hu⟩:=e_ (vB c);rw[<- hu];have hn:=ji c;rw[<- hu]at hn;have k:=kL u hn.1;have n:=gW u hn.2.1;have r:=vY u hn.2.2.1;have y:=nR u hn.2.2.2.1;clear hu hn;go_in;go_wp2;try go_ret
 rw[a.o];refine⟨.nilIface,rfl,(A_ w _).alloc _,?_⟩;rw[e.o]
def cwVs1_{p:Prop}(h:p:=by
 (first|(have:=cc1;simp only[qV,n_ hc])|(subst hc;simp only[qV,if_true]));go_in;go_wp2_with (go_at_call 79;apply(hcall.o _).mono;rintro e w2 ⟨v2,rfl,hf2,hm⟩;replace hf2:=zy hf2;replace hm:=zy hm);try go_ret
 rw[Q_.o];have hsz:=hf2.o.size;refine⟨v2,rfl,(((A_ w N_).alloc _).alloc _).trans hf2.o u_,?_⟩;rw[za];have hm':=hm.o;cases hL:vz (zx ds) (za t) with
 |nil=>rw[hL]at hm';exact hm'
 |cons x r=>rw[hL]at hm';exact hm'.ls x1_):p:=h
def Vs(c p:Nat)(t:PT)(o:pQ t):pQ (.wrap c p t):=by
 intro w P s ds sv rv v xs et ex D hv n;refine hq_ λu Q_=>?_;obtain⟨v2,k,rfl⟩:∃v2,TyV w P t v2/\v=.iface (qV c) (.agg #[I_ p,v2]):=by
  cases hv with
  |wrap _ _ h=>exact⟨_,h,rfl⟩
 obtain⟨i,j,rfl⟩:=k.iface;obtain⟨a,d,rfl⟩:=zw D.row;have hcall:H_ (∀T,Calls prog 79 #[.agg #[.slice a ds.length d,rv],.iface i j] ((w.alloc (.cells #[.slice a ds.length d,rv] 60)).alloc (.cells #[I_ p,.iface i j] T)) (yM ((w.alloc (.cells #[.slice a ds.length d,rv] 60)).alloc (.cells #[I_ p,.iface i j] T)) (.iface et ex) (vz (zx ds) (za t)))):=zy (λT=>by
  have hf:Fr w ((w.alloc (.cells #[.slice a ds.length d,rv] 60)).alloc (.cells #[I_ p,.iface i j] T)) N_:=((A_ w _).alloc _).alloc _
  exact o _ P s ds _ _ _ _ _ _ (D.fr hf u_) (k.fr hf u_) (n.fr hf id))
 by_cases hc:c=91
 .exact cwVs1_
 .have cc1:=Nat;exact cwVs1_
def Zh(c p:Nat)(hc:zo c=true):pQ (.leaf c p):=by
 intro w P s ds sv rv v xs et ex D hv F;refine hq_ λL C=>?_;have z:¬zr c=true:=λh=>by
  simp only[zr,ax_,beq_iff_eq]at h;simp only[zo,a0_,decide_eq_true_eq]at hc;omega
 have J:v=.iface 226 (.agg #[I_ p,U_ c]):=by
  cases hv with
  |base _ _ h=>exact absurd h z
  |name _ _ h=>rfl
 subst J;obtain⟨A,B,rfl⟩:=zw D.row;have r:=zy (show vz (zx ds) (za (.leaf c p))=if (zx ds c).isNone=true then [p] else [] by
  rw[za,n_ z];unfold vz;rw[List.filter_cons];split<;>rfl)
 have i:Fr w ((w.alloc (.cells #[.slice A ds.length B,rv] 60)).alloc (.cells #[I_ p,U_ c] 226)) N_:=((A_ w _).alloc _).alloc _;have E:=zy (jk (rv:=rv) c (D.fr i u_));have y:=F.fr i id;have n:=B_ (w.alloc (.cells #[.slice A ds.length B,rv] 60)) #[I_ p,U_ c] 226;have hz:(w.alloc (.cells #[.slice A ds.length B,rv] 60)).heap.size=w.heap.size+1:=x8_
 rw[hz]at n;replace i:=zy i;replace y:=zy y;replace n:=zy n;cases he:zx ds c with
 |some b=>
  rw[he]at r;replace he:=zy he;go_in;go_wp2_with (go_at_call 76;apply E.o.mono;rintro e j ⟨H,rfl,d,hm⟩;rw[he.o]at hm;obtain⟨k,bx,rfl⟩:=hm.iface;replace d:=zy d);try go_ret
  rw[C.o];refine⟨.nilIface,rfl,i.o.trans d u_,?_⟩;rw[r.o];rfl
 |none=>
  rw[he]at r;replace he:=zy he;go_in;go_wp2_with (go_at_call 76;apply E.o.mono;rintro e j ⟨H,rfl,d,hm⟩;rw[he.o]at hm;replace hm:H=.nilIface:=hm;subst hm;have u:=(d.bl n id).c0;have k:=y.o.fr d id;replace d:=zy d;replace k:_=_:=k);refine tr_ 7 (λW=>z_ W (w.heap.size+1) 0 (I_ p)/\z_ W 1 0 (.iface et ex)) ?_;refine tz_ 0 ?_;refine tz_ 1 ?_;refine tz_ 3 ?_;refine zh 2 rfl K_ (λ_=>⟨u,k⟩) (λK G=>?_);go_simp;apply(xg (p:Int) _).mono;rintro e w' ⟨rfl,rfl⟩;refine G _ _ ?_;refine tz_ 4 ?_;refine t1_ 5 ⟨u,k⟩ ?_;have n:∀{a:Addr} {x:Value},j.cell? a=some x->(j.drew.alloc (.cells #[I_ p,.iface et ex] 187)).cell? a=some x:=@λa x h=>(World.cell?_alloc_lt (j.drew) _ a (by exact World.block_lt_of_cell? j a h)).trans h;refine t1_ 6 ⟨n u,n k⟩ ?_;refine t1_ 7 ⟨n u,n k⟩ ?_;refine td_ ?_ _;go_wp2;try go_ret
  rw[C.o];have I:=(i.o.trans d u_).size;refine⟨_,rfl,((i.o.trans d u_).alloc _).drew,?_⟩;rw[r.o];exact⟨j.heap.size,I,rfl,(B_ j _ _).drew⟩
def sQ{l:Ad}(h:l[q]?=some t):zZ (l.drop q)=za t++zZ (l.drop (q+1)):=by
 have hl:=(ai_.1 h).1;rw[bo_ hl,zZ,(ai_.1 h).2]
def mS{l:Ad}{X:Ah}(ho:w.ownsRow 0 58 1 (S_ g m cap) l.length ((List.range l.length).map X))(h:∀i t,l[i]?=some t->TyV w P t (X i))(a:l[q]?=some t):∃T x,w.cell? ⟨g,q,none⟩=some (.iface T x)/\TyV w P t (.iface T x):=by
 have d:=h q t a;obtain⟨T,x,e⟩:=d.iface;have hl:=(ai_.1 a).1;have hm:=mY ho;subst hm;refine⟨T,x,zt ho rfl ?_,e▸d⟩;rw[as_,ce_ hl,bh_,e]
def Ve(p:Nat)(l:Ad)(V:l.length<=300)(E:∀t∈l,pQ t):pQ (.alts p l):=by
 intro w P s ds sv rv v xs et ex D hv H;refine hq_ λV F=>?_;obtain⟨X,k,ho,hP,hX,rfl⟩:∃X k,w.ownsRow 0 58 1 k l.length ((List.range l.length).map X)/\(∀g,k.ownBlock=some g->P g)/\(∀i t,l[i]?=some t->TyV w P t (X i))/\v=.iface 223 (.agg #[I_ p,k]):=by
  cases hv with
  |alts _ X ho hP h=>exact⟨X,_,ho,hP,h,rfl⟩
 obtain⟨u,z,rfl⟩:=zw D.row;obtain⟨L,M,rfl⟩:=zw ho;obtain⟨w0,n⟩:=e_ ((w.alloc (.cells #[.slice u ds.length z,rv] 60)).alloc (.cells #[I_ p,.slice L l.length M] 223));have a:Fr w w0 N_:=by rw[n];exact((A_ w _).alloc _).alloc _
 have A:Blk w0 w.heap.size [.slice u ds.length z,rv] 60:=by rw[n];exact(B_ w #[.slice u ds.length z,rv] 60).alloc _
 have K:=zy (D.fr a u_);have O:=zy (H.fr a id);have J:=zy (zj ho a u_);have Q:=zy (λi t e=>(hX i t e).fr a u_);replace A:=zy A;replace a:=zy a;have start:H_ (∃q:Nat,Value.int .i64 0=I_ q/\q<=l.length/\l.length+1-q<=l.length+1/\Fr w0 w0 N_/\vz (zx ds) (za (.alts p l))=vz (zx ds) (zZ (l.drop q))):=zy ⟨0,rfl,al_ _,M_,A_ _ _,by rw[za];rfl⟩;have H:=kL 223 D_;have L:=gW 223 D_;have M:=gK;replace E:=zy E;go_in;go_wp2;rw[<- n];go_loopg [33] (l.length+1) (λm v W=>∃q:Nat,v=I_ q/\q<=l.length/\l.length+1-q<=m/\Fr w0 W N_/\vz (zx ds) (za (.alts p l))=vz (zx ds) (zZ (l.drop q)));case atStart=>exact start
 case round=>
  obtain⟨q,rfl,n,hm,hf,he⟩:=hrel;have n:=hf.bl A id;have A:=n.c0;have A:=n.c1;by_cases C:q<l.length
  .have R:(q:Int)<(l.length:Int):=M_;have hd:l[q]?=some l[q]:=ak_ C;have I:l[q]∈l:=bj_ C;generalize l[q]=t at hd I;obtain⟨g,cap,n⟩:=zp J M_;cases n;obtain⟨T,x,c0,n⟩:=mS (zj J hf u_) (λi t e=>(Q.o i t e).fr hf u_) hd;have G:=zy (E.o t I wr P s ds (.slice u ds.length z) rv (.iface T x) xs et ex (K.o.fr hf u_) n (O.o.fr hf id));rw[sQ hd,qR]at he;replace hf:=zy hf;cases hu:vz (zx ds) (za t) with
   |nil=>
    rw[hu,bm_]at he;replace he:=zy he;replace hu:=zy hu;go_wp2_with (go_at_call 79;apply G.o.mono;rintro e U ⟨k,rfl,d,j⟩;rw[hu.o]at j;replace j:k=.nilIface:=j;subst j;replace d:=zy d);go_roundg (l.length+1-(q+1));case measure=>omega
    case rel=>exact⟨q+1,rfl,C,l_,hf.o.trans d u_,he⟩
   |cons y r=>
    rw[hu,bf_]at he;replace he:=zy he;replace hu:=zy hu;go_wp2_with (go_at_call 79;apply G.o.mono;rintro e U ⟨k,rfl,d,j⟩;rw[hu.o]at j;obtain⟨N,k,rfl,B⟩:=j;replace d:=zy d;replace B:=zy B);try go_ret
    rw[F.o];have j:=(a.o.trans hf u_).size;refine⟨_,rfl,(a.o.trans hf u_).trans d u_,?_⟩;rw[he.o];exact⟨N,M_,rfl,B⟩
  .have R:¬((q:Int)<(l.length:Int)):=M_;rw[b1_ M_,zZ]at he;replace he:=zy he;replace hf:=zy hf;go_wp2;try go_ret
   rw[F.o];refine⟨.nilIface,rfl,a.o.trans hf u_,?_⟩;rw[he.o];rfl
def xL:PT->Prop
 | .leaf c _=>zr c=true\/zo c=true
 | .wrap _ _ t=>xL t
 | .alts _ ts=>ts.length<=300/\∀t∈ts,xL t
def Xd:∀(n:Nat) (t:PT),SizeOf.sizeOf t<=n->xL t->pQ t:=by
 intro n;induction n with
 |zero=>intro t h;cases t<;>simp at h
 |succ n ih=>
  intro t h hb;cases t with
  |leaf c p=>
   unfold xL at hb;rcases hb with hb|hb
   .exact Vi c p hb
   .exact Zh c p hb
  |wrap c p t=>
   unfold xL at hb;exact Vs c p t (ih t (by simp at h;omega) hb)
  |alts p ts=>
   unfold xL at hb;exact Ve p ts hb.1 (λt ht=>ih t ym_ (hb.2 t ht))
def MJ(s:BA)(hs:s.size<=300)(f:Nat):(∀i t j,i<=s.size->ve s f i=.ok (t,j)->xL t)/\(∀i ts j,i<=s.size->yO s f i=.ok (ts,j)->i+ts.length<=j/\∀t∈ts,xL t):=by
 induction f with
 |zero=>exact⟨λi t j _ h=>by simp[ve]at h,λi t j _ h=>by simp[yO]at h⟩
 |succ f ih=>
  obtain⟨ihT,ihA⟩:=ih;have e:=(bk s f).1;have hbA:=(bk s f).2;refine⟨λi t j hi h=>?_,λi t j hi h=>?_⟩
  .have cc1:=Nat;exact cwPE1_
  .rw[vS]at h;unfold wC at h;cases hp:ve s f i with
   |error k=>rw[hp]at h;simp at h
   |ok r=>
    obtain⟨t',j'⟩:=r;rw[hp]at h;have h1:=ihT _ _ _ hi hp;have h2:=(e i hi).1 _ _ hp;simp only at h;split at h
    .rename_i o;have hl:=zm (s:=s) (i:=j') M_;cases a:yO s f (j'+1) with
     |error k=>rw[a]at h;simp at h
     |ok r=>
      obtain⟨ts,k⟩:=r;rw[a]at h;simp only[ae_,ac_]at h;obtain⟨rfl,rfl⟩:=h;obtain⟨n,d⟩:=ihA _ _ _ M_ a;refine⟨by simp;omega,λu hu=>?_⟩;rcases an_.1 hu with rfl|hu
      .exact h1
      .exact d u hu
    .simp only[ae_,ac_]at h;obtain⟨rfl,rfl⟩:=h;exact⟨by simp;omega,λu hu=>by rw[a2_]at hu;subst hu;exact h1⟩
def KP(hs:s.size<=300){i:Nat}{j:Nat}(hi:i<=s.size)(h:pT s i=.ok (t,j)):xL t:=(MJ s hs _).1 i t j hi h
def vp(w:Aw)(b:Nat)(seen:Ao):Prop:=
 ∃cs,Blk w b cs 306/\cs.length=26/\∀k,k<26->cs[k]?=some (.bool (decide (97+k∈seen)))
def vp.fr(h:vp w b seen)(hf:Fr w w' S)(d:¬S b):vp w' b seen:=by
 obtain⟨cs,h1,a⟩:=h;exact⟨cs,hf.bl h1 d,a⟩
def vp.same{l m:Ao}(h:vp w b l)(e:∀x,x∈l↔x∈m):vp w b m:=by
 obtain⟨cs,h1,a,d⟩:=h;refine⟨cs,h1,a,λk hk=>?_⟩;rw[d k hk];simp only[e]
def vp.add{k:Nat}(h:vp w b seen)(hk:k<26):vp (w.setCell ⟨b,k,none⟩ (.bool true)) b (seen++[97+k]):=by
 obtain⟨cs,h1,a,d⟩:=h;refine⟨cs.set k (.bool true),h1.set k _,by simpa using a,λq i=>?_⟩;by_cases e:q=k
 .subst e;rw[ch_ M_];simp
 .rw[bu_ (Ne.symm e),d q i];simp[e]
def kS(h:zl x=true):∃k,x=97+k/\k<26:=by
 simp only[zl,a0_,decide_eq_true_eq]at h;exact⟨x-97,M_,M_⟩
def aa(h:vp w b seen)(hx:zl x=true):Calls prog 147 #[P_ b,.agg #[Z_ p,U_ x]] w λe w'=>e=.returned (.bool (decide (x∈seen)))/\Fr w w' N_:=by
 refine hq_ λj a=>?_;obtain⟨k,hk,i⟩:=kS hx;have u:IntKind.u8.wrap ((x:Int)-97)=(k:Int):=by rw[IntKind.wrap_u8];omega
 have c0:(w.alloc (.cells #[Z_ p,U_ x] 192)).cell? ⟨b,k,none⟩=some (.bool (decide (x∈seen))):=by
  obtain⟨cs,h1,n,d⟩:=h;rw[(h1.alloc _).cell k,d k i,hk]
 have hb:b<(w.alloc (.cells #[Z_ p,U_ x] 192)).heap.size:=World.block_lt_of_cell? _ ⟨b,k,none⟩ c0;have r:(k:Int)<26:=M_;clear h hx hk;go_in;go_wp2;go_quiet (fail);go_wp2;try go_ret
 rw[a.o];exact⟨rfl,((A_ w _).alloc _).si (zq.drewN _ _)⟩
def aY(h:vp w b seen)(hx:zl x=true):Calls prog 146 #[P_ b,.agg #[Z_ p,U_ x]] w λe w'=>e=.returned (.bool (!decide (x∈seen)))/\Fr w w' (λg=>g=b)/\vp w' b (seen++[x]):=by
 refine hq_ λj n=>?_;obtain⟨k,hk,u⟩:=kS hx;have j:IntKind.u8.wrap ((x:Int)-97)=(k:Int):=by rw[IntKind.wrap_u8];omega
 have j:(k:Int)<26:=M_;have h0:=h.fr ((A_ w N_).alloc (.cells #[Z_ p,U_ x] 192)) id;have i:=zy (aa (p:=p) h0 hx);have d:=B_ w #[Z_ p,U_ x] 192;have j:b<w.heap.size:=by obtain⟨cs,h1,_⟩:=h;exact h1.lt
 revert hk h0 d;refine h_ λhk h0 d=>?_;by_cases hm:x∈seen
 .have hd:=zy (show decide (x∈seen)=true from decide_eq_true hm);replace hm:=zy hm;go_in;go_wp2_with (go_at_call 147;apply i.o.mono;rintro e w1 ⟨rfl,a⟩;rw[hd.o];replace a:=zy a);try go_ret
  rw[n.o];refine⟨by rw[hd.o];rfl,(((A_ w _).alloc _).trans a v_),(h0.o.fr a id).same (λy=>?_)⟩;rw[a4_,a2_];exact⟨λq=>.inl q,λq=>by rcases q with q|rfl;exact q;exact hm⟩
 .have hd:=zy (show decide (x∈seen)=false from decide_eq_false hm);go_in;go_wp2_with (go_at_call 147;apply i.o.mono;rintro e w1 ⟨rfl,a⟩;rw[hd.o];have j:=(a.bl d id).c1;have d:=h0.o.fr a id;have i:=a.size;replace a:=zy a);have i:w1.cell? ⟨b,k,none⟩=some (.bool (decide (97+k∈seen))):=by obtain⟨cs,i,A,r⟩:=d;rw[i.cell k,r k u]
  have fb:w1.frozen? ⟨b,k,none⟩=false:=by obtain⟨cs,i,A,r⟩:=d;exact i.th k
  have z:=zy (d.add u);replace d:=zy d;refine tr_ 6 (λW=>z_ W w.heap.size 1 (U_ x)) ?_;refine tz_ 0 ?_;refine tz_ 1 ?_;refine tz_ 2 ?_;refine tz_ 3 ?_;refine t1_ 4 j ?_;refine t1_ 5 j ?_;refine t1_ 6 j ?_;refine td_ ?_ _;go_wp2;try go_ret
  rw[n.o];rw[hk.o]at hd⊢;refine⟨by rw[hd.o];rfl,?_,?_⟩
  .exact((((A_ w _).alloc _).trans a v_).drew).setCell _ _ (λ_=>rfl)
  .exact z
def lD:Array Value:=(List.replicate 26 (Value.bool false)).toArray
def aq(w:Aw):vp (w.alloc (.cells lD 306)) w.heap.size []:=by
 refine⟨List.replicate 26 (Value.bool false),B_ w lD _,by simp,λk hk=>?_⟩;rw[List.getElem?_replicate,i_ hk];simp
def tD:(#[.bool false,.bool false,.bool false,.bool false,.bool false,.bool false,.bool false,.bool false,.bool false,.bool false,.bool false,.bool false,.bool false,.bool false,.bool false,.bool false,.bool false,.bool false,.bool false,.bool false,.bool false,.bool false,.bool false,.bool false,.bool false,.bool false]:Array Value)=lD:=rfl
structure xu(w:Aw)(P:Az)(s:BA)(fs:An)(fv:Ax)(ys:Ay):Prop where
 row:w.ownsRow 0 195 4 fv fs.length ys
 off:∀g,fv.ownBlock=some g->P g
 V:xX w P s fs ys
def xu.fr(h:xu w P s fs sv xs)(hf:Fr w w' S)(a:∀g,P g->¬S g):xu w' P s fs sv xs:=
 ⟨zj h.row hf (λg hg=>a g (h.off g hg)),h.off,h.V.fr hf a⟩
def xu.cells(h:xu w P s fs (S_ g m cap) xs)(u:fs[q]?=some f):∃T x d,w.cell? ⟨g,q*4,none⟩=some (I_ f.place)/\w.cell? ⟨g,q*4+1,none⟩=some (U_ f.letter)/\w.cell? ⟨g,q*4+2,none⟩=some (.iface T x)/\w.cell? ⟨g,q*4+3,none⟩=some (.pointer d)/\TyV w P f.ty (.iface T x)/\DfV w P s f.dflt (.pointer d):=by
 obtain⟨a,b,c,d,h1,k,n,o,rfl,rfl,r,i⟩:=h.V q f u;obtain⟨T,x,rfl⟩:=r.iface;obtain⟨j,rfl⟩:∃j,d=.pointer j:=by
  unfold DfV at i;split at i
  .exact⟨_,i⟩
  .obtain⟨g',u,_,e,_⟩:=i;exact⟨_,e⟩
 have hm:=mY h.row;subst hm;rw[bi_]at h1 k n o;exact⟨T,x,j,zt h.row rfl h1,zt h.row rfl k,zt h.row rfl n,zt h.row rfl o,r,i⟩
def JC{env:Au}(h:fs[q]?=some f)(seen:Ao):kt env seen (fs.drop q)=(if f.letter∈seen then [f.place] else [])++(vz env (za f.ty)++kt env (seen++[f.letter]) (fs.drop (q+1))):=by
 have hl:=(ai_.1 h).1;rw[bo_ hl,kt,(ai_.1 h).2]
def sB(h:fs[q]?=some f):(fs.take (q+1)).map PF.letter=(fs.take q).map PF.letter++[f.letter]:=by
 rw[a6_,h];simp
def BV(w0:Aw)(bS:Nat)(env:Au)(fs:An)(m:Nat)(v:Ax)(W:Aw):Prop:=
 ∃q:Nat,v=I_ q/\q<=fs.length/\fs.length+1-q<=m/\Fr w0 W (λg=>g=bS)/\vp W bS ((fs.take q).map PF.letter)/\kt env [] fs=kt env ((fs.take q).map PF.letter) (fs.drop q)
def cwuX1_{p:Prop}(h:p:=by
 (first|(have:=cc1;have hd1:=zy (show(!decide (c∈seen))=false by rw[decide_eq_true hdup];rfl))|(have hd1:=zy (show(!decide (l∈seen))=false by rw[decide_eq_true hdup];rfl)));rw[i_ hdup]at he;replace he:=zy he;go_wp2_with (go_at_call 146;apply hCa.o.mono;rintro e w2 ⟨rfl,hf2,hS2⟩;rw[hd1.o];have n0:=(hf2.bl N1.o M_).c0;have e0:=E1.o.fr hf2 hgE';replace hf2:=zy hf2;replace e0:_=_:=e0;clear hS2);(first|(have:=cc1;refine tr_ 7 (λW=>z_ W wr.heap.size 0 (I_ pl)/\z_ W 1 0 (.iface et ex)) ?_)|(refine tr_ 8 (λW=>z_ W wr.heap.size 0 (I_ pl)/\z_ W 1 0 (.iface et ex)) ?_));refine tz_ 0 ?_;refine tz_ 1 ?_;(first|(have:=cc1;refine tz_ 3 ?_)|(refine tz_ 2 ?_));(first|(have:=cc1;refine zh 2 rfl K_ (λ_=>⟨n0,e0⟩) (λK hK=>?_))|(refine tz_ 4 ?_;refine zh 3 rfl K_ (λ_=>⟨n0,e0⟩) (λK hK=>?_)));go_simp;apply(xg (pl:Int) _).mono;rintro e w' ⟨rfl,rfl⟩;refine hK _ _ ?_;clear hK K;(first|(have:=cc1;refine tz_ 4 ?_)|(refine tz_ 5 ?_));(first|(have:=cc1;refine t1_ 5 ⟨n0,e0⟩ ?_)|(refine t1_ 6 ⟨n0,e0⟩ ?_));have hAL:∀{a:Addr} {x:Value},w2.cell? a=some x->(w2.drew.alloc (.cells #[I_ pl,.iface et ex] 187)).cell? a=some x:=@λa x h=>(World.cell?_alloc_lt (w2.drew) _ a (by exact World.block_lt_of_cell? w2 a h)).trans h;(try have:=cc1;refine t1_ 6 ⟨hAL n0,hAL e0⟩ ?_);refine t1_ 7 ⟨hAL n0,hAL e0⟩ ?_;(first|(have:=cc1)|(refine t1_ 8 ⟨hAL n0,hAL e0⟩ ?_));refine td_ ?_ _;go_wp2;try go_ret
 rw[Q_.o];have hF2:=hFw.o.trans hf2.o (λy hy e=>M_);have hs2:=hF2.size;refine⟨_,rfl,(hF2.alloc _).drew,?_⟩;rw[he.o];exact⟨w2.heap.size,hs2,rfl,(B_ w2 _ _).drew⟩):p:=h
def uX{fv:Ax}{ys:Ay}(D:yC w P s ds sv xs)(F:xu w P s fs fv ys)(Q:vw 1 w et ex)(hl:fs.length<=300)(d8:∀f∈fs,zl f.letter=true)(b9:∀f∈fs,xL f.ty)(J:∀g,P g->g<w.heap.size):Calls prog 103 #[.agg #[sv,rv],.agg #[Z_ p,fv]] w (yM w (.iface et ex) (kt (zx ds) [] fs)):=by
 refine hq_ λd9 Q_=>?_;obtain⟨E,G,rfl⟩:=zw D.row;obtain⟨fa,fc,rfl⟩:=zw F.row;have d2:=World.block_lt_of_cell? w ⟨1,0,none⟩ Q;obtain⟨H,C⟩:=e_ ((w.alloc (.cells #[.slice E ds.length G,rv] 60)).alloc (.cells #[Z_ p,.slice fa fs.length fc] 228));have a3:H.heap.size=w.heap.size+2:=by rw[C];simp
 have a7:Fr w H N_:=by rw[C];exact((A_ w _).alloc _).alloc _
 have a6:Blk H w.heap.size [.slice E ds.length G,rv] 60:=by rw[C];exact(B_ w #[.slice E ds.length G,rv] 60).alloc _
 obtain⟨w0,z⟩:=e_ (H.alloc (.cells lD 306));have n:Fr w w0 N_:=by rw[z];exact a7.alloc _
 have R:Blk w0 w.heap.size [.slice E ds.length G,rv] 60:=by rw[z];exact a6.alloc _
 have a5:vp w0 (w.heap.size+2) []:=by rw[z,<- a3];exact aq H
 have e3:w0.heap.size=w.heap.size+3:=by rw[z];simp[a3]
 have D0:=zy (D.fr n u_);have F0:=zy (F.fr n u_);have b7:=zy (Q.fr n id);have start:H_ (BV w0 (w.heap.size+2) (zx ds) fs (fs.length+1) (O_) w0):=zy ⟨0,rfl,al_ _,M_,A_ _ _,a5,rfl⟩;replace R:=zy R;replace n:=zy n;have hgE':1≠w.heap.size+2:=M_;have J:=zy J;go_in;go_wp2;rw[tD,<- C,<- z];go_loopg [12] (fs.length+1) (λm v W=>BV w0 (w.heap.size+2) (zx ds) fs m v W);case atStart=>exact start
 case round=>
  obtain⟨q,rfl,hq,hm,hf,B,he⟩:=hrel;have e2:=hf.size;have hS:=hf.bl R M_;by_cases Z:q<fs.length
  .have d7:(q:Int)<(fs.length:Int):=M_;have hd:fs[q]?=some fs[q]:=ak_ Z;have a0:fs[q]∈fs:=bj_ Z;generalize fs[q]=f at hd a0;have X:=d8 f a0;obtain⟨g,cap,d6⟩:=zp F0.o.row M_;cases d6;have a1:∀g,P g->¬g=w.heap.size+2:=λg hg=>by have:=J.o g hg;omega
   obtain⟨T,x,d,c0,c1,c2,c3,U,b6⟩:=(F0.o.fr hf a1).cells hd;obtain⟨l,a8⟩:=x_ f.letter;obtain⟨pl,a9⟩:=x_ f.place;obtain⟨ty,b4⟩:=x_ f.ty;have L:=b9 f a0;rw[JC hd]at he;have M:=sB hd;rw[a8]at X c1 he M;rw[a9]at c0 he;rw[b4]at U he L;have i:=(A_ wr N_).alloc (.cells #[I_ pl,U_ l,.iface T x,.pointer d] 195);have N1:=B_ wr #[I_ pl,U_ l,.iface T x,.pointer d] 195;have b5:(wr.alloc (.cells #[I_ pl,U_ l,.iface T x,.pointer d] 195)).heap.size=wr.heap.size+1:=x8_
   have hCa:=zy (aY (p:=(pl:Int)) (B.fr i id) X);have V:=U.fr i u_;have N:=(D0.o.fr hf a1).fr i u_;have E1:=(b7.o.fr hf hgE').fr i id;have I:=i.bl hS id;have hFw:=zy ((n.o.trans hf (λy hy e=>M_)).trans i u_);have b8:=zy (hf.trans i v_);replace V:=zy V;replace N:=zy N;replace E1:=zy E1;replace I:=zy I;replace N1:=zy N1;replace b5:=zy b5;replace L:=zy L;obtain⟨seen,B⟩:=x_ ((fs.take q).map PF.letter);rw[B]at he M hCa;by_cases hdup:l∈seen
   .exact cwuX1_
   .have hd1:=zy (show(!decide (l∈seen))=true by rw[decide_eq_false hdup];rfl);rw[n_ hdup,bm_]at he;have a2:∀g,P g->¬g=w.heap.size+2:=λg hg=>by have:=J.o g hg;omega
    have a4:H_ (∀w2,Fr (wr.alloc (.cells #[I_ pl,U_ l,.iface T x,.pointer d] 195)) w2 (λg=>g=w.heap.size+2)->Calls prog 79 #[.agg #[.slice E ds.length G,rv],.iface T x] w2 (yM w2 (.iface et ex) (vz (zx ds) (za ty)))):=zy (λw2 O=>Xd _ ty l_ L w2 P s ds _ rv _ xs et ex (N.o.fr O a2) (V.o.fr O a2) (E1.o.fr O hgE'));cases hu:vz (zx ds) (za ty) with
    |nil=>
     rw[hu,bm_]at he;replace he:=zy he;replace hu:=zy hu;go_wp2_with (first
      |(go_at_call 146;apply hCa.o.mono;rintro e w2 ⟨rfl,hf2,hS2⟩;rw[hd1.o];have A:=hf2.bl N1 M_;have k:=hf2.bl I M_;have n2:=A.c2;have s0:=k.c0;have s1:=k.c1;replace hf2:=zy hf2;replace hS2:=zy hS2)
      |(go_at_call 79;apply(a4.o w2 hf2).mono;rintro e w3 ⟨v3,rfl,j,u⟩;rw[hu.o]at u;replace u:v3=.nilIface:=u;subst u;replace j:=zy j))
     go_roundg (fs.length+1-(q+1));case measure=>omega
     case rel=>exact⟨q+1,rfl,Z,l_,(b8.o.trans hf2 u_).trans j v_,by rw[M];exact hS2.o.fr j id,by rw[M];exact he⟩
    |cons y r=>
     rw[hu,bf_]at he;replace he:=zy he;replace hu:=zy hu;go_wp2_with (first
      |(go_at_call 146;apply hCa.o.mono;rintro e w2 ⟨rfl,hf2,hS2⟩;rw[hd1.o];have A:=hf2.bl N1 M_;have k:=hf2.bl I M_;have n2:=A.c2;have s0:=k.c0;have s1:=k.c1;replace hf2:=zy hf2;replace hS2:=zy hS2)
      |(go_at_call 79;apply(a4.o w2 hf2).mono;rintro e w3 ⟨v3,rfl,j,u⟩;rw[hu.o]at u;obtain⟨g3,e1,rfl,Y⟩:=u;replace j:=zy j;replace Y:=zy Y))
     try go_ret
     rw[Q_.o];have hF2:=hFw.o.trans hf2 (λy hy e=>M_);have hs2:=hF2.size;refine⟨_,rfl,hF2.trans j u_,?_⟩;rw[he.o];exact⟨g3,M_,rfl,Y⟩
  .have d7:¬((q:Int)<(fs.length:Int)):=M_;rw[b1_ M_,kt]at he;replace he:=zy he;replace hf:=zy hf;go_wp2;try go_ret
   rw[Q_.o];refine⟨.nilIface,rfl,n.o.trans hf (λy hy e=>M_),?_⟩;rw[he.o]
def xV:∀{q:Nat}{c p:Nat},l[q]?=some (c,p)->(zI l)[q*2]?=some (I_ p)/\(zI l)[q*2+1]?=some (U_ c):=by
 induction l with
 |nil=>intro q c p h;simp at h
 |cons x r ih=>
  intro q c p h;have hc:zI (x::r)=I_ x.2 :: U_ x.1::zI r:=by simp[zI]
  rw[hc];cases q with
  |zero=>
   simp only[aa_,af_]at h;subst h;exact⟨rfl,rfl⟩
  |succ q=>
   rw[ab_]at h;have:=ih h;rw[show(q+1)*2=q*2+1+1 by omega];exact this
def JD{p:Nat}(h:l[q]?=some (c,p))(seen:Ao):qw seen (l.drop q)=(if c∈seen then [p] else [])++qw (seen++[c]) (l.drop (q+1)):=by
 have hl:=(ai_.1 h).1;rw[bo_ hl,qw,(ai_.1 h).2]
def eS{p:Nat}(h:l[q]?=some (c,p)):(l.take (q+1)).map Prod.fst=(l.take q).map Prod.fst++[c]:=by
 rw[a6_,h];simp
def BX(w0:Aw)(bS:Nat)(l:As)(m:Nat)(v:Ax)(W:Aw):Prop:=
 ∃q:Nat,v=I_ q/\q<=l.length/\l.length+1-q<=m/\Fr w0 W (λg=>g=bS)/\vp W bS ((l.take q).map Prod.fst)/\qw [] l=qw ((l.take q).map Prod.fst) (l.drop q)
def bj{u:Ax}{o:Ac}(ho:w.ownsRow 0 192 2 sv l.length (zI l))(O:∀g,sv.ownBlock=some g->P g)(k:qu w P o u)(J:vw 1 w et ex)(hl:l.length<=300)(a2:∀q∈l,zl q.1=true)(a3:∀c p,o=some (c,p)->zl c=true)(D:∀g,P g->g<w.heap.size):Calls prog 104 #[.agg #[Z_ p,sv,u]] w (yM w (.iface et ex) (qw [] l++pH l o)):=by
 refine hq_ λa4 Q_=>?_;obtain⟨G,H,rfl⟩:=zw ho;obtain⟨d,rfl⟩:∃d,u=.pointer d:=by
  unfold qu at k;split at k
  .exact⟨_,k⟩
  .obtain⟨g',_,e,_⟩:=k;exact⟨_,e⟩
 have a0:1<w.heap.size:=World.block_lt_of_cell? w ⟨1,0,none⟩ J;obtain⟨C,B⟩:=e_ (w.alloc (.cells #[Z_ p,.slice G l.length H,.pointer d] 233));have Q:C.heap.size=w.heap.size+1:=by rw[B];simp
 have X:Fr w C N_:=by rw[B];exact(A_ w _).alloc _
 have V:Blk C w.heap.size [Z_ p,.slice G l.length H,.pointer d] 233:=by rw[B];exact B_ w #[Z_ p,.slice G l.length H,.pointer d] 233
 obtain⟨w0,n⟩:=e_ (C.alloc (.cells lD 306));have j:Fr w w0 N_:=by rw[n];exact X.alloc _
 have L:Blk w0 w.heap.size [Z_ p,.slice G l.length H,.pointer d] 233:=by rw[n];exact V.alloc _
 have U:vp w0 (w.heap.size+1) []:=by rw[n,<- Q];exact aq C
 have C:w0.heap.size=w.heap.size+2:=by rw[n];simp[Q]
 have Y:=zy (zj ho j u_);have Z:=zy (k.fr j u_);have T:=zy (J.fr j id);have start:H_ (BX w0 (w.heap.size+1) l (l.length+1) (O_) w0):=zy ⟨0,rfl,al_ _,M_,A_ _ _,U,rfl⟩;replace L:=zy L;replace j:=zy j;have hgE':1≠w.heap.size+1:=M_;replace D:=zy D;replace O:=zy O;go_in;go_wp2;rw[tD,<- B,<- n];go_loopg [9] (l.length+1) (λm v W=>BX w0 (w.heap.size+1) l m v W);case atStart=>exact start
 case round=>
  obtain⟨q,rfl,k,hm,hf,i,he⟩:=hrel;have k:=hf.size;have A:=hf.bl L M_;by_cases N:q<l.length
  .have a1:(q:Int)<(l.length:Int):=M_;have hd:l[q]?=some l[q]:=ak_ N;have I:l[q]∈l:=bj_ N;generalize l[q]=f at hd I;obtain⟨c,pl⟩:=f;have F:zl c=true:=a2 _ I;obtain⟨g,cap,k⟩:=zp Y M_;cases k;have R:¬g=w.heap.size+1:=by have:=D.o g (O.o g rfl);omega
   have z:=zj Y hf (λg' e=>by simp only[Value.ownBlock,af_]at e;subst e;exact R);have c0:=zt z rfl (xV hd).1;have c1:=zt z rfl (xV hd).2;rw[JD hd]at he;have E:=eS hd;have k:=(A_ wr N_).alloc (.cells #[I_ pl,U_ c] 192);have N1:=B_ wr #[I_ pl,U_ c] 192;have hCa:=zy (aY (p:=(pl:Int)) (i.fr k id) F);have E1:=(T.o.fr hf hgE').fr k id;have hFw:=zy ((j.o.trans hf (λy hy e=>M_)).trans k u_);have M:=zy (hf.trans k v_);replace E1:=zy E1;replace N1:=zy N1;obtain⟨seen,i⟩:=x_ ((l.take q).map Prod.fst);rw[i]at he E hCa;by_cases hdup:c∈seen
   .have cc1:=Nat;exact cwuX1_
   .have hd1:=zy (show(!decide (c∈seen))=true by rw[decide_eq_false hdup];rfl);rw[n_ hdup,bm_]at he;replace he:=zy he;go_wp2_with (go_at_call 146;apply hCa.o.mono;rintro e w2 ⟨rfl,hf2,hS2⟩;rw[hd1.o];replace hf2:=zy hf2;replace hS2:=zy hS2);go_roundg (l.length+1-(q+1));case measure=>omega
    case rel=>exact⟨q+1,rfl,N,l_,M.o.trans hf2 u_,by rw[E];exact hS2,by rw[E];exact he⟩
  .have a1:¬((q:Int)<(l.length:Int)):=M_;have k:q=l.length:=M_;rw[b1_ M_,qw]at he;rw[k,List.take_length]at i;have c2:=A.c2;have M:=Z.o.fr hf (λg hg e=>by have:=D.o g hg;omega);have I:=T.o.fr hf hgE';have hFw:=zy (j.o.trans hf (λy hy e=>M_));replace i:=zy i;replace A:=zy A;replace I:=zy I;cases o with
   |none=>
    have hn:d=none:=by
     have:Value.pointer d=.pointer none:=M;cases this;rfl
    subst hn;have z:=zy (show qw [] l++pH l none=[] by rw[he];rfl);go_wp2;try go_ret
    rw[Q_.o];refine⟨.nilIface,rfl,hFw,?_⟩;rw[z.o]
   |some r=>
    obtain⟨c,pl⟩:=r;obtain⟨g,hg,j,hB⟩:∃g,P g/\Value.pointer d=P_ g/\Blk wr g [I_ pl,U_ c] 192:=M;cases j;have b0:=hB.c0;have b1:=hB.c1;have R:=zy (aa (p:=(pl:Int)) i (a3 c pl rfl));replace hB:=zy hB;by_cases E:c∈l.map Prod.fst
    .have hd1:=zy (show decide (c∈l.map Prod.fst)=true from decide_eq_true E);have z:=zy (show qw [] l++pH l (some (c,pl))=[] by rw[he];simp only[pH];rw[i_ E];rfl);go_wp2_with (go_at_call 147;apply R.o.mono;rintro e w2 ⟨rfl,hf2⟩;rw[hd1.o];replace hf2:=zy hf2);try go_ret
     rw[Q_.o];refine⟨.nilIface,rfl,hFw.o.trans hf2 u_,?_⟩;rw[z.o]
    .have hd1:=zy (show decide (c∈l.map Prod.fst)=false from decide_eq_false E);have z:=zy (show qw [] l++pH l (some (c,pl))=[pl] by rw[he];simp only[pH];rw[n_ E];rfl);go_wp2_with (go_at_call 147;apply R.o.mono;rintro e w2 ⟨rfl,hf2⟩;rw[hd1.o];have n0:=(hf2.bl hB id).c0;have F:=(hf2.bl A id).c2;have e0:=I.o.fr hf2 id;replace hf2:=zy hf2;replace e0:_=_:=e0);refine tr_ 10 (λW=>z_ W w.heap.size 2 (P_ g)/\z_ W g 0 (I_ pl)/\z_ W 1 0 (.iface et ex)) ?_;refine tz_ 0 ?_;refine tz_ 1 ?_;refine tz_ 2 ?_;refine tz_ 3 ?_;refine tz_ 4 ?_;refine tz_ 6 ?_;refine zh 5 rfl K_ (λ_=>⟨F,n0,e0⟩) (λK hK=>?_);go_simp;apply(xg (pl:Int) _).mono;rintro e w' ⟨rfl,rfl⟩;refine hK _ _ ?_;refine tz_ 7 ?_;refine t1_ 8 ⟨F,n0,e0⟩ ?_;have hAL:∀{a:Addr} {x:Value},w2.cell? a=some x->(w2.drew.alloc (.cells #[I_ pl,.iface et ex] 187)).cell? a=some x:=@λa x h=>(World.cell?_alloc_lt (w2.drew) _ a (by exact World.block_lt_of_cell? w2 a h)).trans h;refine t1_ 9 ⟨hAL F,hAL n0,hAL e0⟩ ?_;refine t1_ 10 ⟨hAL F,hAL n0,hAL e0⟩ ?_;refine td_ ?_ _;go_wp2;try go_ret
     rw[Q_.o];have hF2:=hFw.o.trans hf2 (λy hy e=>e);have hs2:=hF2.size;refine⟨_,rfl,(hF2.alloc _).drew,?_⟩;rw[z.o];exact⟨w2.heap.size,hs2,rfl,(B_ w2 _ _).drew⟩
def plB:PB->Prop
 | .recd fs=>fs.length<=300/\(∀f∈fs,zl f.letter=true)/\∀f∈fs,xL f.ty
 | .enum l o=>l.length<=300/\(∀q∈l,zl q.1=true)/\∀c p,o=some (c,p)->zl c=true
 | .bytes _=>True
def lQ{b:PB}(D:yC w P s ds sv xs)(hb:yX w P s b v)(y:vw 1 w et ex)(j:plB b)(A:∀g,P g->g<w.heap.size):Calls prog 78 #[.agg #[sv,rv],v] w (yM w (.iface et ex) (qc (zx ds) b)):=by
 refine hq_ λM E=>?_;obtain⟨J,K,rfl⟩:=zw D.row;cases hb with
 |recd p ho hP h hp=>
  rename_i fs fv ys;obtain⟨F,G,rfl⟩:=zw ho;have a:Fr w ((w.alloc (.cells #[.slice J ds.length K,rv] 60)).alloc (.cells #[I_ p,.slice F fs.length G] 228)) N_:=((A_ w _).alloc _).alloc _;have B:=a.size;have H:=zy (uX (rv:=rv) (p:=(p:Int)) (D.fr a u_) ((⟨ho,hP,h⟩:xu w P s fs _ _).fr a u_) (y.fr a id) j.1 j.2.1 j.2.2 (λg hg=>bg_ (A g hg) B));replace a:=zy a;go_in;go_wp2_with (go_at_call 103;apply H.o.mono;rintro e L ⟨I,rfl,k,hm⟩;replace k:=zy k;replace hm:=zy hm);try go_ret
  rw[E.o];refine⟨I,rfl,a.o.trans k u_,?_⟩;have i:=hm.o;rw[qc];cases z:kt (zx ds) [] fs with
  |nil=>rw[z]at i;exact i
  |cons x r=>rw[z]at i;exact i.ls B
 |enum p ho hP hu hp=>
  rename_i l o lv u;obtain⟨F,G,rfl⟩:=zw ho;obtain⟨d,rfl⟩:∃d,u=.pointer d:=by
   have C:=hu;unfold qu at C;split at C
   .exact⟨_,C⟩
   .obtain⟨g',_,e,_⟩:=C;exact⟨_,e⟩
  have a:Fr w ((w.alloc (.cells #[.slice J ds.length K,rv] 60)).alloc (.cells #[I_ p,.slice F l.length G,.pointer d] 233)) N_:=((A_ w _).alloc _).alloc _;have B:=a.size;have H:=zy (bj (p:=(p:Int)) (zj ho a u_) hP (hu.fr a u_) (y.fr a id) j.1 j.2.1 j.2.2 (λg hg=>bg_ (A g hg) B));replace a:=zy a;go_in;go_wp2_with (go_at_call 104;apply H.o.mono;rintro e L ⟨I,rfl,k,hm⟩;replace k:=zy k;replace hm:=zy hm);try go_ret
  rw[E.o];refine⟨I,rfl,a.o.trans k u_,?_⟩;have i:=hm.o;rw[qc];cases z:qw [] l++pH l o with
  |nil=>rw[z]at i;exact i
  |cons x r=>rw[z]at i;exact i.ls B
 |bytes p n hp=>
  go_in;go_wp2;try go_ret
  rw[E.o];exact⟨.nilIface,rfl,(A_ w _).alloc _,rfl⟩
def yC.pre(h:yC w P s ds (S_ g m cap) xs)(r:q<=ds.length):yC w P s (ds.take q) (S_ g q cap) (xs.take (q*3)):=by
 have a:(ds.take q).length=q:=by rw[ca_];omega
 refine⟨?_,λg' e=>h.off g' e,λi d e=>?_,by rw[a];have:=h.len;omega⟩
 .rw[a];obtain⟨h1,r⟩:=h.row;refine⟨by rw[ca_,h1];omega,.inr ?_⟩;rcases r with⟨e,_⟩|⟨g',r,r,e,j,k,o,n,u,y⟩
  .cases e
  .cases e;refine⟨g,cap,r,rfl,j,k,M_,n,u,?_⟩;rw[<- y,List.take_take]
   congr 1
   omega
 .have hi:=(ai_.1 e).1;rw[a]at hi;rw[cd_,i_ hi]at e;obtain⟨c,j,k,o,n⟩:=h.V i d e;exact⟨c,by rw[cd_,i_ M_];exact j,by rw[cd_,i_ M_];exact k,by rw[cd_,i_ M_];exact o,n⟩
def JO{env:Au}{d:PD}(h:ds[q]?=some d)(seen:Ao):ke env seen (ds.drop q)=(if d.letter∈seen then [d.place] else [])++(qc env d.body++ke env (seen++[d.letter]) (ds.drop (q+1))):=by
 have hl:=(ai_.1 h).1;rw[bo_ hl,ke,(ai_.1 h).2]
def VX{d:PD}(h:ds[q]?=some d):(ds.take (q+1)).map PD.letter=(ds.take q).map PD.letter++[d.letter]:=by
 rw[a6_,h];simp
def rV:zx ds c=none↔c∉ds.map PD.letter:=by
 unfold zx;rw[<- uC 0 c ds];cases vf 0 c ds<;>simp
def ci(D:yC w P s ds sv xs)(hT:TyV w P t rv)(hE:vw 1 w et ex)(d8:∀d∈ds,plB d.body)(d2:xL t)(a7:∀g,P g->g<w.heap.size):Calls prog 42 #[.agg #[sv,rv]] w (yM w (.iface et ex) (xP ds t)):=by
 refine hq_ λd9 Q_=>?_;obtain⟨sa,n,rfl⟩:=zw D.row;obtain⟨rT,rx,rfl⟩:=hT.iface;have e4:=D.len;obtain⟨w0,hw0⟩:=e_ (w.alloc (.cells #[.slice sa ds.length n,.iface rT rx] 60));have z:Fr w w0 N_:=yc_
 have a1:Blk w0 w.heap.size [.slice sa ds.length n,.iface rT rx] 60:=by rw[hw0];exact B_ w #[.slice sa ds.length n,.iface rT rx] 60
 have O:=zy (D.fr z u_);have b9:=zy (hT.fr z u_);have a6:=zy (hE.fr z id);have b8:=zy (λg (hg:P g)=>bg_ (a7 g hg) z.size);have start:H_ (∃q:Nat,Value.int .i64 0=I_ q/\q<=ds.length/\ds.length+1-q<=ds.length+1/\Fr w0 w0 N_/\ke (zx ds) [] ds=ke (zx ds) ((ds.take q).map PD.letter) (ds.drop q)):=zy ⟨0,rfl,al_ _,M_,A_ _ _,rfl⟩;replace a1:=zy a1;replace z:=zy z;go_in;go_wp2;rw[<- hw0];go_loopg [3,10] (ds.length+1) (λm u v W=>∃q:Nat,v=I_ q/\q<=ds.length/\ds.length+1-q<=m/\Fr w0 W N_/\ke (zx ds) [] ds=ke (zx ds) ((ds.take q).map PD.letter) (ds.drop q));case atStart=>exact start
 case round=>
  obtain⟨q,rfl,hq,hm,hf,he⟩:=hrel;have e7:=hf.size;have H:=hf.bl a1 id;have e2:w.heap.size<wr.heap.size:=H.lt;have s0:=H.c0;have s1:=H.c1;by_cases a4:q<ds.length
  .have d7:(q:Int)<(ds.length:Int):=M_;have hd:ds[q]?=some ds[q]:=ak_ a4;have b4:ds[q]∈ds:=bj_ a4;generalize ds[q]=d at hd b4;obtain⟨g,cap,d6⟩:=zp O.o.row M_;cases d6;have Q:=O.o.fr hf u_;obtain⟨T,x,c0,c1,c2,hb⟩:=Q.cells hd;have e5:q<=n:=by
    obtain⟨_,G⟩:=O.o.row;rcases G with⟨e,_⟩|⟨g',e0,e1,e,k1,k2,k3,k4,k5,k6⟩
    .cases e
    .cases e;omega
   have e6:(q:Int)<=(n:Int):=M_;have Z:=d8 d b4;rw[JO hd]at he;have a0:=VX hd;obtain⟨l,a9⟩:=x_ d.letter;obtain⟨pl,b6⟩:=x_ d.place;obtain⟨b,a8⟩:=x_ d.body;rw[a9]at c1 he a0;rw[b6]at c0 he;rw[a8]at hb he Z;have A:=((A_ wr N_).alloc (.cells #[I_ pl,U_ l,.iface T x] 179)).alloc (.cells #[S_ g q n,.nilIface] 60);have J:=(B_ wr #[I_ pl,U_ l,.iface T x] 179).alloc (.cells #[S_ g q n,.nilIface] 60);have L:=zy (jk (rv:=.nilIface) l ((Q.pre hq).fr A u_));have D1:=Q.fr A u_;have B1:=hb.fr A u_;have E1:=(a6.o.fr hf id).fr A id;have R:=A.bl H id;have Y:=zy (hf.trans A u_);replace D1:=zy D1;replace B1:=zy B1;replace E1:=zy E1;replace R:=zy R;replace J:=zy J;replace Z:=zy Z;by_cases X:l∈(ds.take q).map PD.letter
   .rw[i_ X]at he;have N:=zy (show xP ds t=pl::(qc (zx ds) b++ke (zx ds) ((ds.take q).map PD.letter++[l]) (ds.drop (q+1))++vz (zx ds) (za t)) by unfold xP;rw[he];rfl);obtain⟨U,a2⟩:∃U,zx (ds.take q) l=some U:=by
     cases h:zx (ds.take q) l with
     |none=>exact absurd X (rV.1 h)
     |some U=>exact⟨U,rfl⟩
    replace a2:=zy a2;go_wp2_with (go_at_call 76;apply L.o.mono;rintro e k ⟨I,rfl,i,j⟩;rw[a2.o]at j;obtain⟨bT,bx,rfl⟩:=j.iface;have n0:=(i.bl J id).c0;have F:=E1.o.fr i id;replace i:=zy i;replace F:_=_:=F);refine tr_ 7 (λW=>z_ W wr.heap.size 0 (I_ pl)/\z_ W 1 0 (.iface et ex)) ?_;refine tz_ 0 ?_;refine tz_ 1 ?_;refine tz_ 3 ?_;refine zh 2 rfl K_ (λ_=>⟨n0,F⟩) (λK hK=>?_);go_simp;apply(xg (pl:Int) _).mono;rintro e w' ⟨rfl,rfl⟩;refine hK _ _ ?_;refine tz_ 4 ?_;refine t1_ 5 ⟨n0,F⟩ ?_;have V:∀{a:Addr} {x:Value},k.cell? a=some x->(k.drew.alloc (.cells #[I_ pl,.iface et ex] 187)).cell? a=some x:=@λa x h=>(World.cell?_alloc_lt (k.drew) _ a (by exact World.block_lt_of_cell? k a h)).trans h;refine t1_ 6 ⟨V n0,V F⟩ ?_;refine t1_ 7 ⟨V n0,V F⟩ ?_;refine td_ ?_ _;go_wp2;try go_ret
    rw[Q_.o];have M:=(z.o.trans Y u_).trans i u_;have b7:=M.size;refine⟨_,rfl,(M.alloc _).drew,?_⟩;rw[N.o];exact⟨k.heap.size,b7,rfl,(B_ k _ _).drew⟩
   .rw[n_ X,bm_]at he;have b5:=zy (rV.2 X);have a5:H_ (∀k,Fr ((wr.alloc (.cells #[I_ pl,U_ l,.iface T x] 179)).alloc (.cells #[S_ g q n,.nilIface] 60)) k N_->Calls prog 78 #[.agg #[S_ g ds.length n,.iface rT rx],.iface T x] k (yM k (.iface et ex) (qc (zx ds) b))):=zy (λk G=>lQ (D1.o.fr G u_) (B1.o.fr G u_) (E1.o.fr G id) Z (λg hg=>bg_ (b8.o g hg) (aj_ Y.o.size G.size)));cases hu:qc (zx ds) b with
    |nil=>
     rw[hu,bm_]at he;replace he:=zy he;replace hu:=zy hu;go_wp2_with (first
      |(go_at_call 76;apply L.o.mono;rintro e k ⟨I,rfl,i,j⟩;rw[b5.o]at j;replace j:I=.nilIface:=j;subst j;have n2:=(i.bl J id).c2;have B:=i.bl R id;have z0:=B.c0;have z1:=B.c1;replace i:=zy i)
      |(go_at_call 78;apply(a5.o k i).mono;rintro e w3 ⟨v3,rfl,C,E⟩;rw[hu.o]at E;replace E:v3=.nilIface:=E;subst E;replace C:=zy C))
     go_roundg (ds.length+1-(q+1));case measure=>omega
     case rel=>exact⟨q+1,rfl,a4,l_,(Y.o.trans i u_).trans C u_,by rw[a0];exact he⟩
    |cons y r=>
     rw[hu,bf_]at he;have N:=zy (show xP ds t=y::(r++ke (zx ds) ((ds.take q).map PD.letter++[l]) (ds.drop (q+1))++vz (zx ds) (za t)) by unfold xP;rw[he];rfl);replace hu:=zy hu;go_wp2_with (first
      |(go_at_call 76;apply L.o.mono;rintro e k ⟨I,rfl,i,j⟩;rw[b5.o]at j;replace j:I=.nilIface:=j;subst j;have n2:=(i.bl J id).c2;have B:=i.bl R id;have z0:=B.c0;have z1:=B.c1;replace i:=zy i)
      |(go_at_call 78;apply(a5.o k i).mono;rintro e w3 ⟨v3,rfl,C,E⟩;rw[hu.o]at E;obtain⟨g3,e3,rfl,a3⟩:=E;replace C:=zy C;replace a3:=zy a3))
     try go_ret
     rw[Q_.o];have M:=(z.o.trans Y u_).trans i u_;have b7:=M.size;refine⟨_,rfl,M.trans C u_,?_⟩;rw[N.o];exact⟨g3,M_,rfl,a3⟩
  .have d7:¬((q:Int)<(ds.length:Int)):=M_;rw[b1_ M_,ke]at he;have N:=zy (show xP ds t=vz (zx ds) (za t) by unfold xP;rw[he];rfl);have L:=zy (Xd _ t l_ d2 wr P s ds (.slice sa ds.length n) (.iface rT rx) (.iface rT rx) xs et ex (O.o.fr hf u_) (b9.o.fr hf u_) (a6.o.fr hf id));replace hf:=zy hf;go_wp2_with (go_at_call 79;apply L.o.mono;rintro e k ⟨I,rfl,i,j⟩;replace i:=zy i;replace j:=zy j);try go_ret
   rw[Q_.o];have U:=z.o.trans hf u_;have hs:=U.size;refine⟨I,rfl,U.trans i u_,?_⟩;rw[N.o];have F:=j.o;cases hu:vz (zx ds) (za t) with
   |nil=>rw[hu]at F;exact F
   |cons y r=>rw[hu]at F;exact F.ls hs
def su:PT->Prop
 | .wrap c _ _=>c=91\/c=123
 | _=>True
def sS(h:TyV w P t v)(hw:su t):Calls prog 105 #[v] w λe w'=>e=.returned (.bool (decide (t.kind=40)))/\Fr w w' N_:=by
 cases h with
 |base c p hc=>
  have hk:decide ((PT.leaf c p).kind=40)=false:=by
   simp only[zr,ax_,beq_iff_eq]at hc;exact decide_eq_false (by simp only[PT.kind];omega)
  rw[hk];obtain⟨u,hu⟩:=e_ (vB c);rw[<- hu];have hn:=ji c;rw[<- hu]at hn;have a:=vY u hn.2.2.1;clear hu hn hk;go_in;go_wp2;try go_ret
  exact⟨rfl,(A_ w _).alloc _⟩
 |name c p hc=>
  have hk:decide ((PT.leaf c p).kind=40)=false:=by
   simp only[zo,a0_,decide_eq_true_eq]at hc;exact decide_eq_false (by simp only[PT.kind];omega)
  rw[hk];have a:=vY 226 D_;clear hk;go_in;go_wp2;try go_ret
  exact⟨rfl,(A_ w _).alloc _⟩
 |wrap c p h=>
  rename_i d k;have hk:decide ((PT.wrap c p d).kind=40)=false:=by
   refine decide_eq_false ?_;show ¬(c=40);rcases hw with h|h<;>omega
  rw[hk];obtain⟨u,hu,hn⟩:∃u,u=qV c/\u≠223:=⟨qV c,rfl,by unfold qV;split<;>decide⟩;rw[<- hu];have a:=vY u hn;clear hu hn hk;go_in;go_wp2;try go_ret
  exact⟨rfl,(A_ w _).alloc _⟩
 |alts p X ho hP h=>
  rename_i l sv;have a:=gK;have hk:decide ((PT.alts p l).kind=40)=true:=rfl;rw[hk];obtain⟨i,j,rfl⟩:=zw ho;clear ho hP h hk;go_in;go_wp2;try go_ret
  exact⟨rfl,(A_ w _).alloc _⟩
def mZ(h:TyV w P t v)(hw:su t)(a:t.kind≠40):Calls prog 107 #[v] w λe w'=>e=.returned (U_ t.kind)/\Fr w w' N_:=by
 cases h with
 |base c p hc=>
  simp only[zr,ax_,beq_iff_eq]at hc;simp only[PT.kind];rcases hc with(((rfl|rfl)|rfl)|rfl)|rfl
  .rw[show vB 110=212 from rfl];go_in;go_wp2;try go_ret
   exact⟨rfl,(A_ w _).alloc _⟩
  .rw[show vB 116=214 from rfl];go_in;go_wp2;try go_ret
   exact⟨rfl,(A_ w _).alloc _⟩
  .rw[show vB 105=215 from rfl];go_in;go_wp2;try go_ret
   exact⟨rfl,(A_ w _).alloc _⟩
  .rw[show vB 108=216 from rfl];go_in;go_wp2;try go_ret
   exact⟨rfl,(A_ w _).alloc _⟩
  .rw[show vB 115=217 from rfl];go_in;go_wp2;try go_ret
   exact⟨rfl,(A_ w _).alloc _⟩
 |name c p hc=>
  simp only[PT.kind];go_in;go_wp2;try go_ret
  exact⟨rfl,(A_ w _).alloc _⟩
 |wrap c p h=>
  obtain⟨d,d,rfl⟩:=h.iface;simp only[PT.kind];rcases hw with rfl|rfl
  .rw[show qV 91=219 from rfl];go_in;go_wp2;try go_ret
   exact⟨rfl,(A_ w _).alloc _⟩
  .rw[show qV 123=220 from rfl];go_in;go_wp2;try go_ret
   exact⟨rfl,(A_ w _).alloc _⟩
 |alts p X ho hP h=>exact absurd rfl a
def sI{l:Ad}{X:Ah}{n k:Nat}{ys:Ay}(ho:w.ownsRow 0 58 1 sv n ys)(hn:n<=l.length)(E:∀g,sv.ownBlock=some g->P g)(hy:∀i t,i<n->l[i]?=some t->ys[i]?=some (X i)/\TyV w P t (X i))(I:∀t∈l,su t)(F:∀t∈l.take n,t.kind≠40)(E:n<=300):Calls prog 106 #[sv,U_ k] w λe w'=>e=.returned (.bool (decide (k∈(l.take n).map PT.kind)))/\Fr w w' N_:=by
 refine hq_ λE A=>?_;obtain⟨E,E,rfl⟩:=zw ho;have start:H_ (∃q:Nat,Value.int .i64 0=I_ q/\q<=n/\n+1-q<=n+1/\Fr w w N_/\k∉(l.take q).map PT.kind):=zy ⟨0,rfl,al_ _,M_,A_ _ _,by simp⟩;replace ho:=zy ho;replace hy:=zy hy;go_in;go_wp2;go_loopg [9] (n+1) (λm v W=>∃q:Nat,v=I_ q/\q<=n/\n+1-q<=m/\Fr w W N_/\k∉(l.take q).map PT.kind);case atStart=>exact start
 case round=>
  obtain⟨q,rfl,E,hm,hf,he⟩:=hrel;by_cases y:q<n
  .have H:(q:Int)<(n:Int):=M_;have E:q<l.length:=M_;have hd:l[q]?=some l[q]:=ak_ E;have C:l[q]∈l:=bj_ E;have D:l[q]∈l.take n:=by
    rw[List.mem_iff_getElem?];exact⟨q,by rw[cd_,i_ y];exact hd⟩
   generalize l[q]=t at hd C D;obtain⟨g,cap,E⟩:=zp ho M_;cases E;obtain⟨z,r⟩:=hy.o q t y hd;obtain⟨T,x,e⟩:=r.iface;rw[e]at z r;have c0:=zt (zj ho hf u_) rfl z;have u:=zy (mZ (r.fr hf u_) (I t C) (F t D));have d:(l.take (q+1)).map PT.kind=(l.take q).map PT.kind++[t.kind]:=by rw[a6_,hd];simp
   obtain⟨j,B⟩:=x_ t.kind;rw[B]at u d;replace hf:=zy hf;by_cases hk:j=k
   .subst hk;have G:H_ (j∈(l.take n).map PT.kind):=zy (by
     have:(l.take (q+1)).map PT.kind <+: (l.take n).map PT.kind:=(List.take_prefix_take_left M_).map PT.kind
     exact this.subset (by rw[d];simp))
    go_wp2_with (go_at_call 107;apply u.o.mono;rintro e J ⟨rfl,a⟩;replace a:=zy a);try go_ret
    rw[A.o];exact⟨by rw[decide_eq_true G.o];rfl,hf.o.trans a u_⟩
   .have r:((j:Int)==(k:Int))=false:=x1_
    have G:=zy (show k∉(l.take (q+1)).map PT.kind by rw[d,a4_,a2_];rintro(h|h);exact he h;exact hk h.symm);go_wp2_with (go_at_call 107;apply u.o.mono;rintro e J ⟨rfl,a⟩;replace a:=zy a);go_roundg (n+1-(q+1));case measure=>omega
    case rel=>exact⟨q+1,rfl,y,l_,hf.o.trans a u_,G⟩
  .have H:¬((q:Int)<(n:Int)):=M_;have a:q=n:=M_;rw[a]at he;replace he:=zy he;replace hf:=zy hf;go_wp2;try go_ret
   rw[A.o];exact⟨by rw[decide_eq_false he.o],hf⟩
end Go.Proofs.YtamhgejdkclmdaaGreatDoor
