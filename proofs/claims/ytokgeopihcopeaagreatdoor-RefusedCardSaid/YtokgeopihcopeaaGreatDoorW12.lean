import Derived.Test.YtokgeopihcopeaaGreatDoorW11
set_option linter.unusedVariables false
set_option maxHeartbeats 16000000
set_option maxRecDepth 100000
set_option linter.defProp false
set_option linter.unusedSimpArgs false
open Go.Proofs.Tryz
namespace Go.Proofs.YtokgeopihcopeaaGreatDoor
open Go.RowKit
variable {w:Aw}{P:Az}{q b g m cap x c:Nat}{s:BA}{ds:Ar}{t:PT}{sv ex rv v:Ax}{xs:Ay}{fs:An}{seen:Ao}{p:Int}{et:Av}{l:As}{f:PF}
def sJ{l:Af}(h:l[q]?=some t):zX (l.drop q)=zZ t++zX (l.drop (q+1)):=by
 have hl:=(ak_.1 h).1;rw[bs_ hl,zX,(ak_.1 h).2]
def mA{l:Af}{X:Ai}(ho:w.ownsRow 0 46 1 (S_ g m cap) l.length ((List.range l.length).map X))(h:∀i t,l[i]?=some t->TyV w P t (X i))(a:l[q]?=some t):∃T x,w.cell? ⟨g,q,none⟩=some (.iface T x)/\TyV w P t (.iface T x):=by
 have d:=h q t a;obtain⟨T,x,e⟩:=d.iface;have hl:=(ak_.1 a).1;have hm:=mV ho;subst hm;refine⟨T,x,zr ho rfl ?_,e▸d⟩;rw[ax_,ce_ hl,by_,e]
def Vi(p:Nat)(l:Af)(U:l.length<=300)(E:∀t∈l,pX t):pX (.alts p l):=by
 intro w P s ds sv rv v xs et ex D hv H;refine hq_ λU F=>?_;obtain⟨X,k,ho,hP,hX,rfl⟩:∃X k,w.ownsRow 0 46 1 k l.length ((List.range l.length).map X)/\(∀g,k.ownBlock=some g->P g)/\(∀i t,l[i]?=some t->TyV w P t (X i))/\v=.iface 226 (.agg #[I_ p,k]):=by
  cases hv with
  |alts _ X ho hP h=>exact⟨X,_,ho,hP,h,rfl⟩
 obtain⟨u,z,rfl⟩:=zw D.row;obtain⟨L,M,rfl⟩:=zw ho;obtain⟨w0,n⟩:=e_ ((w.alloc (.cells #[.slice u ds.length z,rv] 48)).alloc (.cells #[I_ p,.slice L l.length M] 226));have a:Fr w w0 N_:=by rw[n];exact((A_ w _).alloc _).alloc _
 have A:Blk w0 w.heap.size [.slice u ds.length z,rv] 48:=by rw[n];exact(B_ w #[.slice u ds.length z,rv] 48).alloc _
 have K:=zy (D.fr a u_);have O:=zy (H.fr a id);have J:=zy (zj ho a u_);have Q:=zy (λi t e=>(hX i t e).fr a u_);replace A:=zy A;replace a:=zy a;have start:H_ (∃q:Nat,Value.int .i64 0=I_ q/\q<=l.length/\l.length+1-q<=l.length+1/\Fr w0 w0 N_/\vg (zx ds) (zZ (.alts p l))=vg (zx ds) (zX (l.drop q))):=zy ⟨0,rfl,am_ _,M_,A_ _ _,by rw[zZ];rfl⟩;have H:=kC 226 D_;have L:=gW 226 D_;have M:=gK;replace E:=zy E;go_in;go_wp2;rw[<- n];go_loopg [33] (l.length+1) (λm v W=>∃q:Nat,v=I_ q/\q<=l.length/\l.length+1-q<=m/\Fr w0 W N_/\vg (zx ds) (zZ (.alts p l))=vg (zx ds) (zX (l.drop q)));case atStart=>exact start
 case round=>
  obtain⟨q,rfl,n,hm,hf,he⟩:=hrel;have n:=hf.bl A id;have A:=n.c0;have A:=n.c1;by_cases C:q<l.length
  .have R:(q:Int)<(l.length:Int):=M_;have hd:l[q]?=some l[q]:=aj_ C;have I:l[q]∈l:=bi_ C;generalize l[q]=t at hd I;obtain⟨g,cap,n⟩:=zg J M_;cases n;obtain⟨T,x,c0,n⟩:=mA (zj J hf u_) (λi t e=>(Q.o i t e).fr hf u_) hd;have G:=zy (E.o t I wr P s ds (.slice u ds.length z) rv (.iface T x) xs et ex (K.o.fr hf u_) n (O.o.fr hf id));rw[sJ hd,qH]at he;replace hf:=zy hf;cases hu:vg (zx ds) (zZ t) with
   |nil=>
    rw[hu,bq_]at he;replace he:=zy he;replace hu:=zy hu;go_wp2_with (go_at_call 74;apply G.o.mono;rintro e S ⟨k,rfl,d,j⟩;rw[hu.o]at j;replace j:k=.nilIface:=j;subst j;replace d:=zy d);go_roundg (l.length+1-(q+1));case measure=>omega
    case rel=>exact⟨q+1,rfl,C,l_,hf.o.trans d u_,he⟩
   |cons y r=>
    rw[hu,bk_]at he;replace he:=zy he;replace hu:=zy hu;go_wp2_with (go_at_call 74;apply G.o.mono;rintro e S ⟨k,rfl,d,j⟩;rw[hu.o]at j;obtain⟨N,k,rfl,B⟩:=j;replace d:=zy d;replace B:=zy B);try go_ret
    rw[F.o];have j:=(a.o.trans hf u_).size;refine⟨_,rfl,(a.o.trans hf u_).trans d u_,?_⟩;rw[he.o];exact⟨N,M_,rfl,B⟩
  .have R:¬((q:Int)<(l.length:Int)):=M_;rw[b0_ M_,zX]at he;replace he:=zy he;replace hf:=zy hf;go_wp2;try go_ret
   rw[F.o];refine⟨.nilIface,rfl,a.o.trans hf u_,?_⟩;rw[he.o];rfl
def xS:PT->Prop
 | .leaf c _=>zi c=true\/zY c=true
 | .wrap _ _ t=>xS t
 | .alts _ ts=>ts.length<=300/\∀t∈ts,xS t
def Xe:∀(n:Nat) (t:PT),SizeOf.sizeOf t<=n->xS t->pX t:=by
 intro n;induction n with
 |zero=>intro t h;cases t<;>simp at h
 |succ n ih=>
  intro t h hb;cases t with
  |leaf c p=>
   unfold xS at hb;rcases hb with hb|hb
   .exact Vs c p hb
   .exact Zr c p hb
  |wrap c p t=>
   unfold xS at hb;exact Vn c p t (ih t (by simp at h;omega) hb)
  |alts p ts=>
   unfold xS at hb;exact Vi p ts hb.1 (λt ht=>ih t yo_ (hb.2 t ht))
def MU(s:BA)(hs:s.size<=300)(f:Nat):(∀i t j,i<=s.size->vY s f i=.ok (t,j)->xS t)/\(∀i ts j,i<=s.size->xy s f i=.ok (ts,j)->i+ts.length<=j/\∀t∈ts,xS t):=by
 induction f with
 |zero=>exact⟨λi t j _ h=>by simp[vY]at h,λi t j _ h=>by simp[xy]at h⟩
 |succ f ih=>
  obtain⟨ihT,ihA⟩:=ih;have e:=(pO s f).1;have hbA:=(pO s f).2;refine⟨λi t j hi h=>?_,λi t j hi h=>?_⟩
  .have cc1:=Nat;exact cwPR1_
  .rw[jz]at h;unfold wC at h;cases hp:vY s f i with
   |error k=>rw[hp]at h;simp at h
   |ok r=>
    obtain⟨t',j'⟩:=r;rw[hp]at h;have h1:=ihT _ _ _ hi hp;have h2:=(e i hi).1 _ _ hp;simp only at h;split at h
    .rename_i o;have hl:=zp (s:=s) (i:=j') M_;cases a:xy s f (j'+1) with
     |error k=>rw[a]at h;simp at h
     |ok r=>
      obtain⟨ts,k⟩:=r;rw[a]at h;cases h;obtain⟨n,d⟩:=ihA _ _ _ M_ a;refine⟨by simp;omega,λu hu=>?_⟩;rcases aq_.1 hu with rfl|hu
      .exact h1
      .exact d u hu
    .cases h;exact⟨by simp;omega,λu hu=>by rw[a2_]at hu;subst hu;exact h1⟩
def KK(hs:s.size<=300){i:Nat}{j:Nat}(hi:i<=s.size)(h:pT s i=.ok (t,j)):xS t:=(MU s hs _).1 i t j hi h
def vi(w:Aw)(b:Nat)(seen:Ao):Prop:=
 ∃cs,Blk w b cs 315/\cs.length=26/\∀k,k<26->cs[k]?=some (.bool (decide (97+k∈seen)))
def vi.fr{w':Aw}{S:Az}(h:vi w b seen)(hf:Fr w w' S)(d:¬S b):vi w' b seen:=by
 obtain⟨cs,h1,a⟩:=h;exact⟨cs,hf.bl h1 d,a⟩
def vi.same{l m:Ao}(h:vi w b l)(e:∀x,x∈l↔x∈m):vi w b m:=by
 obtain⟨cs,h1,a,d⟩:=h;refine⟨cs,h1,a,λk hk=>?_⟩;rw[d k hk];simp only[e]
def vi.add{k:Nat}(h:vi w b seen)(hk:k<26):vi (w.setCell ⟨b,k,none⟩ (.bool true)) b (seen++[97+k]):=by
 obtain⟨cs,h1,a,d⟩:=h;refine⟨cs.set k (.bool true),h1.set k _,by simpa using a,λq i=>?_⟩;by_cases e:q=k
 .subst e;rw[cj_ M_];simp
 .rw[bz_ (Ne.symm e),d q i];simp[e]
def kS(h:zl x=true):∃k,x=97+k/\k<26:=by
 simp only[zl,a3_,decide_eq_true_eq]at h;exact⟨x-97,M_,M_⟩
def am(h:vi w b seen)(hx:zl x=true):Calls prog 169 #[P_ b,.agg #[Z_ p,U_ x]] w λe w'=>e=.returned (.bool (decide (x∈seen)))/\Fr w w' N_:=by
 refine hq_ λa a=>?_;obtain⟨k,hk,i⟩:=kS hx;have d:IntKind.u8.wrap ((x:Int)-97)=(k:Int):=by rw[IntKind.wrap_u8];omega
 have c0:(w.alloc (.cells #[Z_ p,U_ x] 191)).cell? ⟨b,k,none⟩=some (.bool (decide (x∈seen))):=by
  obtain⟨cs,h1,d,d⟩:=h;rw[(h1.alloc _).cell k,d k i,hk]
 have hb:b<(w.alloc (.cells #[Z_ p,U_ x] 191)).heap.size:=World.block_lt_of_cell? _ ⟨b,k,none⟩ c0;have d:(k:Int)<26:=M_;clear h hx hk;go_in;go_wp2;go_quiet (fail);go_wp2;try go_ret
 rw[a.o];exact⟨rfl,((A_ w _).alloc _).si (zq.drewN _ _)⟩
def ai(h:vi w b seen)(hx:zl x=true):Calls prog 168 #[P_ b,.agg #[Z_ p,U_ x]] w λe w'=>e=.returned (.bool (!decide (x∈seen)))/\Fr w w' (λg=>g=b)/\vi w' b (seen++[x]):=by
 refine hq_ λj n=>?_;obtain⟨k,hk,u⟩:=kS hx;have j:IntKind.u8.wrap ((x:Int)-97)=(k:Int):=by rw[IntKind.wrap_u8];omega
 have j:(k:Int)<26:=M_;have h0:=h.fr ((A_ w N_).alloc (.cells #[Z_ p,U_ x] 191)) id;have i:=zy (am (p:=p) h0 hx);have d:=B_ w #[Z_ p,U_ x] 191;have j:b<w.heap.size:=by obtain⟨cs,h1,_⟩:=h;exact h1.lt
 revert hk h0 d;refine h_ λhk h0 d=>?_;by_cases hm:x∈seen
 .have hd:=zy (show decide (x∈seen)=true from decide_eq_true hm);replace hm:=zy hm;go_in;go_wp2_with (go_at_call 169;apply i.o.mono;rintro e w1 ⟨rfl,a⟩;rw[hd.o];replace a:=zy a);try go_ret
  rw[n.o];refine⟨by rw[hd.o];rfl,(((A_ w _).alloc _).trans a v_),(h0.o.fr a id).same (λy=>?_)⟩;rw[a4_,a2_];exact⟨λq=>.inl q,λq=>by rcases q with q|rfl;exact q;exact hm⟩
 .have hd:=zy (show decide (x∈seen)=false from decide_eq_false hm);go_in;go_wp2_with (go_at_call 169;apply i.o.mono;rintro e w1 ⟨rfl,a⟩;rw[hd.o];have j:=(a.bl d id).c1;have d:=h0.o.fr a id;have i:=a.size;replace a:=zy a);have i:w1.cell? ⟨b,k,none⟩=some (.bool (decide (97+k∈seen))):=by obtain⟨cs,i,A,r⟩:=d;rw[i.cell k,r k u]
  have fb:w1.frozen? ⟨b,k,none⟩=false:=by obtain⟨cs,i,A,r⟩:=d;exact i.th k
  have z:=zy (d.add u);replace d:=zy d;refine tr_ 6 (λW=>z_ W w.heap.size 1 (U_ x)) ?_;refine tz_ 0 ?_;refine tz_ 1 ?_;refine tz_ 2 ?_;refine tz_ 3 ?_;refine t1_ 4 j ?_;refine t1_ 5 j ?_;refine t1_ 6 j ?_;refine td_ ?_ _;go_wp2;try go_ret
  rw[n.o];rw[hk.o]at hd⊢;refine⟨by rw[hd.o];rfl,?_,?_⟩
  .exact((((A_ w _).alloc _).trans a v_).drew).setCell _ _ (λ_=>rfl)
  .exact z
def lH:Array Value:=(List.replicate 26 (Value.bool false)).toArray
def eA(w:Aw):vi (w.alloc (.cells lH 315)) w.heap.size []:=by
 refine⟨List.replicate 26 (Value.bool false),B_ w lH _,by simp,λk hk=>?_⟩;rw[List.getElem?_replicate,i_ hk];simp
def tR:(#[.bool false,.bool false,.bool false,.bool false,.bool false,.bool false,.bool false,.bool false,.bool false,.bool false,.bool false,.bool false,.bool false,.bool false,.bool false,.bool false,.bool false,.bool false,.bool false,.bool false,.bool false,.bool false,.bool false,.bool false,.bool false,.bool false]:Array Value)=lH:=rfl
structure xh(w:Aw)(P:Az)(s:BA)(fs:An)(fv:Ax)(ys:Ay):Prop where
 row:w.ownsRow 0 194 4 fv fs.length ys
 off:∀g,fv.ownBlock=some g->P g
 V:xG w P s fs ys
def xh.fr{w':Aw}{S:Az}(h:xh w P s fs sv xs)(hf:Fr w w' S)(a:∀g,P g->¬S g):xh w' P s fs sv xs:=
 ⟨zj h.row hf (λg hg=>a g (h.off g hg)),h.off,h.V.fr hf a⟩
def xh.cells(h:xh w P s fs (S_ g m cap) xs)(u:fs[q]?=some f):∃T x d,w.cell? ⟨g,q*4,none⟩=some (I_ f.place)/\w.cell? ⟨g,q*4+1,none⟩=some (U_ f.letter)/\w.cell? ⟨g,q*4+2,none⟩=some (.iface T x)/\w.cell? ⟨g,q*4+3,none⟩=some (.pointer d)/\TyV w P f.ty (.iface T x)/\DfV w P s f.dflt (.pointer d):=by
 obtain⟨a,b,c,d,h1,k,n,o,rfl,rfl,r,i⟩:=h.V q f u;obtain⟨T,x,rfl⟩:=r.iface;obtain⟨j,rfl⟩:∃j,d=.pointer j:=by
  unfold DfV at i;split at i
  .exact⟨_,i⟩
  .obtain⟨g',u,_,e,_⟩:=i;exact⟨_,e⟩
 have hm:=mV h.row;subst hm;rw[bh_]at h1 k n o;exact⟨T,x,j,zr h.row rfl h1,zr h.row rfl k,zr h.row rfl n,zr h.row rfl o,r,i⟩
def JF{env:Au}(h:fs[q]?=some f)(seen:Ao):kh env seen (fs.drop q)=(if f.letter∈seen then [f.place] else [])++(vg env (zZ f.ty)++kh env (seen++[f.letter]) (fs.drop (q+1))):=by
 have hl:=(ak_.1 h).1;rw[bs_ hl,kh,(ak_.1 h).2]
def sP(h:fs[q]?=some f):(fs.take (q+1)).map PF.letter=(fs.take q).map PF.letter++[f.letter]:=by
 rw[a8_,h];simp
def BZ(w0:Aw)(bS:Nat)(env:Au)(fs:An)(m:Nat)(v:Ax)(W:Aw):Prop:=
 ∃q:Nat,v=I_ q/\q<=fs.length/\fs.length+1-q<=m/\Fr w0 W (λg=>g=bS)/\vi W bS ((fs.take q).map PF.letter)/\kh env [] fs=kh env ((fs.take q).map PF.letter) (fs.drop q)
def cwuX1_{p:Prop}(h:p:=by
 (first|(have:=cc1;have hd1:=zy (show(!decide (c∈seen))=false by rw[decide_eq_true hdup];rfl))|(have hd1:=zy (show(!decide (l∈seen))=false by rw[decide_eq_true hdup];rfl)));rw[i_ hdup]at he;replace he:=zy he;go_wp2_with (go_at_call 168;apply hCa.o.mono;rintro e w2 ⟨rfl,hf2,hS2⟩;rw[hd1.o];have n0:=(hf2.bl N1.o M_).c0;have e0:=E1.o.fr hf2 hgE';replace hf2:=zy hf2;replace e0:_=_:=e0;clear hS2);(first|(have:=cc1;refine tr_ 7 (λW=>z_ W wr.heap.size 0 (I_ pl)/\z_ W 1 0 (.iface et ex)) ?_)|(refine tr_ 8 (λW=>z_ W wr.heap.size 0 (I_ pl)/\z_ W 1 0 (.iface et ex)) ?_));refine tz_ 0 ?_;refine tz_ 1 ?_;(first|(have:=cc1;refine tz_ 3 ?_)|(refine tz_ 2 ?_));(first|(have:=cc1;refine zh 2 rfl K_ (λ_=>⟨n0,e0⟩) (λK hK=>?_))|(refine tz_ 4 ?_;refine zh 3 rfl K_ (λ_=>⟨n0,e0⟩) (λK hK=>?_)));go_simp;apply(xp (pl:Int) _).mono;rintro e w' ⟨rfl,rfl⟩;refine hK _ _ ?_;clear hK K;(first|(have:=cc1;refine tz_ 4 ?_)|(refine tz_ 5 ?_));(first|(have:=cc1;refine t1_ 5 ⟨n0,e0⟩ ?_)|(refine t1_ 6 ⟨n0,e0⟩ ?_));have hAL:∀{a:Addr} {x:Value},w2.cell? a=some x->(w2.drew.alloc (.cells #[I_ pl,.iface et ex] 186)).cell? a=some x:=@λa x h=>(World.cell?_alloc_lt (w2.drew) _ a (by exact World.block_lt_of_cell? w2 a h)).trans h;(try have:=cc1;refine t1_ 6 ⟨hAL n0,hAL e0⟩ ?_);refine t1_ 7 ⟨hAL n0,hAL e0⟩ ?_;(first|(have:=cc1)|(refine t1_ 8 ⟨hAL n0,hAL e0⟩ ?_));refine td_ ?_ _;go_wp2;try go_ret
 rw[Q_.o];have hF2:=hFw.o.trans hf2.o (λy hy e=>M_);have hs2:=hF2.size;refine⟨_,rfl,(hF2.alloc _).drew,?_⟩;rw[he.o];exact⟨w2.heap.size,hs2,rfl,(B_ w2 _ _).drew⟩):p:=h
def uX{fv:Ax}{ys:Ay}(D:yR w P s ds sv xs)(F:xh w P s fs fv ys)(N:vN 1 w et ex)(hl:fs.length<=300)(b7:∀f∈fs,zl f.letter=true)(b4:∀f∈fs,xS f.ty)(I:∀g,P g->g<w.heap.size):Calls prog 114 #[.agg #[sv,rv],.agg #[Z_ p,fv]] w (yD w (.iface et ex) (kh (zx ds) [] fs)):=by
 refine hq_ λb8 Q_=>?_;obtain⟨C,E,rfl⟩:=zw D.row;obtain⟨fa,fc,rfl⟩:=zw F.row;have b5:=World.block_lt_of_cell? w ⟨1,0,none⟩ N;obtain⟨G,B⟩:=e_ ((w.alloc (.cells #[.slice C ds.length E,rv] 48)).alloc (.cells #[Z_ p,.slice fa fs.length fc] 231));have Z:G.heap.size=w.heap.size+2:=by rw[B];simp
 have a3:Fr w G N_:=by rw[B];exact((A_ w _).alloc _).alloc _
 have a2:Blk G w.heap.size [.slice C ds.length E,rv] 48:=by rw[B];exact(B_ w #[.slice C ds.length E,rv] 48).alloc _
 obtain⟨w0,i⟩:=e_ (G.alloc (.cells lH 315));have n:Fr w w0 N_:=by rw[i];exact a3.alloc _
 have O:Blk w0 w.heap.size [.slice C ds.length E,rv] 48:=by rw[i];exact a2.alloc _
 have a1:vi w0 (w.heap.size+2) []:=by rw[i,<- Z];exact eA G
 have G:w0.heap.size=w.heap.size+3:=by rw[i];simp[Z]
 have D0:=zy (D.fr n u_);have F0:=zy (F.fr n u_);have a8:=zy (N.fr n id);have start:H_ (BZ w0 (w.heap.size+2) (zx ds) fs (fs.length+1) (O_) w0):=zy ⟨0,rfl,am_ _,M_,A_ _ _,a1,rfl⟩;replace O:=zy O;replace n:=zy n;have hgE':1≠w.heap.size+2:=M_;have I:=zy I;go_in;go_wp2;rw[tR,<- B,<- i];go_loopg [12] (fs.length+1) (λm v W=>BZ w0 (w.heap.size+2) (zx ds) fs m v W);case atStart=>exact start
 case round=>
  obtain⟨q,rfl,i,hm,hf,A,he⟩:=hrel;have i:=hf.size;have hS:=hf.bl O M_;by_cases V:q<fs.length
  .have b6:(q:Int)<(fs.length:Int):=M_;have hd:fs[q]?=some fs[q]:=aj_ V;have X:fs[q]∈fs:=bi_ V;generalize fs[q]=f at hd X;have S:=b7 f X;obtain⟨g,cap,i⟩:=zg F0.o.row M_;cases i;have Y:∀g,P g->¬g=w.heap.size+2:=λg hg=>by have:=I.o g hg;omega
   obtain⟨T,x,d,c0,c1,c2,c3,Q,a7⟩:=(F0.o.fr hf Y).cells hd;obtain⟨l,a4⟩:=x_ f.letter;obtain⟨pl,a5⟩:=x_ f.place;obtain⟨ty,a6⟩:=x_ f.ty;have J:=b4 f X;rw[JF hd]at he;have L:=sP hd;rw[a4]at S c1 he L;rw[a5]at c0 he;rw[a6]at Q he J;have i:=(A_ wr N_).alloc (.cells #[I_ pl,U_ l,.iface T x,.pointer d] 194);have N1:=B_ wr #[I_ pl,U_ l,.iface T x,.pointer d] 194;have B:(wr.alloc (.cells #[I_ pl,U_ l,.iface T x,.pointer d] 194)).heap.size=wr.heap.size+1:=x6_
   have hCa:=zy (ai (p:=(pl:Int)) (A.fr i id) S);have R:=Q.fr i u_;have M:=(D0.o.fr hf Y).fr i u_;have E1:=(a8.o.fr hf hgE').fr i id;have H:=i.bl hS id;have hFw:=zy ((n.o.trans hf (λy hy e=>M_)).trans i u_);have a9:=zy (hf.trans i v_);replace R:=zy R;replace M:=zy M;replace E1:=zy E1;replace H:=zy H;replace N1:=zy N1;replace B:=zy B;replace J:=zy J;obtain⟨seen,A⟩:=x_ ((fs.take q).map PF.letter);rw[A]at he L hCa;by_cases hdup:l∈seen
   .exact cwuX1_
   .have hd1:=zy (show(!decide (l∈seen))=true by rw[decide_eq_false hdup];rfl);rw[n_ hdup,bq_]at he;have A:∀g,P g->¬g=w.heap.size+2:=λg hg=>by have:=I.o g hg;omega
    have a0:H_ (∀w2,Fr (wr.alloc (.cells #[I_ pl,U_ l,.iface T x,.pointer d] 194)) w2 (λg=>g=w.heap.size+2)->Calls prog 74 #[.agg #[.slice C ds.length E,rv],.iface T x] w2 (yD w2 (.iface et ex) (vg (zx ds) (zZ ty)))):=zy (λw2 i=>Xe _ ty l_ J w2 P s ds _ rv _ xs et ex (M.o.fr i A) (R.o.fr i A) (E1.o.fr i hgE'));cases hu:vg (zx ds) (zZ ty) with
    |nil=>
     rw[hu,bq_]at he;replace he:=zy he;replace hu:=zy hu;go_wp2_with (first
      |(go_at_call 168;apply hCa.o.mono;rintro e w2 ⟨rfl,hf2,hS2⟩;rw[hd1.o];have z:=hf2.bl N1 M_;have k:=hf2.bl H M_;have n2:=z.c2;have s0:=k.c0;have s1:=k.c1;replace hf2:=zy hf2;replace hS2:=zy hS2)
      |(go_at_call 74;apply(a0.o w2 hf2).mono;rintro e w3 ⟨v3,rfl,j,u⟩;rw[hu.o]at u;replace u:v3=.nilIface:=u;subst u;replace j:=zy j))
     go_roundg (fs.length+1-(q+1));case measure=>omega
     case rel=>exact⟨q+1,rfl,V,l_,(a9.o.trans hf2 u_).trans j v_,by rw[L];exact hS2.o.fr j id,by rw[L];exact he⟩
    |cons y r=>
     rw[hu,bk_]at he;replace he:=zy he;replace hu:=zy hu;go_wp2_with (first
      |(go_at_call 168;apply hCa.o.mono;rintro e w2 ⟨rfl,hf2,hS2⟩;rw[hd1.o];have z:=hf2.bl N1 M_;have k:=hf2.bl H M_;have n2:=z.c2;have s0:=k.c0;have s1:=k.c1;replace hf2:=zy hf2;replace hS2:=zy hS2)
      |(go_at_call 74;apply(a0.o w2 hf2).mono;rintro e w3 ⟨v3,rfl,j,u⟩;rw[hu.o]at u;obtain⟨g3,i,rfl,U⟩:=u;replace j:=zy j;replace U:=zy U))
     try go_ret
     rw[Q_.o];have hF2:=hFw.o.trans hf2 (λy hy e=>M_);have hs2:=hF2.size;refine⟨_,rfl,hF2.trans j u_,?_⟩;rw[he.o];exact⟨g3,M_,rfl,U⟩
  .have b6:¬((q:Int)<(fs.length:Int)):=M_;rw[b0_ M_,kh]at he;replace he:=zy he;replace hf:=zy hf;go_wp2;try go_ret
   rw[Q_.o];refine⟨.nilIface,rfl,n.o.trans hf (λy hy e=>M_),?_⟩;rw[he.o]
def xB:∀{q:Nat}{c p:Nat},l[q]?=some (c,p)->(zE l)[q*2]?=some (I_ p)/\(zE l)[q*2+1]?=some (U_ c):=by
 induction l with
 |nil=>intro q c p h;simp at h
 |cons x r ih=>
  intro q c p h;have hc:zE (x::r)=I_ x.2 :: U_ x.1::zE r:=by simp[zE]
  rw[hc];cases q with
  |zero=>
   simp only[aa_,af_]at h;subst h;exact⟨rfl,rfl⟩
  |succ q=>
   rw[ab_]at h;have:=ih h;rw[show(q+1)*2=q*2+1+1 by omega];exact this
def JM{p:Nat}(h:l[q]?=some (c,p))(seen:Ao):qg seen (l.drop q)=(if c∈seen then [p] else [])++qg (seen++[c]) (l.drop (q+1)):=by
 have hl:=(ak_.1 h).1;rw[bs_ hl,qg,(ak_.1 h).2]
def eL{p:Nat}(h:l[q]?=some (c,p)):(l.take (q+1)).map Prod.fst=(l.take q).map Prod.fst++[c]:=by
 rw[a8_,h];simp
def Bo(w0:Aw)(bS:Nat)(l:As)(m:Nat)(v:Ax)(W:Aw):Prop:=
 ∃q:Nat,v=I_ q/\q<=l.length/\l.length+1-q<=m/\Fr w0 W (λg=>g=bS)/\vi W bS ((l.take q).map Prod.fst)/\qg [] l=qg ((l.take q).map Prod.fst) (l.drop q)
def pE{u:Ax}{o:Ac}(ho:w.ownsRow 0 191 2 sv l.length (zE l))(O:∀g,sv.ownBlock=some g->P g)(k:qb w P o u)(J:vN 1 w et ex)(hl:l.length<=300)(a1:∀q∈l,zl q.1=true)(a2:∀c p,o=some (c,p)->zl c=true)(D:∀g,P g->g<w.heap.size):Calls prog 115 #[.agg #[Z_ p,sv,u]] w (yD w (.iface et ex) (qg [] l++pC l o)):=by
 refine hq_ λa3 Q_=>?_;obtain⟨G,H,rfl⟩:=zw ho;obtain⟨d,rfl⟩:∃d,u=.pointer d:=by
  unfold qb at k;split at k
  .exact⟨_,k⟩
  .obtain⟨g',_,e,_⟩:=k;exact⟨_,e⟩
 have Z:1<w.heap.size:=World.block_lt_of_cell? w ⟨1,0,none⟩ J;obtain⟨C,B⟩:=e_ (w.alloc (.cells #[Z_ p,.slice G l.length H,.pointer d] 236));have Q:C.heap.size=w.heap.size+1:=by rw[B];simp
 have V:Fr w C N_:=by rw[B];exact(A_ w _).alloc _
 have U:Blk C w.heap.size [Z_ p,.slice G l.length H,.pointer d] 236:=by rw[B];exact B_ w #[Z_ p,.slice G l.length H,.pointer d] 236
 obtain⟨w0,n⟩:=e_ (C.alloc (.cells lH 315));have j:Fr w w0 N_:=by rw[n];exact V.alloc _
 have L:Blk w0 w.heap.size [Z_ p,.slice G l.length H,.pointer d] 236:=by rw[n];exact U.alloc _
 have T:vi w0 (w.heap.size+1) []:=by rw[n,<- Q];exact eA C
 have C:w0.heap.size=w.heap.size+2:=by rw[n];simp[Q]
 have X:=zy (zj ho j u_);have Y:=zy (k.fr j u_);have S:=zy (J.fr j id);have start:H_ (Bo w0 (w.heap.size+1) l (l.length+1) (O_) w0):=zy ⟨0,rfl,am_ _,M_,A_ _ _,T,rfl⟩;replace L:=zy L;replace j:=zy j;have hgE':1≠w.heap.size+1:=M_;replace D:=zy D;replace O:=zy O;go_in;go_wp2;rw[tR,<- B,<- n];go_loopg [9] (l.length+1) (λm v W=>Bo w0 (w.heap.size+1) l m v W);case atStart=>exact start
 case round=>
  obtain⟨q,rfl,k,hm,hf,i,he⟩:=hrel;have k:=hf.size;have A:=hf.bl L M_;by_cases N:q<l.length
  .have a0:(q:Int)<(l.length:Int):=M_;have hd:l[q]?=some l[q]:=aj_ N;have I:l[q]∈l:=bi_ N;generalize l[q]=f at hd I;obtain⟨c,pl⟩:=f;have F:zl c=true:=a1 _ I;obtain⟨g,cap,k⟩:=zg X M_;cases k;have R:¬g=w.heap.size+1:=by have:=D.o g (O.o g rfl);omega
   have z:=zj X hf (λg' e=>by simp only[Value.ownBlock,af_]at e;subst e;exact R);have c0:=zr z rfl (xB hd).1;have c1:=zr z rfl (xB hd).2;rw[JM hd]at he;have E:=eL hd;have k:=(A_ wr N_).alloc (.cells #[I_ pl,U_ c] 191);have N1:=B_ wr #[I_ pl,U_ c] 191;have hCa:=zy (ai (p:=(pl:Int)) (i.fr k id) F);have E1:=(S.o.fr hf hgE').fr k id;have hFw:=zy ((j.o.trans hf (λy hy e=>M_)).trans k u_);have M:=zy (hf.trans k v_);replace E1:=zy E1;replace N1:=zy N1;obtain⟨seen,i⟩:=x_ ((l.take q).map Prod.fst);rw[i]at he E hCa;by_cases hdup:c∈seen
   .have cc1:=Nat;exact cwuX1_
   .have hd1:=zy (show(!decide (c∈seen))=true by rw[decide_eq_false hdup];rfl);rw[n_ hdup,bq_]at he;replace he:=zy he;go_wp2_with (go_at_call 168;apply hCa.o.mono;rintro e w2 ⟨rfl,hf2,hS2⟩;rw[hd1.o];replace hf2:=zy hf2;replace hS2:=zy hS2);go_roundg (l.length+1-(q+1));case measure=>omega
    case rel=>exact⟨q+1,rfl,N,l_,M.o.trans hf2 u_,by rw[E];exact hS2,by rw[E];exact he⟩
  .have a0:¬((q:Int)<(l.length:Int)):=M_;have k:q=l.length:=M_;rw[b0_ M_,qg]at he;rw[k,List.take_length]at i;have c2:=A.c2;have M:=Y.o.fr hf (λg hg e=>o1_ (D.o g hg));have I:=S.o.fr hf hgE';have hFw:=zy (j.o.trans hf (λy hy e=>M_));replace i:=zy i;replace A:=zy A;replace I:=zy I;cases o with
   |none=>
    have hn:d=none:=by
     have:Value.pointer d=.pointer none:=M;cases this;rfl
    subst hn;have z:=zy (show qg [] l++pC l none=[] by rw[he];rfl);go_wp2;try go_ret
    rw[Q_.o];refine⟨.nilIface,rfl,hFw,?_⟩;rw[z.o]
   |some r=>
    obtain⟨c,pl⟩:=r;obtain⟨g,hg,j,hB⟩:∃g,P g/\Value.pointer d=P_ g/\Blk wr g [I_ pl,U_ c] 191:=M;cases j;have b0:=hB.c0;have b1:=hB.c1;have R:=zy (am (p:=(pl:Int)) i (a2 c pl rfl));replace hB:=zy hB;by_cases E:c∈l.map Prod.fst
    .have hd1:=zy (show decide (c∈l.map Prod.fst)=true from decide_eq_true E);have z:=zy (show qg [] l++pC l (some (c,pl))=[] by rw[he];simp only[pC];rw[i_ E];rfl);go_wp2_with (go_at_call 169;apply R.o.mono;rintro e w2 ⟨rfl,hf2⟩;rw[hd1.o];replace hf2:=zy hf2);try go_ret
     rw[Q_.o];refine⟨.nilIface,rfl,hFw.o.trans hf2 u_,?_⟩;rw[z.o]
    .have hd1:=zy (show decide (c∈l.map Prod.fst)=false from decide_eq_false E);have z:=zy (show qg [] l++pC l (some (c,pl))=[pl] by rw[he];simp only[pC];rw[n_ E];rfl);go_wp2_with (go_at_call 169;apply R.o.mono;rintro e w2 ⟨rfl,hf2⟩;rw[hd1.o];have n0:=(hf2.bl hB id).c0;have F:=(hf2.bl A id).c2;have e0:=I.o.fr hf2 id;replace hf2:=zy hf2;replace e0:_=_:=e0);refine tr_ 10 (λW=>z_ W w.heap.size 2 (P_ g)/\z_ W g 0 (I_ pl)/\z_ W 1 0 (.iface et ex)) ?_;refine tz_ 0 ?_;refine tz_ 1 ?_;refine tz_ 2 ?_;refine tz_ 3 ?_;refine tz_ 4 ?_;refine tz_ 6 ?_;refine zh 5 rfl K_ (λ_=>⟨F,n0,e0⟩) (λK hK=>?_);go_simp;apply(xp (pl:Int) _).mono;rintro e w' ⟨rfl,rfl⟩;refine hK _ _ ?_;refine tz_ 7 ?_;refine t1_ 8 ⟨F,n0,e0⟩ ?_;have hAL:∀{a:Addr} {x:Value},w2.cell? a=some x->(w2.drew.alloc (.cells #[I_ pl,.iface et ex] 186)).cell? a=some x:=@λa x h=>(World.cell?_alloc_lt (w2.drew) _ a (by exact World.block_lt_of_cell? w2 a h)).trans h;refine t1_ 9 ⟨hAL F,hAL n0,hAL e0⟩ ?_;refine t1_ 10 ⟨hAL F,hAL n0,hAL e0⟩ ?_;refine td_ ?_ _;go_wp2;try go_ret
     rw[Q_.o];have hF2:=hFw.o.trans hf2 (λy hy e=>e);have hs2:=hF2.size;refine⟨_,rfl,(hF2.alloc _).drew,?_⟩;rw[z.o];exact⟨w2.heap.size,hs2,rfl,(B_ w2 _ _).drew⟩
def plB:PB->Prop
 | .recd fs=>fs.length<=300/\(∀f∈fs,zl f.letter=true)/\∀f∈fs,xS f.ty
 | .enum l o=>l.length<=300/\(∀q∈l,zl q.1=true)/\∀c p,o=some (c,p)->zl c=true
 | .bytes _=>True
def lX{b:PB}(D:yR w P s ds sv xs)(hb:yV w P s b v)(y:vN 1 w et ex)(j:plB b)(A:∀g,P g->g<w.heap.size):Calls prog 73 #[.agg #[sv,rv],v] w (yD w (.iface et ex) (qc (zx ds) b)):=by
 refine hq_ λM E=>?_;obtain⟨J,K,rfl⟩:=zw D.row;cases hb with
 |recd p ho hP h hp=>
  rename_i fs fv ys;obtain⟨F,G,rfl⟩:=zw ho;have a:Fr w ((w.alloc (.cells #[.slice J ds.length K,rv] 48)).alloc (.cells #[I_ p,.slice F fs.length G] 231)) N_:=((A_ w _).alloc _).alloc _;have B:=a.size;have H:=zy (uX (rv:=rv) (p:=(p:Int)) (D.fr a u_) ((⟨ho,hP,h⟩:xh w P s fs _ _).fr a u_) (y.fr a id) j.1 j.2.1 j.2.2 (λg hg=>bl_ (A g hg) B));replace a:=zy a;go_in;go_wp2_with (go_at_call 114;apply H.o.mono;rintro e L ⟨I,rfl,k,hm⟩;replace k:=zy k;replace hm:=zy hm);try go_ret
  rw[E.o];refine⟨I,rfl,a.o.trans k u_,?_⟩;have i:=hm.o;rw[qc];cases z:kh (zx ds) [] fs with
  |nil=>rw[z]at i;exact i
  |cons x r=>rw[z]at i;exact i.ls B
 |enum p ho hP hu hp=>
  rename_i l o lv u;obtain⟨F,G,rfl⟩:=zw ho;obtain⟨d,rfl⟩:∃d,u=.pointer d:=by
   have C:=hu;unfold qb at C;split at C
   .exact⟨_,C⟩
   .obtain⟨g',_,e,_⟩:=C;exact⟨_,e⟩
  have a:Fr w ((w.alloc (.cells #[.slice J ds.length K,rv] 48)).alloc (.cells #[I_ p,.slice F l.length G,.pointer d] 236)) N_:=((A_ w _).alloc _).alloc _;have B:=a.size;have H:=zy (pE (p:=(p:Int)) (zj ho a u_) hP (hu.fr a u_) (y.fr a id) j.1 j.2.1 j.2.2 (λg hg=>bl_ (A g hg) B));replace a:=zy a;go_in;go_wp2_with (go_at_call 115;apply H.o.mono;rintro e L ⟨I,rfl,k,hm⟩;replace k:=zy k;replace hm:=zy hm);try go_ret
  rw[E.o];refine⟨I,rfl,a.o.trans k u_,?_⟩;have i:=hm.o;rw[qc];cases z:qg [] l++pC l o with
  |nil=>rw[z]at i;exact i
  |cons x r=>rw[z]at i;exact i.ls B
 |bytes p n hp=>
  go_in;go_wp2;try go_ret
  rw[E.o];exact⟨.nilIface,rfl,(A_ w _).alloc _,rfl⟩
def yR.pre(h:yR w P s ds (S_ g m cap) xs)(r:q<=ds.length):yR w P s (ds.take q) (S_ g q cap) (xs.take (q*3)):=by
 have a:(ds.take q).length=q:=by rw[b9_];omega
 refine⟨?_,λg' e=>h.off g' e,λi d e=>?_,by rw[a];have:=h.len;omega⟩
 .rw[a];obtain⟨h1,r⟩:=h.row;refine⟨by rw[b9_,h1];omega,.inr ?_⟩;rcases r with⟨e,_⟩|⟨g',r,r,e,j,k,o,n,u,y⟩
  .cases e
  .cases e;refine⟨g,cap,r,rfl,j,k,M_,n,u,?_⟩;rw[<- y,List.take_take]
   congr 1
   omega
 .have hi:=(ak_.1 e).1;rw[a]at hi;rw[cb_,i_ hi]at e;obtain⟨c,j,k,o,n⟩:=h.V i d e;exact⟨c,by rw[cb_,i_ M_];exact j,by rw[cb_,i_ M_];exact k,by rw[cb_,i_ M_];exact o,n⟩
def JN{env:Au}{d:PD}(h:ds[q]?=some d)(seen:Ao):ke env seen (ds.drop q)=(if d.letter∈seen then [d.place] else [])++(qc env d.body++ke env (seen++[d.letter]) (ds.drop (q+1))):=by
 have hl:=(ak_.1 h).1;rw[bs_ hl,ke,(ak_.1 h).2]
def VY{d:PD}(h:ds[q]?=some d):(ds.take (q+1)).map PD.letter=(ds.take q).map PD.letter++[d.letter]:=by
 rw[a8_,h];simp
def rm:zx ds c=none↔c∉ds.map PD.letter:=by
 unfold zx;rw[<- uR 0 c ds];cases vh 0 c ds<;>simp
def ce(D:yR w P s ds sv xs)(hT:TyV w P t rv)(hE:vN 1 w et ex)(b9:∀d∈ds,plB d.body)(b7:xS t)(a4:∀g,P g->g<w.heap.size):Calls prog 41 #[.agg #[sv,rv]] w (yD w (.iface et ex) (xL ds t)):=by
 refine hq_ λd2 Q_=>?_;obtain⟨Y,n,rfl⟩:=zw D.row;obtain⟨rT,rx,rfl⟩:=hT.iface;have d6:=D.len;obtain⟨w0,hw0⟩:=e_ (w.alloc (.cells #[.slice Y ds.length n,.iface rT rx] 48));have z:Fr w w0 N_:=yh_
 have A:Blk w0 w.heap.size [.slice Y ds.length n,.iface rT rx] 48:=by rw[hw0];exact B_ w #[.slice Y ds.length n,.iface rT rx] 48
 have N:=zy (D.fr z u_);have b6:=zy (hT.fr z u_);have a3:=zy (hE.fr z id);have b5:=zy (λg (hg:P g)=>bl_ (a4 g hg) z.size);have start:H_ (∃q:Nat,Value.int .i64 0=I_ q/\q<=ds.length/\ds.length+1-q<=ds.length+1/\Fr w0 w0 N_/\ke (zx ds) [] ds=ke (zx ds) ((ds.take q).map PD.letter) (ds.drop q)):=zy ⟨0,rfl,am_ _,M_,A_ _ _,rfl⟩;replace A:=zy A;replace z:=zy z;go_in;go_wp2;rw[<- hw0];go_loopg [3,10] (ds.length+1) (λm u v W=>∃q:Nat,v=I_ q/\q<=ds.length/\ds.length+1-q<=m/\Fr w0 W N_/\ke (zx ds) [] ds=ke (zx ds) ((ds.take q).map PD.letter) (ds.drop q));case atStart=>exact start
 case round=>
  obtain⟨q,rfl,hq,hm,hf,he⟩:=hrel;have d7:=hf.size;have G:=hf.bl A id;have A:w.heap.size<wr.heap.size:=G.lt;have A:=G.c0;have A:=G.c1;by_cases a1:q<ds.length
  .have b8:(q:Int)<(ds.length:Int):=M_;have hd:ds[q]?=some ds[q]:=aj_ a1;have a7:ds[q]∈ds:=bi_ a1;generalize ds[q]=d at hd a7;obtain⟨g,cap,A⟩:=zg N.o.row M_;cases A;have O:=N.o.fr hf u_;obtain⟨T,x,c0,c1,c2,hb⟩:=O.cells hd;have A:q<=n:=by
    obtain⟨_,F⟩:=N.o.row;rcases F with⟨e,_⟩|⟨g',A,A,e,A,A,A,A,A,A⟩
    .cases e
    .cases e;omega
   have A:(q:Int)<=(n:Int):=M_;have V:=b9 d a7;rw[JN hd]at he;have X:=VY hd;obtain⟨l,a6⟩:=x_ d.letter;obtain⟨pl,a9⟩:=x_ d.place;obtain⟨b,a5⟩:=x_ d.body;rw[a6]at c1 he X;rw[a9]at c0 he;rw[a5]at hb he V;have A:=((A_ wr N_).alloc (.cells #[I_ pl,U_ l,.iface T x] 178)).alloc (.cells #[S_ g q n,.nilIface] 48);have I:=(B_ wr #[I_ pl,U_ l,.iface T x] 178).alloc (.cells #[S_ g q n,.nilIface] 48);have J:=zy (jp (rv:=.nilIface) l ((O.pre hq).fr A u_));have D1:=O.fr A u_;have Z:=hb.fr A u_;have Q:=(a3.o.fr hf id).fr A id;have R:=A.bl G id;have U:=zy (hf.trans A u_);replace D1:=zy D1;replace Z:=zy Z;replace Q:=zy Q;replace R:=zy R;replace I:=zy I;replace V:=zy V;by_cases S:l∈(ds.take q).map PD.letter
   .rw[i_ S]at he;have M:=zy (show xL ds t=pl::(qc (zx ds) b++ke (zx ds) ((ds.take q).map PD.letter++[l]) (ds.drop (q+1))++vg (zx ds) (zZ t)) by unfold xL;rw[he];rfl);obtain⟨A,E⟩:∃A,zx (ds.take q) l=some A:=by
     cases h:zx (ds.take q) l with
     |none=>exact absurd S (rm.1 h)
     |some A=>exact⟨A,rfl⟩
    replace E:=zy E;go_wp2_with (go_at_call 71;apply J.o.mono;rintro e k ⟨H,rfl,i,j⟩;rw[E.o]at j;obtain⟨A,bx,rfl⟩:=j.iface;have C:=(i.bl I id).c0;have B:=Q.o.fr i id;replace i:=zy i;replace B:_=_:=B);refine tr_ 7 (λW=>z_ W wr.heap.size 0 (I_ pl)/\z_ W 1 0 (.iface et ex)) ?_;refine tz_ 0 ?_;refine tz_ 1 ?_;refine tz_ 3 ?_;refine zh 2 rfl K_ (λ_=>⟨C,B⟩) (λK hK=>?_);go_simp;apply(xp (pl:Int) _).mono;rintro e w' ⟨rfl,rfl⟩;refine hK _ _ ?_;refine tz_ 4 ?_;refine t1_ 5 ⟨C,B⟩ ?_;have A:∀{a:Addr} {x:Value},k.cell? a=some x->(k.drew.alloc (.cells #[I_ pl,.iface et ex] 186)).cell? a=some x:=@λa x h=>(World.cell?_alloc_lt (k.drew) _ a (by exact World.block_lt_of_cell? k a h)).trans h;refine t1_ 6 ⟨A C,A B⟩ ?_;refine t1_ 7 ⟨A C,A B⟩ ?_;refine td_ ?_ _;go_wp2;try go_ret
    rw[Q_.o];have L:=(z.o.trans U u_).trans i u_;have b4:=L.size;refine⟨_,rfl,(L.alloc _).drew,?_⟩;rw[M.o];exact⟨k.heap.size,b4,rfl,(B_ k _ _).drew⟩
   .rw[n_ S,bq_]at he;have a8:=zy (rm.2 S);have a2:H_ (∀k,Fr ((wr.alloc (.cells #[I_ pl,U_ l,.iface T x] 178)).alloc (.cells #[S_ g q n,.nilIface] 48)) k N_->Calls prog 73 #[.agg #[S_ g ds.length n,.iface rT rx],.iface T x] k (yD k (.iface et ex) (qc (zx ds) b))):=zy (λk F=>lX (D1.o.fr F u_) (Z.o.fr F u_) (Q.o.fr F id) V (λg hg=>bl_ (b5.o g hg) (al_ U.o.size F.size)));cases hu:qc (zx ds) b with
    |nil=>
     rw[hu,bq_]at he;replace he:=zy he;replace hu:=zy hu;go_wp2_with (first
      |(go_at_call 71;apply J.o.mono;rintro e k ⟨H,rfl,i,j⟩;rw[a8.o]at j;replace j:H=.nilIface:=j;subst j;have n2:=(i.bl I id).c2;have B:=i.bl R id;have z0:=B.c0;have z1:=B.c1;replace i:=zy i)
      |(go_at_call 73;apply(a2.o k i).mono;rintro e w3 ⟨v3,rfl,C,E⟩;rw[hu.o]at E;replace E:v3=.nilIface:=E;subst E;replace C:=zy C))
     go_roundg (ds.length+1-(q+1));case measure=>omega
     case rel=>exact⟨q+1,rfl,a1,l_,(U.o.trans i u_).trans C u_,by rw[X];exact he⟩
    |cons y r=>
     rw[hu,bk_]at he;have M:=zy (show xL ds t=y::(r++ke (zx ds) ((ds.take q).map PD.letter++[l]) (ds.drop (q+1))++vg (zx ds) (zZ t)) by unfold xL;rw[he];rfl);replace hu:=zy hu;go_wp2_with (first
      |(go_at_call 71;apply J.o.mono;rintro e k ⟨H,rfl,i,j⟩;rw[a8.o]at j;replace j:H=.nilIface:=j;subst j;have n2:=(i.bl I id).c2;have B:=i.bl R id;have z0:=B.c0;have z1:=B.c1;replace i:=zy i)
      |(go_at_call 73;apply(a2.o k i).mono;rintro e w3 ⟨v3,rfl,C,E⟩;rw[hu.o]at E;obtain⟨g3,A,rfl,a0⟩:=E;replace C:=zy C;replace a0:=zy a0))
     try go_ret
     rw[Q_.o];have L:=(z.o.trans U u_).trans i u_;have b4:=L.size;refine⟨_,rfl,L.trans C u_,?_⟩;rw[M.o];exact⟨g3,M_,rfl,a0⟩
  .have b8:¬((q:Int)<(ds.length:Int)):=M_;rw[b0_ M_,ke]at he;have M:=zy (show xL ds t=vg (zx ds) (zZ t) by unfold xL;rw[he];rfl);have J:=zy (Xe _ t l_ b7 wr P s ds (.slice Y ds.length n) (.iface rT rx) (.iface rT rx) xs et ex (N.o.fr hf u_) (b6.o.fr hf u_) (a3.o.fr hf id));replace hf:=zy hf;go_wp2_with (go_at_call 74;apply J.o.mono;rintro e k ⟨H,rfl,i,j⟩;replace i:=zy i;replace j:=zy j);try go_ret
   rw[Q_.o];have B:=z.o.trans hf u_;have hs:=B.size;refine⟨H,rfl,B.trans i u_,?_⟩;rw[M.o];have i:=j.o;cases hu:vg (zx ds) (zZ t) with
   |nil=>rw[hu]at i;exact i
   |cons y r=>rw[hu]at i;exact i.ls hs
def sp:PT->Prop
 | .wrap c _ _=>c=91\/c=123
 | _=>True
def sS(h:TyV w P t v)(hw:sp t):Calls prog 116 #[v] w λe w'=>e=.returned (.bool (decide (t.kind=40)))/\Fr w w' N_:=by
 cases h with
 |base c p hc=>
  have hk:decide ((PT.leaf c p).kind=40)=false:=by
   simp only[zi,ay_,beq_iff_eq]at hc;exact decide_eq_false (by simp only[PT.kind];omega)
  rw[hk];obtain⟨u,hu⟩:=e_ (vL c);rw[<- hu];have hn:=je c;rw[<- hu]at hn;have a:=vQ u hn.2.2.1;clear hu hn hk;go_in;go_wp2;try go_ret
  exact⟨rfl,(A_ w _).alloc _⟩
 |name c p hc=>
  have hk:decide ((PT.leaf c p).kind=40)=false:=by
   simp only[zY,a3_,decide_eq_true_eq]at hc;exact decide_eq_false (by simp only[PT.kind];omega)
  rw[hk];have a:=vQ 229 D_;clear hk;go_in;go_wp2;try go_ret
  exact⟨rfl,(A_ w _).alloc _⟩
 |wrap c p h=>
  rename_i d k;have hk:decide ((PT.wrap c p d).kind=40)=false:=by
   refine decide_eq_false ?_;show ¬(c=40);rcases hw with h|h<;>omega
  rw[hk];obtain⟨u,hu,hn⟩:∃u,u=qX c/\u≠226:=⟨qX c,rfl,by unfold qX;split<;>decide⟩;rw[<- hu];have a:=vQ u hn;clear hu hn hk;go_in;go_wp2;try go_ret
  exact⟨rfl,(A_ w _).alloc _⟩
 |alts p X ho hP h=>
  rename_i l sv;have a:=gK;have hk:decide ((PT.alts p l).kind=40)=true:=rfl;rw[hk];obtain⟨i,j,rfl⟩:=zw ho;clear ho hP h hk;go_in;go_wp2;try go_ret
  exact⟨rfl,(A_ w _).alloc _⟩
def mX(h:TyV w P t v)(hw:sp t)(a:t.kind≠40):Calls prog 118 #[v] w λe w'=>e=.returned (U_ t.kind)/\Fr w w' N_:=by
 cases h with
 |base c p hc=>
  simp only[zi,ay_,beq_iff_eq]at hc;simp only[PT.kind];rcases hc with(((rfl|rfl)|rfl)|rfl)|rfl
  .rw[show vL 110=215 from rfl];go_in;go_wp2;try go_ret
   exact⟨rfl,(A_ w _).alloc _⟩
  .rw[show vL 116=217 from rfl];go_in;go_wp2;try go_ret
   exact⟨rfl,(A_ w _).alloc _⟩
  .rw[show vL 105=218 from rfl];go_in;go_wp2;try go_ret
   exact⟨rfl,(A_ w _).alloc _⟩
  .rw[show vL 108=219 from rfl];go_in;go_wp2;try go_ret
   exact⟨rfl,(A_ w _).alloc _⟩
  .rw[show vL 115=220 from rfl];go_in;go_wp2;try go_ret
   exact⟨rfl,(A_ w _).alloc _⟩
 |name c p hc=>
  simp only[PT.kind];go_in;go_wp2;try go_ret
  exact⟨rfl,(A_ w _).alloc _⟩
 |wrap c p h=>
  obtain⟨d,d,rfl⟩:=h.iface;simp only[PT.kind];rcases hw with rfl|rfl
  .rw[show qX 91=222 from rfl];go_in;go_wp2;try go_ret
   exact⟨rfl,(A_ w _).alloc _⟩
  .rw[show qX 123=223 from rfl];go_in;go_wp2;try go_ret
   exact⟨rfl,(A_ w _).alloc _⟩
 |alts p X ho hP h=>exact absurd rfl a
def sI{l:Af}{X:Ai}{n k:Nat}{ys:Ay}(ho:w.ownsRow 0 46 1 sv n ys)(hn:n<=l.length)(E:∀g,sv.ownBlock=some g->P g)(hy:∀i t,i<n->l[i]?=some t->ys[i]?=some (X i)/\TyV w P t (X i))(I:∀t∈l,sp t)(F:∀t∈l.take n,t.kind≠40)(E:n<=300):Calls prog 117 #[sv,U_ k] w λe w'=>e=.returned (.bool (decide (k∈(l.take n).map PT.kind)))/\Fr w w' N_:=by
 refine hq_ λE A=>?_;obtain⟨E,E,rfl⟩:=zw ho;have start:H_ (∃q:Nat,Value.int .i64 0=I_ q/\q<=n/\n+1-q<=n+1/\Fr w w N_/\k∉(l.take q).map PT.kind):=zy ⟨0,rfl,am_ _,M_,A_ _ _,by simp⟩;replace ho:=zy ho;replace hy:=zy hy;go_in;go_wp2;go_loopg [9] (n+1) (λm v W=>∃q:Nat,v=I_ q/\q<=n/\n+1-q<=m/\Fr w W N_/\k∉(l.take q).map PT.kind);case atStart=>exact start
 case round=>
  obtain⟨q,rfl,E,hm,hf,he⟩:=hrel;by_cases y:q<n
  .have H:(q:Int)<(n:Int):=M_;have E:q<l.length:=M_;have hd:l[q]?=some l[q]:=aj_ E;have C:l[q]∈l:=bi_ E;have D:l[q]∈l.take n:=by
    rw[List.mem_iff_getElem?];exact⟨q,by rw[cb_,i_ y];exact hd⟩
   generalize l[q]=t at hd C D;obtain⟨g,cap,E⟩:=zg ho M_;cases E;obtain⟨z,r⟩:=hy.o q t y hd;obtain⟨T,x,e⟩:=r.iface;rw[e]at z r;have c0:=zr (zj ho hf u_) rfl z;have u:=zy (mX (r.fr hf u_) (I t C) (F t D));have d:(l.take (q+1)).map PT.kind=(l.take q).map PT.kind++[t.kind]:=by rw[a8_,hd];simp
   obtain⟨j,B⟩:=x_ t.kind;rw[B]at u d;replace hf:=zy hf;by_cases hk:j=k
   .subst hk;have G:H_ (j∈(l.take n).map PT.kind):=zy (by
     have:(l.take (q+1)).map PT.kind <+: (l.take n).map PT.kind:=(List.take_prefix_take_left M_).map PT.kind
     exact this.subset (by rw[d];simp))
    go_wp2_with (go_at_call 118;apply u.o.mono;rintro e J ⟨rfl,a⟩;replace a:=zy a);try go_ret
    rw[A.o];exact⟨by rw[decide_eq_true G.o];rfl,hf.o.trans a u_⟩
   .have r:((j:Int)==(k:Int))=false:=x1_
    have G:=zy (show k∉(l.take (q+1)).map PT.kind by rw[d,a4_,a2_];rintro(h|h);exact he h;exact hk h.symm);go_wp2_with (go_at_call 118;apply u.o.mono;rintro e J ⟨rfl,a⟩;replace a:=zy a);go_roundg (n+1-(q+1));case measure=>omega
    case rel=>exact⟨q+1,rfl,y,l_,hf.o.trans a u_,G⟩
  .have H:¬((q:Int)<(n:Int)):=M_;have a:q=n:=M_;rw[a]at he;replace he:=zy he;replace hf:=zy hf;go_wp2;try go_ret
   rw[A.o];exact⟨by rw[decide_eq_false he.o],hf⟩
end Go.Proofs.YtokgeopihcopeaaGreatDoor
