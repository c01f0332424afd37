import Derived.Test.YtjkiencmjggakaaGreatDoorW11
set_option maxHeartbeats 16000000
set_option maxRecDepth 100000
set_option linter.defProp false
set_option linter.unusedSimpArgs false
open Go.Proofs.Tryz
namespace Go.Proofs.YtjkiencmjggakaaGreatDoor
open Go.RowKit
variable {w:World}{P:Nat->Prop}{q b g m cap x c:Nat}{s:BA}{ds:List PD}{t:PT}{sv ex rv v:Value}{xs:List Value}{fs:List PF}{seen:List Nat}{p:Int}{et:TypeId}{l:List (Nat×Nat)}{f:PF}
def di{l:List PT}(h:l[q]?=some t):zY (l.drop q)=zZ t++zY (l.drop (q+1)):=by
 have hl:=(ae_.1 h).1;rw[ba_ hl,zY,(ae_.1 h).2]
def bE{l:List PT}{X:Nat->Value}(ho:w.ownsRow 0 53 1 (S_ g m cap) l.length ((List.range l.length).map X))(h:∀i t,l[i]?=some t->TyV w P t (X i))(a:l[q]?=some t):∃T x,w.cell? ⟨g,q,none⟩=some (.iface T x)/\TyV w P t (.iface T x):=by
 have d:=h q t a;obtain⟨T,x,e⟩:=d.iface;have hl:=(ae_.1 a).1;have hm:=mc ho;subst hm;refine⟨T,x,zr ho rfl ?_,e▸d⟩;rw[aq_,b9_ hl,bz_,e]
def Yh(p:Nat)(l:List PT)(a:l.length<=300)(z:∀t∈l,gD t):gD (.alts p l):=by
 intro w P s ds sv rv v xs et ex D hv B;refine hq_ λa A=>?_;obtain⟨X,k,ho,hP,hX,rfl⟩:∃X k,w.ownsRow 0 53 1 k l.length ((List.range l.length).map X)/\(∀g,k.ownBlock=some g->P g)/\(∀i t,l[i]?=some t->TyV w P t (X i))/\v=.iface 210 (.agg #[I_ p,k]):=by
  cases hv with
  |alts _ X ho hP h=>exact⟨X,_,ho,hP,h,rfl⟩
 obtain⟨j,n,rfl⟩:=zl D.row;obtain⟨ba,a,rfl⟩:=zl ho;obtain⟨w0,d⟩:=e_ ((w.alloc (.cells #[.slice j ds.length n,rv] 55)).alloc (.cells #[I_ p,.slice ba l.length a] 210));have a:Fr w w0 N_:=by rw[d];exact((A_ w _).alloc _).alloc _
 have u:Blk w0 w.heap.size [.slice j ds.length n,rv] 55:=by rw[d];exact(B_ w #[.slice j ds.length n,rv] 55).alloc _
 have F:=zy (D.fr a u_);have H:=zy (B.fr a id);have E:=zy (zj ho a u_);have I:=zy (λi t e=>(hX i t e).fr a u_);replace u:=zy u;replace a:=zy a;have start:H_ (∃q:Nat,Value.int .i64 0=I_ q/\q<=l.length/\l.length+1-q<=l.length+1/\Fr w0 w0 N_/\xF (zx ds) (zZ (.alts p l))=xF (zx ds) (zY (l.drop q))):=zy ⟨0,rfl,al_ _,M_,A_ _ _,by rw[zZ];rfl⟩;have B:=qN 210 D_;have C:=wX 210 D_;have G:=wY;replace z:=zy z;go_in;go_wp2;rw[<- d];go_loopg [33] (l.length+1) (λm v W=>∃q:Nat,v=I_ q/\q<=l.length/\l.length+1-q<=m/\Fr w0 W N_/\xF (zx ds) (zZ (.alts p l))=xF (zx ds) (zY (l.drop q)));case atStart=>exact start
 case round=>
  obtain⟨q,rfl,d,hm,hf,he⟩:=hrel;have d:=hf.bl u id;have u:=d.c0;have u:=d.c1;by_cases u:q<l.length
  .have G:(q:Int)<(l.length:Int):=M_;have hd:l[q]?=some l[q]:=af_ u;have C:l[q]∈l:=a0_ u;generalize l[q]=t at hd C;obtain⟨g,cap,d⟩:=zm E M_;cases d;obtain⟨T,x,c0,d⟩:=bE (zj E hf u_) (λi t e=>(I.o i t e).fr hf u_) hd;have B:=zy (z.o t C wr P s ds (.slice j ds.length n) rv (.iface T x) xs et ex (F.o.fr hf u_) d (H.o.fr hf id));rw[di hd,qr]at he;replace hf:=zy hf;cases hu:xF (zx ds) (zZ t) with
   |nil=>
    rw[hu,bk_]at he;replace he:=zy he;replace hu:=zy hu;go_wp2_with (go_at_call 72;apply B.o.mono;rintro e n ⟨k,rfl,d,j⟩;rw[hu.o]at j;replace j:k=.nilIface:=j;subst j;replace d:=zy d);go_roundg (l.length+1-(q+1));case measure=>omega
    case rel=>exact⟨q+1,rfl,u,l_,hf.o.trans d u_,he⟩
   |cons y r=>
    rw[hu,bi_]at he;replace he:=zy he;replace hu:=zy hu;go_wp2_with (go_at_call 72;apply B.o.mono;rintro e n ⟨k,rfl,d,j⟩;rw[hu.o]at j;obtain⟨n,k,rfl,k⟩:=j;replace d:=zy d;replace k:=zy k);try go_ret
    rw[A.o];have j:=(a.o.trans hf u_).size;refine⟨_,rfl,(a.o.trans hf u_).trans d u_,?_⟩;rw[he.o];exact⟨n,M_,rfl,k⟩
  .have G:¬((q:Int)<(l.length:Int)):=M_;rw[bx_ M_,zY]at he;replace he:=zy he;replace hf:=zy hf;go_wp2;try go_ret
   rw[A.o];refine⟨.nilIface,rfl,a.o.trans hf u_,?_⟩;rw[he.o];rfl
def xJ:PT->Prop
 | .leaf c _=>zu c=true\/zp c=true
 | .wrap _ _ t=>xJ t
 | .alts _ ts=>ts.length<=300/\∀t∈ts,xJ t
def Zc:∀(n:Nat) (t:PT),SizeOf.sizeOf t<=n->xJ t->gD t:=by
 intro n;induction n with
 |zero=>intro t h;cases t<;>simp at h
 |succ n ih=>
  intro t h hb;cases t with
  |leaf c p=>
   unfold xJ at hb;rcases hb with hb|hb
   .exact Yl c p hb
   .exact eR c p hb
  |wrap c p t=>
   unfold xJ at hb;exact Yc c p t (ih t (by simp at h;omega) hb)
  |alts p ts=>
   unfold xJ at hb;exact Yh p ts hb.1 (λt a=>ih t (by have:=List.sizeOf_lt_of_mem a;simp at h;omega) (hb.2 t a))
def Pi(s:BA)(hs:s.size<=300)(f:Nat):(∀i t j,i<=s.size->vQ s f i=.ok (t,j)->xJ t)/\(∀i ts j,i<=s.size->xw s f i=.ok (ts,j)->i+ts.length<=j/\∀t∈ts,xJ t):=by
 induction f with
 |zero=>exact⟨λi t j _ h=>by simp[vQ]at h,λi t j _ h=>by simp[xw]at h⟩
 |succ f ih=>
  obtain⟨e,d⟩:=ih;have z:=(fu s f).1;have y:=(fu s f).2;refine⟨λi t j hi h=>?_,λi t j hi h=>?_⟩
  .rw[jE]at h;unfold vP at h;split at h
   .rename_i hb;simp only[ag_,ad_]at h;obtain⟨rfl,rfl⟩:=h;unfold xJ;exact .inl hb
   .split at h
    .rename_i hb;have hl:=zc (s:=s) (i:=i) M_;cases hp:vQ s f (i+1) with
     |error k=>rw[hp]at h;simp at h
     |ok r=>
      obtain⟨t',j'⟩:=r;rw[hp]at h;simp only at h;split at h
      .simp only[ag_,ad_]at h;obtain⟨rfl,rfl⟩:=h;unfold xJ;exact e _ _ _ M_ hp
      .simp at h
    .split at h
     .rename_i hb;have hl:=zc (s:=s) (i:=i) M_;cases hp:xw s f (i+1) with
      |error k=>rw[hp]at h;simp at h
      |ok r=>
       obtain⟨t',j'⟩:=r;rw[hp]at h;simp only at h;split at h
       .simp only[ag_,ad_]at h;obtain⟨rfl,rfl⟩:=h;have h1:=d _ _ _ M_ hp;have o:=(y (i+1) M_).1 _ _ hp;unfold xJ;exact⟨M_,h1.2⟩
       .simp at h
     .split at h
      .rename_i hb;simp only[ag_,ad_]at h;obtain⟨rfl,rfl⟩:=h;unfold xJ;exact .inr hb
      .simp at h
  .rw[jm]at h;unfold gq at h;cases hp:vQ s f i with
   |error k=>rw[hp]at h;simp at h
   |ok r=>
    obtain⟨t',j'⟩:=r;rw[hp]at h;have h1:=e _ _ _ hi hp;have o:=(z i hi).1 _ _ hp;simp only at h;split at h
    .rename_i B;have hl:=zc (s:=s) (i:=j') M_;cases a:xw s f (j'+1) with
     |error k=>rw[a]at h;simp at h
     |ok r=>
      obtain⟨ts,k⟩:=r;rw[a]at h;simp only[ag_,ad_]at h;obtain⟨rfl,rfl⟩:=h;obtain⟨A,n⟩:=d _ _ _ M_ a;refine⟨by simp;omega,λu hu=>?_⟩;rcases ao_.1 hu with rfl|hu
      .exact h1
      .exact n u hu
    .simp only[ag_,ad_]at h;obtain⟨rfl,rfl⟩:=h;exact⟨by simp;omega,λu hu=>by rw[a1_]at hu;subst hu;exact h1⟩
def Jh(hs:s.size<=300){i:Nat}{j:Nat}(hi:i<=s.size)(h:pT s i=.ok (t,j)):xJ t:=(Pi s hs _).1 i t j hi h
def xC(w:World)(b:Nat)(seen:List Nat):Prop:=
 ∃cs,Blk w b cs 291/\cs.length=26/\∀k,k<26->cs[k]?=some (.bool (decide (97+k∈seen)))
def xC.fr{w':World}{S:Nat->Prop}(h:xC w b seen)(hf:Fr w w' S)(d:¬S b):xC w' b seen:=by
 obtain⟨cs,h1,a⟩:=h;exact⟨cs,hf.bl h1 d,a⟩
def xC.same{l m:List Nat}(h:xC w b l)(e:∀x,x∈l↔x∈m):xC w b m:=by
 obtain⟨cs,h1,a,d⟩:=h;refine⟨cs,h1,a,λk hk=>?_⟩;rw[d k hk];simp only[e]
def xC.add{k:Nat}(h:xC w b seen)(hk:k<26):xC (w.setCell ⟨b,k,none⟩ (.bool true)) b (seen++[97+k]):=by
 obtain⟨cs,h1,a,d⟩:=h;refine⟨cs.set k (.bool true),h1.set k _,by simpa using a,λq a=>?_⟩;by_cases e:q=k
 .subst e;rw[cd_ M_];simp
 .rw[bq_ (Ne.symm e),d q a];simp[e]
def wF(h:zh x=true):∃k,x=97+k/\k<26:=by
 simp only[zh,ax_,decide_eq_true_eq]at h;exact⟨x-97,M_,M_⟩
def sB(h:xC w b seen)(hx:zh x=true):Calls prog 134 #[P_ b,.agg #[z_ p,U_ x]] w λe w'=>e=.returned (.bool (decide (x∈seen)))/\Fr w w' N_:=by
 refine hq_ λj a=>?_;obtain⟨k,hk,i⟩:=wF hx;have u:IntKind.u8.wrap ((x:Int)-97)=(k:Int):=by rw[IntKind.wrap_u8];omega
 have c0:(w.alloc (.cells #[z_ p,U_ x] 186)).cell? ⟨b,k,none⟩=some (.bool (decide (x∈seen))):=by
  obtain⟨cs,h1,n,d⟩:=h;rw[(h1.alloc _).cell k,d k i,hk]
 have r:(k:Int)<26:=M_;clear h hx hk;go_in;go_wp2;go_quiet (fail);go_wp2;try go_ret
 rw[a.o];exact⟨rfl,((A_ w _).alloc _).si (zq.drewN _ _)⟩
def sL(h:xC w b seen)(hx:zh x=true):Calls prog 133 #[P_ b,.agg #[z_ p,U_ x]] w λe w'=>e=.returned (.bool (!decide (x∈seen)))/\Fr w w' (λg=>g=b)/\xC w' b (seen++[x]):=by
 refine hq_ λa n=>?_;obtain⟨k,hk,u⟩:=wF hx;have a:IntKind.u8.wrap ((x:Int)-97)=(k:Int):=by rw[IntKind.wrap_u8];omega
 have a:(k:Int)<26:=M_;have h0:=h.fr ((A_ w N_).alloc (.cells #[z_ p,U_ x] 186)) id;have i:=zy (sB (p:=p) h0 hx);have d:=B_ w #[z_ p,U_ x] 186
 revert hk h0 d;refine h_ λhk h0 d=>?_;by_cases hm:x∈seen
 .have hd:=zy (show decide (x∈seen)=true from decide_eq_true hm);replace hm:=zy hm;go_in;go_wp2_with (go_at_call 134;apply i.o.mono;rintro e w1 ⟨rfl,a⟩;rw[hd.o];replace a:=zy a);try go_ret
  rw[n.o];refine⟨by rw[hd.o];rfl,(((A_ w _).alloc _).trans a v_),(h0.o.fr a id).same (λy=>?_)⟩;rw[a2_,a1_];exact⟨λq=>.inl q,λq=>by rcases q with q|rfl;exact q;exact hm⟩
 .have hd:=zy (show decide (x∈seen)=false from decide_eq_false hm);go_in;go_wp2_with (go_at_call 134;apply i.o.mono;rintro e w1 ⟨rfl,a⟩;rw[hd.o];have j:=(a.bl d id).c1;have d:=h0.o.fr a id;have i:=a.size;replace a:=zy a);have i:w1.cell? ⟨b,k,none⟩=some (.bool (decide (97+k∈seen))):=by obtain⟨cs,i,z,r⟩:=d;rw[i.cell k,r k u]
  have fb:w1.frozen? ⟨b,k,none⟩=false:=by obtain⟨cs,i,z,r⟩:=d;exact i.th k
  have i:=zy (d.add u);replace d:=zy d;refine tr_ 6 (λW=>f_ W w.heap.size 1 (U_ x)) ?_;refine tz_ 0 ?_;refine tz_ 1 ?_;refine tz_ 2 ?_;refine tz_ 3 ?_;refine t1_ 4 j ?_;refine t1_ 5 j ?_;refine t1_ 6 j ?_;refine td_ ?_ _;go_wp2;try go_ret
  rw[n.o];rw[hk.o]at hd⊢;refine⟨by rw[hd.o];rfl,?_,?_⟩
  .exact((((A_ w _).alloc _).trans a v_).drew).setCell _ _ (λ_=>rfl)
  .exact i
def ma:Array Value:=(List.replicate 26 (Value.bool false)).toArray
def sZ(w:World):xC (w.alloc (.cells ma 291)) w.heap.size []:=by
 refine⟨List.replicate 26 (Value.bool false),B_ w ma _,by simp,λk hk=>?_⟩;rw[List.getElem?_replicate,i_ hk];simp
def lS:(#[.bool false,.bool false,.bool false,.bool false,.bool false,.bool false,.bool false,.bool false,.bool false,.bool false,.bool false,.bool false,.bool false,.bool false,.bool false,.bool false,.bool false,.bool false,.bool false,.bool false,.bool false,.bool false,.bool false,.bool false,.bool false,.bool false]:Array Value)=ma:=rfl
structure xB(w:World)(P:Nat->Prop)(s:BA)(fs:List PF)(fv:Value)(ys:List Value):Prop where
 row:w.ownsRow 0 189 4 fv fs.length ys
 off:∀g,fv.ownBlock=some g->P g
 V:xo w P s fs ys
def xB.fr{w':World}{S:Nat->Prop}(h:xB w P s fs sv xs)(hf:Fr w w' S)(a:∀g,P g->¬S g):xB w' P s fs sv xs:=
 ⟨zj h.row hf (λg hg=>a g (h.off g hg)),h.off,h.V.fr hf a⟩
def xB.cells(h:xB w P s fs (S_ g m cap) xs)(j:fs[q]?=some f):∃T x d,w.cell? ⟨g,q*4,none⟩=some (I_ f.place)/\w.cell? ⟨g,q*4+1,none⟩=some (U_ f.letter)/\w.cell? ⟨g,q*4+2,none⟩=some (.iface T x)/\w.cell? ⟨g,q*4+3,none⟩=some (.pointer d)/\TyV w P f.ty (.iface T x)/\DfV w P s f.dflt (.pointer d):=by
 obtain⟨a,b,c,d,h1,k,n,o,rfl,rfl,r,i⟩:=h.V q f j;obtain⟨T,x,rfl⟩:=r.iface;obtain⟨j,rfl⟩:∃j,d=.pointer j:=by
  unfold DfV at i;split at i
  .exact⟨_,i⟩
  .obtain⟨g',u,_,e,_⟩:=i;exact⟨_,e⟩
 have hm:=mc h.row;subst hm;rw[bc_]at h1 k n o;exact⟨T,x,j,zr h.row rfl h1,zr h.row rfl k,zr h.row rfl n,zr h.row rfl o,r,i⟩
def XG{env:Nat->Option PB}(h:fs[q]?=some f)(seen:List Nat):fL env seen (fs.drop q)=(if f.letter∈seen then [f.place] else [])++(xF env (zZ f.ty)++fL env (seen++[f.letter]) (fs.drop (q+1))):=by
 have hl:=(ae_.1 h).1;rw[ba_ hl,fL,(ae_.1 h).2]
def dV(h:fs[q]?=some f):(fs.take (q+1)).map PF.letter=(fs.take q).map PF.letter++[f.letter]:=by
 rw[bf_,h];simp
def GY(w0:World)(bS:Nat)(env:Nat->Option PB)(fs:List PF)(m:Nat)(v:Value)(W:World):Prop:=
 ∃q:Nat,v=I_ q/\q<=fs.length/\fs.length+1-q<=m/\Fr w0 W (λg=>g=bS)/\xC W bS ((fs.take q).map PF.letter)/\fL env [] fs=fL env ((fs.take q).map PF.letter) (fs.drop q)
def pK{fv:Value}{ys:List Value}(D:xf w P s ds sv xs)(F:xB w P s fs fv ys)(hE:ji 1 w et ex)(hl:fs.length<=300)(e6:∀f∈fs,zh f.letter=true)(e2:∀f∈fs,xJ f.ty)(V:∀g,P g->g<w.heap.size):Calls prog 103 #[.agg #[sv,rv],.agg #[z_ p,fv]] w (yX w (.iface et ex) (fL (zx ds) [] fs)):=by
 refine hq_ λe7 Q_=>?_;obtain⟨M,N,rfl⟩:=zl D.row;obtain⟨fa,fc,rfl⟩:=zl F.row;obtain⟨O,L⟩:=e_ ((w.alloc (.cells #[.slice M ds.length N,rv] 55)).alloc (.cells #[z_ p,.slice fa fs.length fc] 215));have a9:O.heap.size=w.heap.size+2:=by rw[L];simp
 have b8:Fr w O N_:=by rw[L];exact((A_ w _).alloc _).alloc _
 have b7:Blk O w.heap.size [.slice M ds.length N,rv] 55:=by rw[L];exact(B_ w #[.slice M ds.length N,rv] 55).alloc _
 obtain⟨w0,E⟩:=e_ (O.alloc (.cells ma 291));have A:Fr w w0 N_:=by rw[E];exact b8.alloc _
 have a1:Blk w0 w.heap.size [.slice M ds.length N,rv] 55:=by rw[E];exact b7.alloc _
 have b6:xC w0 (w.heap.size+2) []:=by rw[E,<- a9];exact sZ O
 have f0:w0.heap.size=w.heap.size+3:=by rw[E];simp[a9]
 have D0:=zy (D.fr A u_);have F0:=zy (F.fr A u_);have e0:=zy (hE.fr A id);have start:H_ (GY w0 (w.heap.size+2) (zx ds) fs (fs.length+1) (O_) w0):=zy ⟨0,rfl,al_ _,M_,A_ _ _,b6,rfl⟩;replace a1:=zy a1;replace A:=zy A;have a4:1≠w.heap.size+2:=M_;have V:=zy V;go_in;go_wp2;rw[lS,<- L,<- E];go_loopg [12] (fs.length+1) (λm v W=>GY w0 (w.heap.size+2) (zx ds) fs m v W);case atStart=>exact start
 case round=>
  obtain⟨q,rfl,hq,hm,hf,J,he⟩:=hrel;have e9:=hf.size;have hS:=hf.bl a1 M_;by_cases a5:q<fs.length
  .have e5:(q:Int)<(fs.length:Int):=M_;have hd:fs[q]?=some fs[q]:=af_ a5;have a6:fs[q]∈fs:=a0_ a5;generalize fs[q]=f at hd a6;have a3:=e6 f a6;obtain⟨g,cap,e4⟩:=zm F0.o.row M_;cases e4;have a7:∀g,P g->¬g=w.heap.size+2:=λg hg=>by have:=V.o g hg;omega
   obtain⟨T,x,d,c0,c1,c2,c3,hT,d9⟩:=(F0.o.fr hf a7).cells hd;obtain⟨l,b9⟩:=x_ f.letter;obtain⟨pl,d2⟩:=x_ f.place;obtain⟨ty,d7⟩:=x_ f.ty;have Z:=e2 f a6;rw[XG hd]at he;have a0:=dV hd;rw[b9]at a3 c1 he a0;rw[d2]at c0 he;rw[d7]at hT he Z;have k:=(A_ wr N_).alloc (.cells #[I_ pl,U_ l,.iface T x,.pointer d] 189);have G:=B_ wr #[I_ pl,U_ l,.iface T x,.pointer d] 189;have d8:(wr.alloc (.cells #[I_ pl,U_ l,.iface T x,.pointer d] 189)).heap.size=wr.heap.size+1:=by simp
   have U:=zy (sL (p:=(pl:Int)) (J.fr k id) a3);have a2:=hT.fr k u_;have D1:=(D0.o.fr hf a7).fr k u_;have Q:=(e0.o.fr hf a4).fr k id;have R:=k.bl hS id;have b5:=zy ((A.o.trans hf (λy hy e=>M_)).trans k u_);have e1:=zy (hf.trans k v_);replace a2:=zy a2;replace D1:=zy D1;replace Q:=zy Q;replace R:=zy R;replace G:=zy G;replace Z:=zy Z;obtain⟨seen,J⟩:=x_ ((fs.take q).map PF.letter);rw[J]at he a0 U;by_cases Y:l∈seen
   .have X:=zy (show(!decide (l∈seen))=false by rw[decide_eq_true Y];rfl);rw[i_ Y]at he;replace he:=zy he;go_wp2_with (go_at_call 133;apply U.o.mono;rintro e j ⟨rfl,i,n⟩;rw[X.o];have n0:=(i.bl G M_).c0;have C:=Q.o.fr i a4;replace i:=zy i;replace C:_=_:=C);refine tr_ 8 (λW=>f_ W wr.heap.size 0 (I_ pl)/\f_ W 1 0 (.iface et ex)) ?_;refine tz_ 0 ?_;refine tz_ 1 ?_;refine tz_ 2 ?_;refine tz_ 4 ?_;refine zw 3 rfl K_ (λ_=>⟨n0,C⟩) (λK hK=>?_);go_simp;apply(yR (pl:Int) _).mono;rintro e w' ⟨rfl,rfl⟩;refine hK _ _ ?_;refine tz_ 5 ?_;refine t1_ 6 ⟨n0,C⟩ ?_;have S:∀{a:Addr} {x:Value},j.cell? a=some x->(j.drew.alloc (.cells #[I_ pl,.iface et ex] 181)).cell? a=some x:=@λa x h=>(World.cell?_alloc_lt (j.drew) _ a (by exact World.block_lt_of_cell? j a h)).trans h;refine t1_ 7 ⟨S n0,S C⟩ ?_;refine t1_ 8 ⟨S n0,S C⟩ ?_;refine td_ ?_ _;go_wp2;try go_ret
    rw[Q_.o];have I:=b5.o.trans i (λy hy e=>M_);have d6:=I.size;refine⟨_,rfl,(I.alloc _).drew,?_⟩;rw[he.o];exact⟨j.heap.size,d6,rfl,(B_ j _ _).drew⟩
   .have X:=zy (show(!decide (l∈seen))=true by rw[decide_eq_false Y];rfl);rw[n_ Y,bk_]at he;have a8:∀g,P g->¬g=w.heap.size+2:=λg hg=>by have:=V.o g hg;omega
    have b4:H_ (∀j,Fr (wr.alloc (.cells #[I_ pl,U_ l,.iface T x,.pointer d] 189)) j (λg=>g=w.heap.size+2)->Calls prog 72 #[.agg #[.slice M ds.length N,rv],.iface T x] j (yX j (.iface et ex) (xF (zx ds) (zZ ty)))):=zy (λj h2=>Zc _ ty l_ Z j P s ds _ rv _ xs et ex (D1.o.fr h2 a8) (a2.o.fr h2 a8) (Q.o.fr h2 a4));cases hu:xF (zx ds) (zZ ty) with
    |nil=>
     rw[hu,bk_]at he;replace he:=zy he;replace hu:=zy hu;go_wp2_with (first
      |(go_at_call 133;apply U.o.mono;rintro e j ⟨rfl,i,n⟩;rw[X.o];have H:=i.bl G M_;have z:=i.bl R M_;have n2:=H.c2;have s0:=z.c0;have s1:=z.c1;replace i:=zy i;replace n:=zy n)
      |(go_at_call 72;apply(b4.o j i).mono;rintro e w3 ⟨v3,rfl,u,B⟩;rw[hu.o]at B;replace B:v3=.nilIface:=B;subst B;replace u:=zy u))
     go_roundg (fs.length+1-(q+1));case measure=>omega
     case rel=>exact⟨q+1,rfl,a5,l_,(e1.o.trans i u_).trans u v_,by rw[a0];exact n.o.fr u id,by rw[a0];exact he⟩
    |cons y r=>
     rw[hu,bi_]at he;replace he:=zy he;replace hu:=zy hu;go_wp2_with (first
      |(go_at_call 133;apply U.o.mono;rintro e j ⟨rfl,i,n⟩;rw[X.o];have H:=i.bl G M_;have z:=i.bl R M_;have n2:=H.c2;have s0:=z.c0;have s1:=z.c1;replace i:=zy i)
      |(go_at_call 72;apply(b4.o j i).mono;rintro e w3 ⟨v3,rfl,u,B⟩;rw[hu.o]at B;obtain⟨S,e8,rfl,C⟩:=B;replace u:=zy u;replace C:=zy C))
     try go_ret
     rw[Q_.o];have I:=b5.o.trans i (λy hy e=>M_);have d6:=I.size;refine⟨_,rfl,I.trans u u_,?_⟩;rw[he.o];exact⟨S,M_,rfl,C⟩
  .have e5:¬((q:Int)<(fs.length:Int)):=M_;rw[bx_ M_,fL]at he;replace he:=zy he;replace hf:=zy hf;go_wp2;try go_ret
   rw[Q_.o];refine⟨.nilIface,rfl,A.o.trans hf (λy hy e=>M_),?_⟩;rw[he.o]
def vf:∀{q:Nat}{c p:Nat},l[q]?=some (c,p)->(zE l)[q*2]?=some (I_ p)/\(zE l)[q*2+1]?=some (U_ c):=by
 induction l with
 |nil=>intro q c p h;simp at h
 |cons x r ih=>
  intro q c p h;have hc:zE (x::r)=I_ x.2 :: U_ x.1::zE r:=by simp[zE]
  rw[hc];cases q with
  |zero=>
   simp only[aa_,ah_]at h;subst h;exact⟨rfl,rfl⟩
  |succ q=>
   rw[ab_]at h;have:=ih h;rw[show(q+1)*2=q*2+1+1 by omega];exact this
def XU{p:Nat}(h:l[q]?=some (c,p))(seen:List Nat):qT seen (l.drop q)=(if c∈seen then [p] else [])++qT (seen++[c]) (l.drop (q+1)):=by
 have hl:=(ae_.1 h).1;rw[ba_ hl,qT,(ae_.1 h).2]
def nO{p:Nat}(h:l[q]?=some (c,p)):(l.take (q+1)).map Prod.fst=(l.take q).map Prod.fst++[c]:=by
 rw[bf_,h];simp
def GZ(w0:World)(bS:Nat)(l:List (Nat×Nat))(m:Nat)(v:Value)(W:World):Prop:=
 ∃q:Nat,v=I_ q/\q<=l.length/\l.length+1-q<=m/\Fr w0 W (λg=>g=bS)/\xC W bS ((l.take q).map Prod.fst)/\qT [] l=qT ((l.take q).map Prod.fst) (l.drop q)
def fg{u:Value}{o:Option (Nat×Nat)}(ho:w.ownsRow 0 186 2 sv l.length (zE l))(E:∀g,sv.ownBlock=some g->P g)(i:qh w P o u)(B:ji 1 w et ex)(hl:l.length<=300)(M:∀q∈l,zh q.1=true)(X:∀c p,o=some (c,p)->zh c=true)(J:∀g,P g->g<w.heap.size):Calls prog 104 #[.agg #[z_ p,sv,u]] w (yX w (.iface et ex) (qT [] l++uw l o)):=by
 refine hq_ λj I=>?_;obtain⟨z,A,rfl⟩:=zl ho;obtain⟨d,rfl⟩:∃d,u=.pointer d:=by
  unfold qh at i;split at i
  .exact⟨_,i⟩
  .obtain⟨g',_,e,_⟩:=i;exact⟨_,e⟩
 have L:1<w.heap.size:=World.block_lt_of_cell? w ⟨1,0,none⟩ B;obtain⟨n,k⟩:=e_ (w.alloc (.cells #[z_ p,.slice z l.length A,.pointer d] 220));have F:n.heap.size=w.heap.size+1:=by rw[k];simp
 have H:Fr w n N_:=by rw[k];exact(A_ w _).alloc _
 have G:Blk n w.heap.size [z_ p,.slice z l.length A,.pointer d] 220:=by rw[k];exact B_ w #[z_ p,.slice z l.length A,.pointer d] 220
 obtain⟨w0,j⟩:=e_ (n.alloc (.cells ma 291));have C:Fr w w0 N_:=by rw[j];exact H.alloc _
 have D:Blk w0 w.heap.size [z_ p,.slice z l.length A,.pointer d] 220:=by rw[j];exact G.alloc _
 have z:xC w0 (w.heap.size+1) []:=by rw[j,<- F];exact sZ n
 have n:w0.heap.size=w.heap.size+2:=by rw[j];simp[F]
 have n:=zy (zj ho C u_);have T:=zy (i.fr C u_);have S:=zy (B.fr C id);have start:H_ (GZ w0 (w.heap.size+1) l (l.length+1) (O_) w0):=zy ⟨0,rfl,al_ _,M_,A_ _ _,z,rfl⟩;replace D:=zy D;replace C:=zy C;have N:1≠w.heap.size+1:=M_;replace J:=zy J;replace E:=zy E;go_in;go_wp2;rw[lS,<- k,<- j];go_loopg [9] (l.length+1) (λm v W=>GZ w0 (w.heap.size+1) l m v W);case atStart=>exact start
 case round=>
  obtain⟨q,rfl,i,hm,hf,z,he⟩:=hrel;have i:=hf.size;have G:=hf.bl D M_;by_cases O:q<l.length
  .have V:(q:Int)<(l.length:Int):=M_;have hd:l[q]?=some l[q]:=af_ O;have i:l[q]∈l:=a0_ O;generalize l[q]=f at hd i;obtain⟨c,pl⟩:=f;have A:zh c=true:=M _ i;obtain⟨g,cap,i⟩:=zm n M_;cases i;have i:¬g=w.heap.size+1:=by have:=J.o g (E.o g rfl);omega
   have j:=zj n hf (λg' e=>by simp only[Value.ownBlock,ah_]at e;subst e;exact i);have c0:=zr j rfl (vf hd).1;have c1:=zr j rfl (vf hd).2;rw[XU hd]at he;have R:=nO hd;have i:=(A_ wr N_).alloc (.cells #[I_ pl,U_ c] 186);have k:=B_ wr #[I_ pl,U_ c] 186;have M:=zy (sL (p:=(pl:Int)) (z.fr i id) A);have n:=(S.o.fr hf N).fr i id;have E:=zy ((C.o.trans hf (λy hy e=>M_)).trans i u_);have U:=zy (hf.trans i v_);replace n:=zy n;replace k:=zy k;obtain⟨seen,z⟩:=x_ ((l.take q).map Prod.fst);rw[z]at he R M;by_cases L:c∈seen
   .have B:=zy (show(!decide (c∈seen))=false by rw[decide_eq_true L];rfl);rw[i_ L]at he;replace he:=zy he;go_wp2_with (go_at_call 133;apply M.o.mono;rintro e j ⟨rfl,i,H⟩;rw[B.o];have A:=(i.bl k M_).c0;have k:=n.o.fr i N;replace i:=zy i;replace k:_=_:=k);refine tr_ 7 (λW=>f_ W wr.heap.size 0 (I_ pl)/\f_ W 1 0 (.iface et ex)) ?_;refine tz_ 0 ?_;refine tz_ 1 ?_;refine tz_ 3 ?_;refine zw 2 rfl K_ (λ_=>⟨A,k⟩) (λK F=>?_);go_simp;apply(yR (pl:Int) _).mono;rintro e w' ⟨rfl,rfl⟩;refine F _ _ ?_;refine tz_ 4 ?_;refine t1_ 5 ⟨A,k⟩ ?_;have n:∀{a:Addr} {x:Value},j.cell? a=some x->(j.drew.alloc (.cells #[I_ pl,.iface et ex] 181)).cell? a=some x:=@λa x h=>(World.cell?_alloc_lt (j.drew) _ a (by exact World.block_lt_of_cell? j a h)).trans h;refine t1_ 6 ⟨n A,n k⟩ ?_;refine t1_ 7 ⟨n A,n k⟩ ?_;refine td_ ?_ _;go_wp2;try go_ret
    rw[I.o];have D:=E.o.trans i (λy hy e=>M_);have Q:=D.size;refine⟨_,rfl,(D.alloc _).drew,?_⟩;rw[he.o];exact⟨j.heap.size,Q,rfl,(B_ j _ _).drew⟩
   .have B:=zy (show(!decide (c∈seen))=true by rw[decide_eq_false L];rfl);rw[n_ L,bk_]at he;replace he:=zy he;go_wp2_with (go_at_call 133;apply M.o.mono;rintro e j ⟨rfl,i,H⟩;rw[B.o];replace i:=zy i;replace H:=zy H);go_roundg (l.length+1-(q+1));case measure=>omega
    case rel=>exact⟨q+1,rfl,O,l_,U.o.trans i u_,by rw[R];exact H,by rw[R];exact he⟩
  .have V:¬((q:Int)<(l.length:Int)):=M_;have M:q=l.length:=M_;rw[bx_ M_,qT]at he;rw[M,List.take_length]at z;have c2:=G.c2;have L:=T.o.fr hf (λg hg e=>by have:=J.o g hg;omega);have H:=S.o.fr hf N;have E:=zy (C.o.trans hf (λy hy e=>M_));replace z:=zy z;replace G:=zy G;replace H:=zy H;cases o with
   |none=>
    have hn:d=none:=by
     have:Value.pointer d=.pointer none:=L;cases this;rfl
    subst hn;have C:=zy (show qT [] l++uw l none=[] by rw[he];rfl);go_wp2;try go_ret
    rw[I.o];refine⟨.nilIface,rfl,E,?_⟩;rw[C.o]
   |some r=>
    obtain⟨c,pl⟩:=r;obtain⟨g,hg,J,hB⟩:∃g,P g/\Value.pointer d=P_ g/\Blk wr g [I_ pl,U_ c] 186:=L;cases J;have b0:=hB.c0;have b1:=hB.c1;have J:=zy (sB (p:=(pl:Int)) z (X c pl rfl));replace hB:=zy hB;by_cases z:c∈l.map Prod.fst
    .have B:=zy (show decide (c∈l.map Prod.fst)=true from decide_eq_true z);have C:=zy (show qT [] l++uw l (some (c,pl))=[] by rw[he];simp only[uw];rw[i_ z];rfl);go_wp2_with (go_at_call 134;apply J.o.mono;rintro e j ⟨rfl,i⟩;rw[B.o];replace i:=zy i);try go_ret
     rw[I.o];refine⟨.nilIface,rfl,E.o.trans i u_,?_⟩;rw[C.o]
    .have B:=zy (show decide (c∈l.map Prod.fst)=false from decide_eq_false z);have C:=zy (show qT [] l++uw l (some (c,pl))=[pl] by rw[he];simp only[uw];rw[n_ z];rfl);go_wp2_with (go_at_call 134;apply J.o.mono;rintro e j ⟨rfl,i⟩;rw[B.o];have A:=(i.bl hB id).c0;have z:=(i.bl G id).c2;have k:=H.o.fr i id;replace i:=zy i;replace k:_=_:=k);refine tr_ 10 (λW=>f_ W w.heap.size 2 (P_ g)/\f_ W g 0 (I_ pl)/\f_ W 1 0 (.iface et ex)) ?_;refine tz_ 0 ?_;refine tz_ 1 ?_;refine tz_ 2 ?_;refine tz_ 3 ?_;refine tz_ 4 ?_;refine tz_ 6 ?_;refine zw 5 rfl K_ (λ_=>⟨z,A,k⟩) (λK F=>?_);go_simp;apply(yR (pl:Int) _).mono;rintro e w' ⟨rfl,rfl⟩;refine F _ _ ?_;refine tz_ 7 ?_;refine t1_ 8 ⟨z,A,k⟩ ?_;have n:∀{a:Addr} {x:Value},j.cell? a=some x->(j.drew.alloc (.cells #[I_ pl,.iface et ex] 181)).cell? a=some x:=@λa x h=>(World.cell?_alloc_lt (j.drew) _ a (by exact World.block_lt_of_cell? j a h)).trans h;refine t1_ 9 ⟨n z,n A,n k⟩ ?_;refine t1_ 10 ⟨n z,n A,n k⟩ ?_;refine td_ ?_ _;go_wp2;try go_ret
     rw[I.o];have D:=E.o.trans i (λy hy e=>e);have Q:=D.size;refine⟨_,rfl,(D.alloc _).drew,?_⟩;rw[C.o];exact⟨j.heap.size,Q,rfl,(B_ j _ _).drew⟩
def plB:PB->Prop
 | .recd fs=>fs.length<=300/\(∀f∈fs,zh f.letter=true)/\∀f∈fs,xJ f.ty
 | .enum l o=>l.length<=300/\(∀q∈l,zh q.1=true)/\∀c p,o=some (c,p)->zh c=true
 | .bytes _=>True
def mz{b:PB}(D:xf w P s ds sv xs)(hb:ye w P s b v)(y:ji 1 w et ex)(j:plB b)(A:∀g,P g->g<w.heap.size):Calls prog 71 #[.agg #[sv,rv],v] w (yX w (.iface et ex) (qu (zx ds) b)):=by
 refine hq_ λK E=>?_;obtain⟨H,I,rfl⟩:=zl D.row;cases hb with
 |recd p ho hP h hp=>
  rename_i fs fv ys;obtain⟨fa,fc,rfl⟩:=zl ho;have a:Fr w ((w.alloc (.cells #[.slice H ds.length I,rv] 55)).alloc (.cells #[I_ p,.slice fa fs.length fc] 215)) N_:=((A_ w _).alloc _).alloc _;have B:=a.size;have F:=zy (pK (rv:=rv) (p:=(p:Int)) (D.fr a u_) ((⟨ho,hP,h⟩:xB w P s fs _ _).fr a u_) (y.fr a id) j.1 j.2.1 j.2.2 (λg hg=>bb_ (A g hg) B));replace a:=zy a;go_in;go_wp2_with (go_at_call 103;apply F.o.mono;rintro e J ⟨G,rfl,k,hm⟩;replace k:=zy k;replace hm:=zy hm);try go_ret
  rw[E.o];refine⟨G,rfl,a.o.trans k u_,?_⟩;have i:=hm.o;rw[qu];cases z:fL (zx ds) [] fs with
  |nil=>rw[z]at i;exact i
  |cons x r=>rw[z]at i;exact i.ls B
 |enum p ho hP hu hp=>
  rename_i l o lv u;obtain⟨fa,fc,rfl⟩:=zl ho;obtain⟨d,rfl⟩:∃d,u=.pointer d:=by
   have C:=hu;unfold qh at C;split at C
   .exact⟨_,C⟩
   .obtain⟨g',_,e,_⟩:=C;exact⟨_,e⟩
  have a:Fr w ((w.alloc (.cells #[.slice H ds.length I,rv] 55)).alloc (.cells #[I_ p,.slice fa l.length fc,.pointer d] 220)) N_:=((A_ w _).alloc _).alloc _;have B:=a.size;have F:=zy (fg (p:=(p:Int)) (zj ho a u_) hP (hu.fr a u_) (y.fr a id) j.1 j.2.1 j.2.2 (λg hg=>bb_ (A g hg) B));replace a:=zy a;go_in;go_wp2_with (go_at_call 104;apply F.o.mono;rintro e J ⟨G,rfl,k,hm⟩;replace k:=zy k;replace hm:=zy hm);try go_ret
  rw[E.o];refine⟨G,rfl,a.o.trans k u_,?_⟩;have i:=hm.o;rw[qu];cases z:qT [] l++uw l o with
  |nil=>rw[z]at i;exact i
  |cons x r=>rw[z]at i;exact i.ls B
 |bytes p n hp=>
  go_in;go_wp2;try go_ret
  rw[E.o];exact⟨.nilIface,rfl,(A_ w _).alloc _,rfl⟩
def xf.pre(h:xf w P s ds (S_ g m cap) xs)(a:q<=ds.length):xf w P s (ds.take q) (S_ g q cap) (xs.take (q*3)):=by
 have a:(ds.take q).length=q:=by rw[List.length_take];omega
 refine⟨?_,λg' e=>h.off g' e,λi d e=>?_,by rw[a];have:=h.len;omega⟩
 .rw[a];obtain⟨h1,j⟩:=h.row;refine⟨by rw[List.length_take,h1];omega,.inr ?_⟩;rcases j with⟨e,_⟩|⟨g',j,r,e,j,k,o,n,u,y⟩
  .cases e
  .cases e;refine⟨g,cap,r,rfl,j,k,M_,n,u,?_⟩;rw[<- y,List.take_take]
   congr 1
   omega
 .have hi:=(ae_.1 e).1;rw[a]at hi;rw[b7_,i_ hi]at e;obtain⟨c,j,k,o,n⟩:=h.V i d e;exact⟨c,by rw[b7_,i_ M_];exact j,by rw[b7_,i_ M_];exact k,by rw[b7_,i_ M_];exact o,n⟩
def XD{env:Nat->Option PB}{d:PD}(h:ds[q]?=some d)(seen:List Nat):wo env seen (ds.drop q)=(if d.letter∈seen then [d.place] else [])++(qu env d.body++wo env (seen++[d.letter]) (ds.drop (q+1))):=by
 have hl:=(ae_.1 h).1;rw[ba_ hl,wo,(ae_.1 h).2]
def Ys{d:PD}(h:ds[q]?=some d):(ds.take (q+1)).map PD.letter=(ds.take q).map PD.letter++[d.letter]:=by
 rw[bf_,h];simp
def mO:zx ds c=none↔c∉ds.map PD.letter:=by
 unfold zx;rw[<- pC 0 c ds];cases xR 0 c ds<;>simp
def uf(D:xf w P s ds sv xs)(hT:TyV w P t rv)(hE:ji 1 w et ex)(d7:∀d∈ds,plB d.body)(b9:xJ t)(a6:∀g,P g->g<w.heap.size):Calls prog 44 #[.agg #[sv,rv]] w (yX w (.iface et ex) (xY ds t)):=by
 refine hq_ λd8 Q_=>?_;obtain⟨sa,n,rfl⟩:=zl D.row;obtain⟨rT,rx,rfl⟩:=hT.iface;have e3:=D.len;obtain⟨w0,a0⟩:=e_ (w.alloc (.cells #[.slice sa ds.length n,.iface rT rx] 55));have z:Fr w w0 N_:=by rw[a0];exact(A_ w _).alloc _
 have a1:Blk w0 w.heap.size [.slice sa ds.length n,.iface rT rx] 55:=by rw[a0];exact B_ w #[.slice sa ds.length n,.iface rT rx] 55
 have O:=zy (D.fr z u_);have b8:=zy (hT.fr z u_);have a5:=zy (hE.fr z id);have b7:=zy (λg (hg:P g)=>bb_ (a6 g hg) z.size);have start:H_ (∃q:Nat,Value.int .i64 0=I_ q/\q<=ds.length/\ds.length+1-q<=ds.length+1/\Fr w0 w0 N_/\wo (zx ds) [] ds=wo (zx ds) ((ds.take q).map PD.letter) (ds.drop q)):=zy ⟨0,rfl,al_ _,M_,A_ _ _,rfl⟩;replace a1:=zy a1;replace z:=zy z;go_in;go_wp2;rw[<- a0];go_loopg [3,10] (ds.length+1) (λm u v W=>∃q:Nat,v=I_ q/\q<=ds.length/\ds.length+1-q<=m/\Fr w0 W N_/\wo (zx ds) [] ds=wo (zx ds) ((ds.take q).map PD.letter) (ds.drop q));case atStart=>exact start
 case round=>
  obtain⟨q,rfl,hq,hm,hf,he⟩:=hrel;have e6:=hf.size;have H:=hf.bl a1 id;have e1:w.heap.size<wr.heap.size:=H.lt;have s0:=H.c0;have s1:=H.c1;by_cases a3:q<ds.length
  .have d6:(q:Int)<(ds.length:Int):=M_;have hd:ds[q]?=some ds[q]:=af_ a3;have a9:ds[q]∈ds:=a0_ a3;generalize ds[q]=d at hd a9;obtain⟨g,cap,d2⟩:=zm O.o.row M_;cases d2;have Q:=O.o.fr hf u_;obtain⟨T,x,c0,c1,c2,hb⟩:=Q.cells hd;have e4:q<=n:=by
    obtain⟨_,G⟩:=O.o.row;rcases G with⟨e,_⟩|⟨g',d9,e0,e,k1,k2,k3,k4,k5,k6⟩
    .cases e
    .cases e;omega
   have e5:(q:Int)<=(n:Int):=M_;have Y:=d7 d a9;rw[XD hd]at he;have Z:=Ys hd;obtain⟨l,a8⟩:=x_ d.letter;obtain⟨pl,b5⟩:=x_ d.place;obtain⟨b,a7⟩:=x_ d.body;rw[a8]at c1 he Z;rw[b5]at c0 he;rw[a7]at hb he Y;have A:=((A_ wr N_).alloc (.cells #[I_ pl,U_ l,.iface T x] 173)).alloc (.cells #[S_ g q n,.nilIface] 55);have J:=(B_ wr #[I_ pl,U_ l,.iface T x] 173).alloc (.cells #[S_ g q n,.nilIface] 55);have L:=zy (jV (rv:=.nilIface) l ((Q.pre hq).fr A u_));have D1:=Q.fr A u_;have B1:=hb.fr A u_;have R:=(a5.o.fr hf id).fr A id;have S:=A.bl H id;have X:=zy (hf.trans A u_);replace D1:=zy D1;replace B1:=zy B1;replace R:=zy R;replace S:=zy S;replace J:=zy J;replace Y:=zy Y;by_cases V:l∈(ds.take q).map PD.letter
   .rw[i_ V]at he;have N:=zy (show xY ds t=pl::(qu (zx ds) b++wo (zx ds) ((ds.take q).map PD.letter++[l]) (ds.drop (q+1))++xF (zx ds) (zZ t)) by unfold xY;rw[he];rfl);obtain⟨bb,a2⟩:∃bb,zx (ds.take q) l=some bb:=by
     cases h:zx (ds.take q) l with
     |none=>exact absurd V (mO.1 h)
     |some bb=>exact⟨bb,rfl⟩
    replace a2:=zy a2;go_wp2_with (go_at_call 69;apply L.o.mono;rintro e k ⟨I,rfl,i,j⟩;rw[a2.o]at j;obtain⟨bT,bx,rfl⟩:=j.iface;have n0:=(i.bl J id).c0;have F:=R.o.fr i id;replace i:=zy i;replace F:_=_:=F);refine tr_ 7 (λW=>f_ W wr.heap.size 0 (I_ pl)/\f_ W 1 0 (.iface et ex)) ?_;refine tz_ 0 ?_;refine tz_ 1 ?_;refine tz_ 3 ?_;refine zw 2 rfl K_ (λ_=>⟨n0,F⟩) (λK hK=>?_);go_simp;apply(yR (pl:Int) _).mono;rintro e w' ⟨rfl,rfl⟩;refine hK _ _ ?_;refine tz_ 4 ?_;refine t1_ 5 ⟨n0,F⟩ ?_;have U:∀{a:Addr} {x:Value},k.cell? a=some x->(k.drew.alloc (.cells #[I_ pl,.iface et ex] 181)).cell? a=some x:=@λa x h=>(World.cell?_alloc_lt (k.drew) _ a (by exact World.block_lt_of_cell? k a h)).trans h;refine t1_ 6 ⟨U n0,U F⟩ ?_;refine t1_ 7 ⟨U n0,U F⟩ ?_;refine td_ ?_ _;go_wp2;try go_ret
    rw[Q_.o];have M:=(z.o.trans X u_).trans i u_;have b6:=M.size;refine⟨_,rfl,(M.alloc _).drew,?_⟩;rw[N.o];exact⟨k.heap.size,b6,rfl,(B_ k _ _).drew⟩
   .rw[n_ V,bk_]at he;have b4:=zy (mO.2 V);have a4:H_ (∀k,Fr ((wr.alloc (.cells #[I_ pl,U_ l,.iface T x] 173)).alloc (.cells #[S_ g q n,.nilIface] 55)) k N_->Calls prog 71 #[.agg #[S_ g ds.length n,.iface rT rx],.iface T x] k (yX k (.iface et ex) (qu (zx ds) b))):=zy (λk G=>mz (D1.o.fr G u_) (B1.o.fr G u_) (R.o.fr G id) Y (λg hg=>bb_ (b7.o g hg) (ak_ X.o.size G.size)));cases hu:qu (zx ds) b with
    |nil=>
     rw[hu,bk_]at he;replace he:=zy he;replace hu:=zy hu;go_wp2_with (first
      |(go_at_call 69;apply L.o.mono;rintro e k ⟨I,rfl,i,j⟩;rw[b4.o]at j;replace j:I=.nilIface:=j;subst j;have n2:=(i.bl J id).c2;have B:=i.bl S id;have z0:=B.c0;have z1:=B.c1;replace i:=zy i)
      |(go_at_call 71;apply(a4.o k i).mono;rintro e w3 ⟨v3,rfl,C,E⟩;rw[hu.o]at E;replace E:v3=.nilIface:=E;subst E;replace C:=zy C))
     go_roundg (ds.length+1-(q+1));case measure=>omega
     case rel=>exact⟨q+1,rfl,a3,l_,(X.o.trans i u_).trans C u_,by rw[Z];exact he⟩
    |cons y r=>
     rw[hu,bi_]at he;have N:=zy (show xY ds t=y::(r++wo (zx ds) ((ds.take q).map PD.letter++[l]) (ds.drop (q+1))++xF (zx ds) (zZ t)) by unfold xY;rw[he];rfl);replace hu:=zy hu;go_wp2_with (first
      |(go_at_call 69;apply L.o.mono;rintro e k ⟨I,rfl,i,j⟩;rw[b4.o]at j;replace j:I=.nilIface:=j;subst j;have n2:=(i.bl J id).c2;have B:=i.bl S id;have z0:=B.c0;have z1:=B.c1;replace i:=zy i)
      |(go_at_call 71;apply(a4.o k i).mono;rintro e w3 ⟨v3,rfl,C,E⟩;rw[hu.o]at E;obtain⟨g3,e2,rfl,U⟩:=E;replace C:=zy C;replace U:=zy U))
     try go_ret
     rw[Q_.o];have M:=(z.o.trans X u_).trans i u_;have b6:=M.size;refine⟨_,rfl,M.trans C u_,?_⟩;rw[N.o];exact⟨g3,M_,rfl,U⟩
  .have d6:¬((q:Int)<(ds.length:Int)):=M_;rw[bx_ M_,wo]at he;have N:=zy (show xY ds t=xF (zx ds) (zZ t) by unfold xY;rw[he];rfl);have L:=zy (Zc _ t l_ b9 wr P s ds (.slice sa ds.length n) (.iface rT rx) (.iface rT rx) xs et ex (O.o.fr hf u_) (b8.o.fr hf u_) (a5.o.fr hf id));replace hf:=zy hf;go_wp2_with (go_at_call 72;apply L.o.mono;rintro e k ⟨I,rfl,i,j⟩;replace i:=zy i;replace j:=zy j);try go_ret
   rw[Q_.o];have hF:=z.o.trans hf u_;have hs:=hF.size;refine⟨I,rfl,hF.trans i u_,?_⟩;rw[N.o];have F:=j.o;cases hu:xF (zx ds) (zZ t) with
   |nil=>rw[hu]at F;exact F
   |cons y r=>rw[hu]at F;exact F.ls hs
def dj:PT->Prop
 | .wrap c _ _=>c=91\/c=123
 | _=>True
def dC(h:TyV w P t v)(hw:dj t):Calls prog 105 #[v] w λe w'=>e=.returned (.bool (decide (t.kind=40)))/\Fr w w' N_:=by
 cases h with
 |base c p hc=>
  have hk:decide ((PT.leaf c p).kind=40)=false:=by
   simp only[zu,au_,beq_iff_eq]at hc;exact decide_eq_false (by simp only[PT.kind];omega)
  rw[hk];obtain⟨u,hu⟩:=e_ (vi c);rw[<- hu];have hn:=jx c;rw[<- hu]at hn;have a:=vy u hn.2.2.1;clear hu hn hk;go_in;go_wp2;try go_ret
  exact⟨rfl,(A_ w _).alloc _⟩
 |name c p hc=>
  have hk:decide ((PT.leaf c p).kind=40)=false:=by
   simp only[zp,ax_,decide_eq_true_eq]at hc;exact decide_eq_false (by simp only[PT.kind];omega)
  rw[hk];have a:=vy 213 D_;clear hk;go_in;go_wp2;try go_ret
  exact⟨rfl,(A_ w _).alloc _⟩
 |wrap c p h=>
  rename_i d k;have hk:decide ((PT.wrap c p d).kind=40)=false:=by
   refine decide_eq_false ?_;show ¬(c=40);rcases hw with h|h<;>omega
  rw[hk];obtain⟨u,hu,hn⟩:∃u,u=jO c/\u≠210:=⟨jO c,rfl,by unfold jO;split<;>decide⟩;rw[<- hu];have a:=vy u hn;clear hu hn hk;go_in;go_wp2;try go_ret
  exact⟨rfl,(A_ w _).alloc _⟩
 |alts p X ho hP h=>
  rename_i l sv;have a:=wY;have hk:decide ((PT.alts p l).kind=40)=true:=rfl;rw[hk];obtain⟨i,j,rfl⟩:=zl ho;clear ho hP h hk;go_in;go_wp2;try go_ret
  exact⟨rfl,(A_ w _).alloc _⟩
def bW(h:TyV w P t v)(hw:dj t)(a:t.kind≠40):Calls prog 107 #[v] w λe w'=>e=.returned (U_ t.kind)/\Fr w w' N_:=by
 cases h with
 |base c p hc=>
  simp only[zu,au_,beq_iff_eq]at hc;simp only[PT.kind];rcases hc with(((rfl|rfl)|rfl)|rfl)|rfl
  .rw[show vi 110=199 from rfl];go_in;go_wp2;try go_ret
   exact⟨rfl,(A_ w _).alloc _⟩
  .rw[show vi 116=201 from rfl];go_in;go_wp2;try go_ret
   exact⟨rfl,(A_ w _).alloc _⟩
  .rw[show vi 105=202 from rfl];go_in;go_wp2;try go_ret
   exact⟨rfl,(A_ w _).alloc _⟩
  .rw[show vi 108=203 from rfl];go_in;go_wp2;try go_ret
   exact⟨rfl,(A_ w _).alloc _⟩
  .rw[show vi 115=204 from rfl];go_in;go_wp2;try go_ret
   exact⟨rfl,(A_ w _).alloc _⟩
 |name c p hc=>
  simp only[PT.kind];go_in;go_wp2;try go_ret
  exact⟨rfl,(A_ w _).alloc _⟩
 |wrap c p h=>
  obtain⟨d,d,rfl⟩:=h.iface;simp only[PT.kind];rcases hw with rfl|rfl
  .rw[show jO 91=206 from rfl];go_in;go_wp2;try go_ret
   exact⟨rfl,(A_ w _).alloc _⟩
  .rw[show jO 123=207 from rfl];go_in;go_wp2;try go_ret
   exact⟨rfl,(A_ w _).alloc _⟩
 |alts p X ho hP h=>exact absurd rfl a
def dH{l:List PT}{X:Nat->Value}{n k:Nat}{ys:List Value}(ho:w.ownsRow 0 53 1 sv n ys)(hn:n<=l.length)(a:∀g,sv.ownBlock=some g->P g)(hy:∀i t,i<n->l[i]?=some t->ys[i]?=some (X i)/\TyV w P t (X i))(C:∀t∈l,dj t)(A:∀t∈l.take n,t.kind≠40)(a:n<=300):Calls prog 106 #[sv,U_ k] w λe w'=>e=.returned (.bool (decide (k∈(l.take n).map PT.kind)))/\Fr w w' N_:=by
 refine hq_ λa z=>?_;obtain⟨a,a,rfl⟩:=zl ho;have start:H_ (∃q:Nat,Value.int .i64 0=I_ q/\q<=n/\n+1-q<=n+1/\Fr w w N_/\k∉(l.take q).map PT.kind):=zy ⟨0,rfl,al_ _,M_,A_ _ _,by simp⟩;replace ho:=zy ho;replace hy:=zy hy;go_in;go_wp2;go_loopg [9] (n+1) (λm v W=>∃q:Nat,v=I_ q/\q<=n/\n+1-q<=m/\Fr w W N_/\k∉(l.take q).map PT.kind);case atStart=>exact start
 case round=>
  obtain⟨q,rfl,a,hm,hf,he⟩:=hrel;by_cases u:q<n
  .have B:(q:Int)<(n:Int):=M_;have a:q<l.length:=M_;have hd:l[q]?=some l[q]:=af_ a;have d:l[q]∈l:=a0_ a;have j:l[q]∈l.take n:=by
    rw[List.mem_iff_getElem?];exact⟨q,by rw[b7_,i_ u];exact hd⟩
   generalize l[q]=t at hd d j;obtain⟨g,cap,a⟩:=zm ho M_;cases a;obtain⟨y,a⟩:=hy.o q t u hd;obtain⟨T,x,e⟩:=a.iface;rw[e]at y a;have c0:=zr (zj ho hf u_) rfl y;have r:=zy (bW (a.fr hf u_) (C t d) (A t j));have d:(l.take (q+1)).map PT.kind=(l.take q).map PT.kind++[t.kind]:=by rw[bf_,hd];simp
   obtain⟨j,A⟩:=x_ t.kind;rw[A]at r d;replace hf:=zy hf;by_cases hk:j=k
   .subst hk;have y:H_ (j∈(l.take n).map PT.kind):=zy (by
     have:(l.take (q+1)).map PT.kind <+: (l.take n).map PT.kind:=(List.take_prefix_take_left M_).map PT.kind
     exact this.subset (by rw[d];simp))
    go_wp2_with (go_at_call 107;apply r.o.mono;rintro e A ⟨rfl,a⟩;replace a:=zy a);try go_ret
    rw[z.o];exact⟨by rw[decide_eq_true y.o];rfl,hf.o.trans a u_⟩
   .have y:((j:Int)==(k:Int))=false:=by simp;omega
    have j:=zy (show k∉(l.take (q+1)).map PT.kind by rw[d,a2_,a1_];rintro(h|h);exact he h;exact hk h.symm);go_wp2_with (go_at_call 107;apply r.o.mono;rintro e A ⟨rfl,a⟩;replace a:=zy a);go_roundg (n+1-(q+1));case measure=>omega
    case rel=>exact⟨q+1,rfl,u,l_,hf.o.trans a u_,j⟩
  .have B:¬((q:Int)<(n:Int)):=M_;have a:q=n:=M_;rw[a]at he;replace he:=zy he;replace hf:=zy hf;go_wp2;try go_ret
   rw[z.o];exact⟨by rw[decide_eq_false he.o],hf⟩
end Go.Proofs.YtjkiencmjggakaaGreatDoor
