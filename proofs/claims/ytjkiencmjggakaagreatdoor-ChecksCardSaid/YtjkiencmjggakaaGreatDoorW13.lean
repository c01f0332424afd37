import Derived.Test.YtjkiencmjggakaaGreatDoorW12
import Derived.Laws.AppendOwnNone
set_option maxHeartbeats 16000000
set_option maxRecDepth 100000
set_option linter.defProp false
set_option linter.unusedSimpArgs false
open Go.Proofs.Tryz
namespace Go.Proofs.YtjkiencmjggakaaGreatDoor
open Go.RowKit
variable {q c g n:Nat}{xs:List Value}{Y:Nat->Value}{t:PT}{fs:List PF}
def bu(t:PT):Prop:=∀(w:World) (P:Nat->Prop) (v:Value) (et:TypeId) (ex:Value),TyV w P t v->ji 2 w et ex->
 Calls prog 74 #[v] w (yX w (.iface et ex) (xv t))
def Vj(c p:Nat):bu (.leaf c p):=by
 intro w P v a a hv f;refine hq_ λa e=>?_;obtain⟨u,x,rfl,h1,a,b⟩:∃u x,v=.iface u x/\u≠206/\u≠207/\u≠210:=by
  cases hv with
  |base _ _ h=>exact⟨_,_,rfl,(jx c).1,(jx c).2.1,(jx c).2.2.1⟩
  |name _ _ h=>exact⟨_,_,rfl,D_,D_,D_⟩
 have j:=qN u h1;have j:=wX u a;have j:=vy u b;go_in;go_wp2;try go_ret
 rw[e.o];refine⟨.nilIface,rfl,A_ w _,?_⟩;rw[xv]
def Vv(c p:Nat)(t:PT)(u:bu t):bu (.wrap c p t):=by
 intro w P v y z hv l;refine hq_ λa k=>?_;obtain⟨f,j,rfl⟩:∃f,TyV w P t f/\v=.iface (jO c) (.agg #[I_ p,f]):=by
  cases hv with
  |wrap _ _ h=>exact⟨_,h,rfl⟩
 obtain⟨a,b,rfl⟩:=j.iface;have m:H_ (∀T,Calls prog 74 #[.iface a b] (w.alloc (.cells #[I_ p,.iface a b] T)) (yX (w.alloc (.cells #[I_ p,.iface a b] T)) (.iface y z) (xv t))):=zy (λT=>by
  have hf:Fr w (w.alloc (.cells #[I_ p,.iface a b] T)) N_:=(A_ w _).alloc _
  exact u _ P _ _ _ (j.fr hf u_) (l.fr hf id))
 by_cases hc:c=91
 .subst hc;simp only[jO,if_true];go_in;go_wp2_with (go_at_call 74;apply(m.o _).mono;rintro e l ⟨f,rfl,b,hm⟩;replace b:=zy b;replace hm:=zy hm);try go_ret
  rw[k.o];refine⟨f,rfl,((A_ w N_).alloc _).trans b u_,?_⟩;rw[xv];have a:=hm.o;cases j:xv t with
  |nil=>rw[j]at a;exact a
  |cons x r=>rw[j]at a;exact a.ls (by simp)
 .simp only[jO,n_ hc];go_in;go_wp2_with (go_at_call 74;apply(m.o _).mono;rintro e l ⟨f,rfl,b,hm⟩;replace b:=zy b;replace hm:=zy hm);try go_ret
  rw[k.o];refine⟨f,rfl,((A_ w N_).alloc _).trans b u_,?_⟩;rw[xv];have a:=hm.o;cases j:xv t with
  |nil=>rw[j]at a;exact a
  |cons x r=>rw[j]at a;exact a.ls (by simp)
def Zy{l:List PT}(h:l[q]?=some t)(a:List Nat):jU a (l.drop q)=(if t.kind=40\/t.kind∈a then [t.place] else [])++(xv t++jU (a++[t.kind]) (l.drop (q+1))):=by
 have hl:=(ae_.1 h).1;rw[ba_ hl,jU,(ae_.1 h).2]
def KU{w:World}{e:TypeId}{m cap:Nat}(h:w.ownsRow 0 e 1 (S_ g m cap) n xs)(r:q<=n):w.ownsRow 0 e 1 (S_ g q cap) q (xs.take q):=by
 obtain⟨h1,b⟩:=h;refine⟨by rw[List.length_take,h1];omega,.inr ?_⟩;rcases b with⟨e,_⟩|⟨g',p,a,e,f,j,u,k,l,o⟩
 .cases e
 .cases e;refine⟨g,cap,a,rfl,f,j,M_,k,l,?_⟩;rw[<- o,List.take_take]
  congr 1
  omega
def GX(w0:World)(l:List PT)(m:Nat)(v:Value)(W:World):Prop:=
 ∃q:Nat,v=I_ q/\q<=l.length/\l.length+1-q<=m/\Fr w0 W N_/\jU [] l=jU ((l.take q).map PT.kind) (l.drop q)/\∀t∈l.take q,t.kind≠40
def kA{w:World}{P:Nat->Prop}{T:TypeId}{x:Value}(h:TyV w P t (.iface T x)):∀W,(method 525 T x "Place").run prog W=.ok (70,I_ t.place) W:=by
 cases h with
 |base c p hc=>
  simp only[zu,au_,beq_iff_eq]at hc;rcases hc with(((rfl|rfl)|rfl)|rfl)|rfl
  .intro W;show(method 525 199 (.agg #[I_ p]) "Place").run prog W=_;kernel_rfl
  .intro W;show(method 525 201 (.agg #[I_ p]) "Place").run prog W=_;kernel_rfl
  .intro W;show(method 525 202 (.agg #[I_ p]) "Place").run prog W=_;kernel_rfl
  .intro W;show(method 525 203 (.agg #[I_ p]) "Place").run prog W=_;kernel_rfl
  .intro W;show(method 525 204 (.agg #[I_ p]) "Place").run prog W=_;kernel_rfl
 |name c p hc=>intro W;kernel_rfl
 |wrap c p h=>
  intro W;unfold jO;split
  .kernel_rfl
  .kernel_rfl
 |alts p X ho hP h=>intro W;kernel_rfl
def Vq(p:Nat)(l:List PT)(a:l.length<=300)(U:∀t∈l,dj t)(ih:∀t∈l,bu t):bu (.alts p l):=by
 intro w P v j z hv A;refine hq_ λa O=>?_;obtain⟨X,a,ho,hP,hX,rfl⟩:∃X a,w.ownsRow 0 53 1 a l.length ((List.range l.length).map X)/\(∀g,a.ownBlock=some g->P g)/\(∀i t,l[i]?=some t->TyV w P t (X i))/\v=.iface 210 (.agg #[I_ p,a]):=by
  cases hv with
  |alts _ X ho hP h=>exact⟨X,_,ho,hP,h,rfl⟩
 obtain⟨ba,a,rfl⟩:=zl ho;obtain⟨w0,b⟩:=e_ (w.alloc (.cells #[I_ p,.slice ba l.length a] 210));have H:Fr w w0 N_:=by rw[b];exact(A_ w _).alloc _
 have f:Blk w0 w.heap.size [I_ p,.slice ba l.length a] 210:=by rw[b];exact B_ w #[I_ p,.slice ba l.length a] 210
 have G:=zy (A.fr H id);have C:=zy (zj ho H u_);have F:=zy (λi t e=>(hX i t e).fr H u_);replace f:=zy f;replace H:=zy H;have start:H_ (GX w0 l (l.length+1) (O_) w0):=zy ⟨0,rfl,al_ _,M_,A_ _ _,rfl,λt A=>by simp at A⟩;have A:=qN 210 D_;have D:=wX 210 D_;have E:=wY;replace ih:=zy ih;replace U:=zy U;go_in;go_wp2;rw[<- b];go_loopg [6,28] (l.length+1) (λm u v W=>GX w0 l m v W);case atStart=>exact start
 case round=>
  obtain⟨q,rfl,b,hm,hf,he,a5⟩:=hrel;have D:=hf.bl f id;by_cases M:q<l.length
  .have a7:(q:Int)<(l.length:Int):=M_;have hd:l[q]?=some l[q]:=af_ M;have a4:l[q]∈l:=a0_ M;generalize l[q]=t at hd a4;obtain⟨g,cap,b⟩:=zm C M_;cases b;have b:=zj C hf u_;have I:=λi t e=>(F.o i t e).fr hf u_;obtain⟨T,x,c0,A⟩:=bE b I hd;have f:(q:Int)<=(a:Int):=by
    obtain⟨_,f⟩:=C.o;rcases f with⟨e,_⟩|⟨g',f,f,e,f,f,f,f,f,f⟩
    .cases e
    .cases e;omega
   have R:=U.o t a4;have N:=KU b (Nat.le_of_lt M);rw[Zy hd]at he;have Z:(l.take (q+1)).map PT.kind=(l.take q).map PT.kind++[t.kind]:=by rw[bf_,hd];simp
   have F:=G.o.fr hf id;have a2:=zy (H.o.trans hf u_);have c1:=D.c1;have a6:=zy (And.intro D (And.intro F (And.intro N (And.intro I (And.intro A hf)))));go_wp2;have f:zq wr wr.drew:=zq.drew wr;obtain⟨D,F,N,I,A,hf⟩:=a6.o;have b:Fr wr wr.drew N_:=(A_ wr _).si f;refine tR_ (λW=>f_ W w.heap.size 1 (S_ g l.length a)) ?_;refine tY_ 0 ?_;refine zL 1 rfl K_ c1 (λK a=>?_);go_simp;apply(dC (A.fr b u_) R).mono;rintro e E ⟨rfl,C⟩;refine a _ _ ?_;have f:Fr wr E N_:=b.trans C u_;have c2:=(f.bl D id).c1;by_cases J:t.kind=40
   .rw[decide_eq_true J];rw[i_ (.inl J)]at he;have G:=zy (show xv (.alts p l)=t.place::(xv t++jU ((l.take q).map PT.kind++[t.kind]) (l.drop (q+1))) by rw[xv,he];rfl);refine tY_ 2 ?_;refine xS 3 rfl K_ (λ_ _ _ h=>h) K_ ?_;refine xS 4 rfl K_ (λ_ _ _ h=>h) K_ ?_;refine xS 5 rfl K_ (λ_ _ _ h=>h) K_ ?_;refine xS 6 rfl K_ (λ_ _ _ h=>h) K_ ?_;refine xS 7 rfl K_ (λ_ _ _ h=>h) K_ ?_;refine xS 8 rfl K_ (λ_ _ _ h=>h) K_ ?_;refine xS 9 rfl K_ (λ_ _ _ h=>h) K_ ?_;refine t2_ 10 c2 ?_;refine yh K_ c2 ?_ _;have b:=F.fr f id;have a3:=A.fr f u_;replace f:=zy f;replace b:E.cell? ⟨2,0,none⟩=some (.iface j z):=b;have a8:=kA a3;go_wp2;refine tr_ 6 (λW=>f_ W 2 0 (.iface j z)) ?_;refine tz_ 0 ?_;refine tz_ 2 ?_;refine zw 1 rfl K_ (λ_=>b) (λK a=>?_);go_simp;apply(yR (t.place:Int) _).mono;rintro e w' ⟨rfl,rfl⟩;refine a _ _ ?_;refine tz_ 3 ?_;refine t1_ 4 b ?_;have L:(E.drew.alloc (.cells #[I_ t.place,.iface j z] 181)).cell? ⟨2,0,none⟩=some (.iface j z):=(World.cell?_alloc_lt (E.drew) _ ⟨2,0,none⟩ (by exact World.block_lt_of_cell? E ⟨2,0,none⟩ b)).trans b;refine t1_ 5 L ?_;refine t1_ 6 L ?_;refine td_ ?_ _;go_wp2;try go_ret
    rw[O.o];have C:=a2.o.trans f u_;have V:=C.size;refine⟨_,rfl,(C.alloc _).drew,?_⟩;rw[G.o];exact⟨E.heap.size,V,rfl,(B_ E _ _).drew⟩
   .rw[decide_eq_false J];have a1:=bW (A.fr f u_) R J;refine tY_ 2 ?_;refine tY_ 3 ?_;refine tY_ 4 ?_;refine tY_ 5 ?_;refine tY_ 6 ?_;refine tY_ 7 ?_;refine zL 8 rfl K_ c2 (λK a=>?_);go_simp;apply a1.mono;rintro e w3 ⟨rfl,E⟩;refine a _ _ ?_;have R:Fr wr w3 N_:=f.trans E u_;have c3:=(R.bl D id).c1;have a0:=dH (l:=l) (X:=X) (k:=t.kind) (zj N R u_) (Nat.le_of_lt M) hP (λi u hi hu=>⟨by rw[b7_,i_ hi,aq_,b9_ M_];rfl,(I i u hu).fr R u_⟩) U a5 M_;refine zL 9 rfl K_ c3 (λK a=>?_);go_simp;apply a0.mono;rintro e E ⟨rfl,U⟩;refine a _ _ ?_;have f:Fr wr E N_:=R.trans U u_;have c4:=(f.bl D id).c1;by_cases R:t.kind∈(l.take q).map PT.kind
    .rw[decide_eq_true R];rw[i_ (.inr R)]at he;have G:=zy (show xv (.alts p l)=t.place::(xv t++jU ((l.take q).map PT.kind++[t.kind]) (l.drop (q+1))) by rw[xv,he];rfl);refine t2_ 10 c4 ?_;refine yh K_ c4 ?_ _;have b:=F.fr f id;have a3:=A.fr f u_;replace f:=zy f;replace b:E.cell? ⟨2,0,none⟩=some (.iface j z):=b;have a8:=kA a3;go_wp2;refine tr_ 6 (λW=>f_ W 2 0 (.iface j z)) ?_;refine tz_ 0 ?_;refine tz_ 2 ?_;refine zw 1 rfl K_ (λ_=>b) (λK a=>?_);go_simp;apply(yR (t.place:Int) _).mono;rintro e w' ⟨rfl,rfl⟩;refine a _ _ ?_;refine tz_ 3 ?_;refine t1_ 4 b ?_;have L:(E.drew.alloc (.cells #[I_ t.place,.iface j z] 181)).cell? ⟨2,0,none⟩=some (.iface j z):=(World.cell?_alloc_lt (E.drew) _ ⟨2,0,none⟩ (by exact World.block_lt_of_cell? E ⟨2,0,none⟩ b)).trans b;refine t1_ 5 L ?_;refine t1_ 6 L ?_;refine td_ ?_ _;go_wp2;try go_ret
     rw[O.o];have C:=a2.o.trans f u_;have V:=C.size;refine⟨_,rfl,(C.alloc _).drew,?_⟩;rw[G.o];exact⟨E.heap.size,V,rfl,(B_ E _ _).drew⟩
    .rw[decide_eq_false R];rw[n_ (λh=>h.elim J R),bk_]at he;refine t2_ 10 c4 ?_;refine yh K_ c4 ?_ _;have L:=zy (ih.o t a4 E P (.iface T x) j z (A.fr f u_) (F.fr f id));replace f:=zy f;cases hu:xv t with
     |nil=>
      rw[hu,bk_]at he;replace he:=zy he;replace hu:=zy hu;go_wp2_with (go_at_call 74;apply L.o.mono;rintro e A ⟨z,rfl,a,b⟩;rw[hu.o]at b;replace b:z=.nilIface:=b;subst b;replace a:=zy a);go_roundg (l.length+1-(q+1));case measure=>omega
      case rel=>
       obtain⟨_,_,_,_,_,hf⟩:=a6.o;refine⟨q+1,rfl,M,l_,(hf.trans f u_).trans a u_,by rw[Z];exact he,λu j=>?_⟩;rw[bf_,hd]at j;rcases a2_.1 j with h|h
       .exact a5 u h
       .simp only[Option.toList_some,a1_]at h;rw[h];exact J
     |cons y r=>
      rw[hu,bi_]at he;have G:=zy (show xv (.alts p l)=y::(r++jU ((l.take q).map PT.kind++[t.kind]) (l.drop (q+1))) by rw[xv,he]);replace hu:=zy hu;go_wp2_with (go_at_call 74;apply L.o.mono;rintro e A ⟨z,rfl,a,b⟩;rw[hu.o]at b;obtain⟨z,j,rfl,j⟩:=b;replace a:=zy a;replace j:=zy j);try go_ret
      rw[O.o];have C:=a2.o.trans f u_;have V:=C.size;refine⟨_,rfl,C.trans a u_,?_⟩;rw[G.o];exact⟨z,M_,rfl,j⟩
  .have a7:¬((q:Int)<(l.length:Int)):=M_;rw[bx_ M_,jU]at he;have G:=zy (show xv (.alts p l)=[] by rw[xv,he]);replace hf:=zy hf;go_wp2;try go_ret
   rw[O.o];refine⟨.nilIface,rfl,H.o.trans hf u_,?_⟩;rw[G.o]
def Yj:∀(n:Nat) (t:PT),SizeOf.sizeOf t<=n->xJ t->shT t->bu t:=by
 intro n;induction n with
 |zero=>intro t h;cases t<;>simp at h
 |succ n ih=>
  intro t h hb hs;cases t with
  |leaf c p=>exact Vj c p
  |wrap c p t=>
   unfold xJ at hb;unfold shT at hs;exact Vv c p t (ih t (by simp at h;omega) hb hs.2)
  |alts p ts=>
   unfold xJ at hb;unfold shT at hs;have b:∀t∈ts,shT t:=by
    have:=hs.2;clear hs hb h;induction ts with
    |nil=>intro t a;simp at a
    |cons x r ihr=>
     unfold cC at this;intro t a;rcases ao_.1 a with rfl|a
     .exact this.1
     .exact ihr this.2 t a
   refine Vq p ts hb.1 (λt a=>?_) (λt a=>ih t (by have:=List.sizeOf_lt_of_mem a;simp at h;omega) (hb.2 t a) (b t a));have:=b t a;cases t with
   |wrap c p t=>unfold shT at this;exact this.1
   |leaf c p=>trivial
   |alts p l=>trivial
def xo.append{w:World}{P:Nat->Prop}{s:BA}{j:List PF}{ys:List Value}(h:xo w P s fs xs)(k:xo w P s j ys)(hl:xs.length=fs.length*4):xo w P s (fs++j) (xs++ys):=λi f e=>by
 by_cases hi:i<fs.length
 .rw[ar_ hi]at e;obtain⟨a,b,c,d,h1,j,l,m,o⟩:=h i f e;exact⟨a,b,c,d,by rw[ar_ M_];exact h1,by rw[ar_ M_];exact j,by rw[ar_ M_];exact l,by rw[ar_ M_];exact m,o⟩
 .rw[as_ M_]at e;obtain⟨a,b,c,d,h1,j,l,m,o⟩:=k _ f e;refine⟨a,b,c,d,?_,?_,?_,?_,o⟩
  .rw[as_ M_,show 4*i-xs.length=4*(i-fs.length) by omega];exact h1
  .rw[as_ M_,show 4*i+1-xs.length=4*(i-fs.length)+1 by omega];exact j
  .rw[as_ M_,show 4*i+2-xs.length=4*(i-fs.length)+2 by omega];exact l
  .rw[as_ M_,show 4*i+3-xs.length=4*(i-fs.length)+3 by omega];exact m
def xo.one{w:World}{P:Nat->Prop}{s:BA}(h:xo w P s fs xs)(hl:xs.length=fs.length*4):∀u∈xs,u.oneCell'=true:=by
 intro u hu;obtain⟨j,f⟩:=List.mem_iff_getElem?.1 hu;have k:=(ae_.1 f).1;have r:j / 4<fs.length:=M_;obtain⟨a,b,c,d,h1,l,m,o,rfl,rfl,p,k⟩:=h (j / 4) _ (af_ r);have hr:j=4*(j / 4)\/j=4*(j / 4)+1\/j=4*(j / 4)+2\/j=4*(j / 4)+3:=M_;rcases hr with e|e|e|e
 .rw[<- e,f]at h1;simp only[ah_]at h1;rw[h1];rfl
 .rw[<- e,f]at l;simp only[ah_]at l;rw[l];rfl
 .rw[<- e,f]at m;simp only[ah_]at m;obtain⟨T,x,q⟩:=p.iface;rw[m,q];rfl
 .rw[<- e,f]at o;simp only[ah_]at o;have:∃f,d=.pointer f:=by
   unfold DfV at k;split at k
   .exact⟨_,k⟩
   .obtain⟨g',l,_,e,_⟩:=k;exact⟨_,e⟩
  obtain⟨f,q⟩:=this;rw[o,q];rfl
def lh{ds:List PD}{d:PD}(h:ds[q]?=some d):zk (ds.take (q+1))=zk (ds.take q)++d.body.fs:=by
 unfold zk;rw[bf_,h];simp
def Kx(w0:World)(P:Nat->Prop)(s:BA)(ds:List PD)(m:Nat)(fv v:Value)(W:World):Prop:=
 ∃(q:Nat) (ys:List Value),v=I_ q/\q<=ds.length/\ds.length+1-q<=m/\Fr w0 W N_/\W.ownsRow w0.heap.size 189 4 fv (zk (ds.take q)).length ys/\xo W P s (zk (ds.take q)) ys
def iO{ds:List PD}(q:Nat):(zk (ds.take q)).length<=(zk ds).length:=by
 have h:zk ds=zk (ds.take q)++zk (ds.drop q):=by
  unfold zk;rw[<- be_,List.take_append_drop]
 rw[h,ai_];omega
def bG{w:World}{P:Nat->Prop}{s:BA}{ds:List PD}{sv rv:Value}(D:xf w P s ds sv xs)(f0:(zk ds).length<=300)(N:∀g,P g->g<w.heap.size):Calls prog 73 #[.agg #[sv,rv]] w λe w'=>∃fv ys,e=.returned fv/\Fr w w' N_/\xB w' (λg=>P g\/w.heap.size<=g) s (zk ds) fv ys:=by
 refine hq_ λe5 Q_=>?_;obtain⟨sa,sc,rfl⟩:=zl D.row;have e9:=D.len;obtain⟨w0,K⟩:=e_ (w.alloc (.cells #[.slice sa ds.length sc,rv] 55));have J:Fr w w0 N_:=by rw[K];exact(A_ w _).alloc _
 have f3:w0.heap.size=w.heap.size+1:=by rw[K];simp
 have X:=zy (D.fr J u_);have start:H_ (Kx w0 P s ds (ds.length+1) (L_) (O_) w0):=zy ⟨0,[],rfl,al_ _,M_,A_ _ _,World.ownsRow_nil _ _ _ _,λi f e=>by simp[zk]at e⟩;replace J:=zy J;replace N:=zy N;go_in;go_wp2;rw[<- K];go_loopg [3,11] (ds.length+1) (λm u v W=>Kx w0 P s ds m u v W);case atStart=>exact start
 case round=>
  obtain⟨q,ys,rfl,hq,hm,hf,b,A⟩:=hrel;have f2:=hf.size;obtain⟨n,hn⟩:=x_ ((zk (ds.take q)).length);rw[hn]at b;obtain⟨fa,fc,rfl⟩:=zl b;by_cases R:q<ds.length
  .have e1:(q:Int)<(ds.length:Int):=M_;have hd:ds[q]?=some ds[q]:=af_ R;generalize ds[q]=d at hd;obtain⟨g,cap,b9⟩:=zm X.o.row M_;cases b9;have Z:=X.o.fr hf u_;obtain⟨T,x,c0,c1,c2,hb⟩:=Z.cells hd;have l:=lh hd;have O:=iO (ds:=ds) (q+1);rw[l,ai_]at O;rw[hn]at O;obtain⟨pl,a7⟩:=x_ d.place;obtain⟨lt,a4⟩:=x_ d.letter;rw[a7]at c0;rw[a4]at c1;have r:=(A_ wr N_).alloc (.cells #[I_ pl,U_ lt,.iface T x] 173);have G:=zj b r u_;have C:=A.fr r u_;have I:=hb.fr r u_;have F:=hf.trans r u_;generalize b5:d.body=bd at hb I l O;have V:H_ (∀W,bd.fs=[]->Fr (wr.alloc (.cells #[I_ pl,U_ lt,.iface T x] 173)) W N_->Kx w0 P s ds (ds.length+1-(q+1)) (.slice fa n fc) (z_ ((q:Int)+1)) W):=zy (λW a1 E=>⟨q+1,ys,rfl,R,l_,F.trans E u_,by rw[l,a1,b3_,hn];exact zj G E u_,by rw[l,a1,b3_];exact C.fr E u_⟩);cases hb with
   |enum p ho hP hu hp=>
    go_wp2;go_roundg (ds.length+1-(q+1));case measure=>omega
    case rel=>exact V.o _ rfl ((A_ _ _).alloc _)
   |bytes p k=>
    go_wp2;go_roundg (ds.length+1-(q+1));case measure=>omega
    case rel=>exact V.o _ rfl ((A_ _ _).alloc _)
   |recd p ho hP h hp=>
    rename_i fs f4 zs;obtain⟨L,rc,rfl⟩:=zl ho;obtain⟨ti,a3,d2,d6,d7⟩:=info_parts iT;have z:=(A_ (wr.alloc (.cells #[I_ pl,U_ lt,.iface 215 (.agg #[I_ p,.slice L fs.length rc])] 173)) N_).alloc (.cells #[I_ p,.slice L fs.length rc] 215);have H:=zy (zj G z u_);have a9:=zy (C.fr z u_);have b6:=zy (F.trans z u_);have e8:fs.length<=300:=by have:(PB.recd fs).fs.length=fs.length:=rfl;omega
    have a6:=ho.1;have e4:=zy (h.one a6);have a8:=zy ((h.fr ((A_ wr N_).alloc (.cells #[I_ pl,U_ lt,.iface 215 (.agg #[I_ p,.slice L fs.length rc])] 173)) u_).fr z u_);rcases ho.2 with⟨e,f1⟩|⟨a,e6,e7,e,k1,k2,k3,k4,k5,k6⟩
    .have b7:fs=[]:=List.length_eq_zero_iff.1 M_;subst b7;simp only[a7_,Value.slice.injEq,true_and]at e;obtain⟨rfl,rfl⟩:=e;go_wp2_with (at_builtin;go_must (refine wpList_append_own_none rfl _ _ 183 rfl w0.heap.size 189 ti 4 pY a3 (.slice fa n fc) n ys rfl H rfl ?_));go_roundg (ds.length+1-(q+1));case measure=>omega
     case rel=>exact V.o _ rfl ((A_ _ _).alloc _)
    .have e':L=some ⟨a,0,none⟩:=by cases e;rfl
     subst e';have e3:=zy (λ(W:World) (E:Fr wr W N_) j u (d8:zs[j]?=some u)=>(show W.cell? ((⟨a,0,none⟩:Addr).add j)=some u from by
      have:=zr (zj ho E u_) rfl d8
      unfold Addr.add
      split
      .rename_i h0;rw[h0]at this;exact this
      .simpa using this))
     have a0:=zy (λg (hg:P g)=>show ¬(Value.slice fa n fc).ownBlock=some g from λe0=>by have:=H.o.lt g e0;have:=N.o g hg;omega);have b4:=zy (show Fr wr ((wr.alloc (.cells #[I_ pl,U_ lt,.iface 215 (.agg #[I_ p,S_ a fs.length rc])] 173)).alloc (.cells #[I_ p,S_ a fs.length rc] 215)) N_ from((A_ wr _).alloc _).alloc _)
     go_wp2_with (at_builtin;go_must (refine wpList_append_own_at _ rfl _ _ 183 rfl w0.heap.size 189 ti _ 4 40 pY a3 d2 d6 d7 rfl D_ (.slice fa n fc) n ys rfl H ⟨a,0,none⟩ fs.length rc zs rfl a6 (e3.o _ b4) e4 ?b1 ?b2 ?b3 ?_)
                  case b1=>unfold maxLen;omega
                  case b2=>omega
                  case b3=>simp;omega
                  intro v5 w5 U a2 e2 d9
                  obtain⟨a5,c5,rfl⟩:=zl U
                  have hG:=zy a2
                  have hO:=zy U
                  clear a2 d9 e2 U)
     go_roundg (ds.length+1-(q+1));case measure=>omega
     case rel=>
      have M:Fr ((wr.alloc (.cells #[I_ pl,U_ lt,.iface 215 (.agg #[I_ p,S_ a fs.length rc])] 173)).alloc (.cells #[I_ p,S_ a fs.length rc] 215)) w5 (λg=>(Value.slice fa n fc).ownBlock=some g):=a_ (A_ _ _) hG (λk e _=>e);refine⟨q+1,ys++zs,rfl,R,l_,b6.o.trans M (λy hy e=>by have:=H.o.lt y e;omega),?_,?_⟩
      .rw[l,ai_,hn];exact hO
      .rw[l];exact xo.append (a9.o.fr M a0) (a8.o.fr M a0) (by rw[hn];exact H.o.1)
  .have e1:¬((q:Int)<(ds.length:Int)):=M_;rw[bv_ M_]at hn A;have b8:=zy (show xB wr (λg=>P g\/w.heap.size<=g) s (zk ds) (.slice fa n fc) ys from⟨by rw[hn];exact zS b,λg e=>.inr (by have:=b.lt g e;omega),A.mono (λg _ hg=>.inl hg)⟩);replace hf:=zy hf;go_wp2;try go_ret
   rw[Q_.o];exact⟨_,ys,rfl,J.o.trans hf u_,b8⟩
def QW{f:PF}(h:fs[q]?=some f):(fs.drop q).flatMap (λf=>xv f.ty)=xv f.ty++(fs.drop (q+1)).flatMap (λf=>xv f.ty):=by
 have hl:=(ae_.1 h).1;rw[ba_ hl,bm_,(ae_.1 h).2]
def pQ{w:World}{P:Nat->Prop}{s:BA}{ds:List PD}{sv rv:Value}{u:TypeId}{z:Value}(D:xf w P s ds sv xs)(a:TyV w P t rv)(b:ji 2 w u z)(C:(zk ds).length<=300)(I:∀f∈zk ds,xJ f.ty/\shT f.ty)(J:xJ t/\shT t)(j:∀g,P g->g<w.heap.size):Calls prog 45 #[.agg #[sv,rv]] w (yX w (.iface u z) (xZ ds t)):=by
 refine hq_ λh G=>?_;obtain⟨k,A,rfl⟩:=zl D.row;obtain⟨rT,rx,rfl⟩:=a.iface;have h:Fr w (w.alloc (.cells #[.slice k ds.length A,.iface rT rx] 55)) N_:=(A_ w _).alloc _;have E:=B_ w #[.slice k ds.length A,.iface rT rx] 55;have k:=zy (bG (rv:=.iface rT rx) (D.fr h u_) C (λg hg=>bb_ (j g hg) h.size));have M:=zy (a.fr h u_);have H:=zy (b.fr h id);replace E:=zy E;replace h:=zy h;go_in;go_wp2_with (go_at_call 73;apply k.o.mono;rintro e w1 ⟨fv,ys,rfl,j,b⟩;obtain⟨fa,fc,rfl⟩:=zl b.row;replace j:=zy j;replace b:=zy b);have start:H_ (∃q:Nat,Value.int .i64 0=I_ q/\q<=(zk ds).length/\(zk ds).length+1-q<=(zk ds).length+1/\Fr w1 w1 N_/\xZ ds t=((zk ds).drop q).flatMap (λf=>xv f.ty)++xv t):=zy ⟨0,rfl,al_ _,M_,A_ _ _,rfl⟩;go_loopg [9] ((zk ds).length+1) (λm v W=>∃q:Nat,v=I_ q/\q<=(zk ds).length/\(zk ds).length+1-q<=m/\Fr w1 W N_/\xZ ds t=((zk ds).drop q).flatMap (λf=>xv f.ty)++xv t);case atStart=>exact start
 case round=>
  obtain⟨q,rfl,k,hm,hf,he⟩:=hrel;by_cases k:q<(zk ds).length
  .have N:(q:Int)<((zk ds).length:Int):=M_;have hd:(zk ds)[q]?=some (zk ds)[q]:=af_ k;have C:(zk ds)[q]∈zk ds:=a0_ k;generalize (zk ds)[q]=f at hd C;obtain⟨g,cap,A⟩:=zm b.o.row M_;cases A;obtain⟨T,x,d,c0,c1,c2,c3,a,L⟩:=(b.o.fr hf u_).cells hd;rw[QW hd]at he;obtain⟨l,F⟩:=x_ f.letter;obtain⟨pl,K⟩:=x_ f.place;rw[F]at c1;rw[K]at c0;have b:=(A_ wr N_).alloc (.cells #[I_ pl,U_ l,.iface T x,.pointer d] 189);have A:=zy (Yj _ f.ty l_ (I f C).1 (I f C).2 _ _ _ u z (a.fr b u_) (((H.o.fr j id).fr hf id).fr b id));have I:=zy (hf.trans b u_);cases hu:xv f.ty with
   |nil=>
    rw[hu,bk_]at he;replace he:=zy he;replace hu:=zy hu;go_wp2_with (go_at_call 74;apply A.o.mono;rintro e K ⟨C,rfl,a,b⟩;rw[hu.o]at b;replace b:C=.nilIface:=b;subst b;replace a:=zy a);go_roundg ((zk ds).length+1-(q+1));case measure=>omega
    case rel=>exact⟨q+1,rfl,k,l_,I.o.trans a u_,he⟩
   |cons y r=>
    rw[hu,bi_,bi_]at he;replace he:=zy he;replace hu:=zy hu;go_wp2_with (go_at_call 74;apply A.o.mono;rintro e K ⟨C,rfl,a,b⟩;rw[hu.o]at b;obtain⟨L,k,rfl,F⟩:=b;replace a:=zy a;replace F:=zy F);try go_ret
    rw[G.o];have k:=(h.o.trans j u_).trans I u_;have I:=k.size;refine⟨_,rfl,k.trans a u_,?_⟩;rw[he.o];exact⟨L,M_,rfl,F⟩
  .have N:¬((q:Int)<((zk ds).length:Int)):=M_;rw[bx_ M_,List.flatMap_nil,bk_]at he;have F:=hf.bl (j.o.bl E id) id;have E:=F.c1;have A:=zy (Yj _ t l_ J.1 J.2 wr P (.iface rT rx) u z ((M.o.fr j u_).fr hf u_) ((H.o.fr j id).fr hf id));replace he:=zy he;replace hf:=zy hf;go_wp2_with (go_at_call 74;apply A.o.mono;rintro e K ⟨C,rfl,a,b⟩;replace a:=zy a;replace b:=zy b);try go_ret
   rw[G.o];have k:=(h.o.trans j u_).trans hf u_;have I:=k.size;refine⟨C,rfl,k.trans a u_,?_⟩;rw[he.o];have a:=b.o;cases hu:xv t with
   |nil=>rw[hu]at a;exact a
   |cons y r=>rw[hu]at a;exact a.ls I
def zA(w:World)(br:Nat)(sv rv:Value)(s:BA)(i:Nat)(nb:Bool):Prop:=Blk w br [sv,rv,.string s,I_ i,.bool nb] 253
section
variable {w w':World} {br:Nat} {sv rv:Value} {s:BA} {i:Nat} {nb:Bool}
def zA.c0(h:zA w br sv rv s i nb):w.cell? ⟨br,0,none⟩=some sv:=by rw[W_ h];rfl
def zA.c1(h:zA w br sv rv s i nb):w.cell? ⟨br,1,none⟩=some rv:=by rw[W_ h];rfl
def zA.c2(h:zA w br sv rv s i nb):w.cell? ⟨br,2,none⟩=some (.string s):=by rw[W_ h];rfl
def zA.c3(h:zA w br sv rv s i nb):w.cell? ⟨br,3,none⟩=some (I_ i):=by rw[W_ h];rfl
def zA.c4(h:zA w br sv rv s i nb):w.cell? ⟨br,4,none⟩=some (.bool nb):=by rw[W_ h];rfl
def zA.th(h:zA w br sv rv s i nb)(o:Nat):w.frozen? ⟨br,o,none⟩=false:=Blk.th h o
def zA.si(h:zA w br sv rv s i nb)(hw:zq w w'):zA w' br sv rv s i nb:=by obtain⟨n,rfl⟩:=hw;exact h
def zA.inc(h:zA w br sv rv s i nb):zA (w.setCell ⟨br,3,none⟩ (z_ ((i:Int)+1))) br sv rv s (i+1) nb:=T_ h 3 _
end
def Gi(w:World)(br:Nat)(sv rv:Value)(s:BA)(i:Nat)(nb:Bool)(d:Nat)(b:Bool)(w':World):Prop:=
 Fr w w' (· = br)/\((bt s i=d/\b=true/\zA w' br sv rv s (i+1) nb/\i<s.size)\/(bt s i≠d/\b=false/\zA w' br sv rv s i nb))
def pG{w:World}{br:Nat}{sv rv:Value}{s:BA}{i:Nat}{nb:Bool}{c:Int}(d:Nat)(h:zA w br sv rv s i nb)(hs:s.size<=4000)(hi:i<=s.size)(hd:c=(d:Int))(a:0<d):Calls prog 164 #[P_ br,.int .u8 c] w λe w'=>∃b,e=.returned (.bool b)/\Gi w br sv rv s i nb d b w':=by
 subst hd;refine hq_ λa a=>?_;have c2:=h.c2;have c3:=h.c3;have f:=h.th 3;by_cases hl:i<s.size
 .have f:(i:Int)<(s.size:Int):=M_;obtain⟨x,hx⟩:=x_ (bt s i);have k:((s[i]'hl).toNat:Int)=(x:Int):=by rw[<- hx,vR s i hl]
  by_cases hb:x=d
  .subst hb;replace hx:=zy hx;replace h:=zy h;go_in;go_wp2;go_quiet (fail);go_wp2;try go_ret
   rw[a.o];exact⟨true,rfl,((A_ w _).si (zq.drewN _ _)).setCell _ _ (λ_=>rfl),.inl ⟨hx,rfl,(h.o.si (zq.drewN _ _)).inc,hl⟩⟩
  .have hn:((x:Int)==(d:Int))=false:=by simp;omega
   replace hx:=zy hx;replace h:=zy h;go_in;go_wp2;go_quiet (fail);go_wp2;try go_ret
   rw[a.o];exact⟨false,rfl,(A_ w _).si (zq.drewN _ _),.inr ⟨by rw[hx.o];exact hb,rfl,h.o.si (zq.drewN _ _)⟩⟩
 .have f:¬((i:Int)<(s.size:Int)):=M_;have hb:H_ (bt s i≠d):=zy (by rw[kK M_];omega);replace h:=zy h;go_in;go_wp2;go_quiet (fail);go_wp2;try go_ret
  rw[a.o];exact⟨false,rfl,(A_ w _).si (zq.drewN _ _),.inr ⟨hb,rfl,h.o.si (zq.drewN _ _)⟩⟩
def yF{w:World}{br:Nat}{sv rv:Value}{s:BA}{i:Nat}{nb:Bool}{c:Int}(d:Nat)(h:zA w br sv rv s i nb)(hs:s.size<=4000)(hi:i<=s.size)(hd:c=(d:Int))(a:0<d)(hb:bt s i=d):Calls prog 164 #[P_ br,.int .u8 c] w λe w'=>e=.returned (.bool true)/\Fr w w' (· = br)/\zA w' br sv rv s (i+1) nb:=by
 apply(pG d h hs hi hd a).mono;rintro e w' ⟨b,rfl,hf,a⟩;rcases a with⟨_,rfl,h1,_⟩|⟨hn,_⟩
 .exact⟨rfl,hf,h1⟩
 .exact absurd hb hn
def xm{w:World}{br:Nat}{sv rv:Value}{s:BA}{i:Nat}{nb:Bool}{c:Int}(d:Nat)(h:zA w br sv rv s i nb)(hs:s.size<=4000)(hi:i<=s.size)(hd:c=(d:Int))(a:0<d)(hb:bt s i≠d):Calls prog 164 #[P_ br,.int .u8 c] w λe w'=>e=.returned (.bool false)/\Fr w w' (· = br)/\zA w' br sv rv s i nb:=by
 apply(pG d h hs hi hd a).mono;rintro e w' ⟨b,rfl,hf,a⟩;rcases a with⟨hy,_⟩|⟨_,rfl,h1⟩
 .exact absurd hy hb
 .exact⟨rfl,hf,h1⟩
def tL(c:Nat)(w:World):Calls prog 190 #[U_ c] w λe w'=>e=.returned (.bool (decide (97<=c/\c<=122)))/\w'=w:=by
 have hb:decide (97<=c/\c<=122)=(decide ((97:Int)<=(c:Int))&&decide ((c:Int)<=122)):=by
  rw[Bool.decide_and,show decide ((97:Int)<=(c:Int))=decide (97<=c) by congr 1;exact propext M_,show decide ((c:Int)<=122)=decide (c<=122) by congr 1;exact propext M_]
 rw[hb];by_cases h1:(97:Int)<=(c:Int)
 .go_in;go_wp2;go_ret;exact⟨by simp[h1],rfl⟩
 .go_in;go_wp2;go_ret;exact⟨by simp;omega,rfl⟩
def cq2_{p:Prop}(h:p:=by
 refine hq_ λy z=>?_;have c3:=h.c3;(first|(have:=cc1;have start:H_ (∃k,i<=k/\k<=s.size/\s.size+1-k<=s.size+1/\Fr w w (· = br)/\zA w br sv rv s k nb/\zV 48 57 s i=zV 48 57 s k):=zy ⟨i,l_,hi,M_,A_ _ _,h,rfl⟩)|(have start:H_ (∃k,i<=k/\k<=s.size/\s.size+1-k<=s.size+1/\Fr w w (· = br)/\zA w br sv rv s k nb/\zV 97 122 s i=zV 97 122 s k):=zy ⟨i,l_,hi,M_,A_ _ _,h,rfl⟩));replace h:=zy h;go_in;go_wp2_with fail;clear c3;(first|(have:=cc1;go_loopg [] (s.size+1) (λm W=>∃k,i<=k/\k<=s.size/\s.size+1-k<=m/\Fr w W (· = br)/\zA W br sv rv s k nb/\zV 48 57 s i=zV 48 57 s k))|(go_loopg [] (s.size+1) (λm W=>∃k,i<=k/\k<=s.size/\s.size+1-k<=m/\Fr w W (· = br)/\zA W br sv rv s k nb/\zV 97 122 s i=zV 97 122 s k)));case atStart=>exact start.o
 case round=>
  clear start;obtain⟨k,F,H,hm,hf,f,he⟩:=hrel;have c2:=f.c2;have c3:=f.c3;have D:=f.th 3;have G:(i:Int)<=(k:Int):=M_;have I:(k:Int)<=(s.size:Int):=M_;replace hf:=zy hf;replace f:=zy f
  first
   |have:=cc1
    have fin:H_ (zV 48 57 s k=k->∀W,zq wr W->y (.returned (.string (s.extract i k))) W):=zy (λhk W j=>by
     rw[z.o,he,hk]
     exact⟨rfl,hf.o.si j,f.o.si j⟩)
   |have fin:H_ (zV 97 122 s k=k->∀W,zq wr W->y (.returned (.string (s.extract i k))) W):=zy (λhk W j=>by
     rw[z.o,he,hk]
     exact⟨rfl,hf.o.si j,f.o.si j⟩)
  by_cases hk:k<s.size
  .have x:(k:Int)<(s.size:Int):=M_;have A:decide ((k:Int)<(s.size:Int))=true:=decide_eq_true x;obtain⟨c,hc⟩:∃c,bt s k=c:=⟨_,rfl⟩;have E:((s[k]'hk).toNat:Int)=(c:Int):=by rw[<- hc,vR s k hk]
   (first|(have:=cc1;have r:H_ (∀(q:Nat) (b:Bool),decide (48<=c/\c<=57)=b->Calls prog 197 #[U_ c] (wr.drewN q) λe w'=>e=.returned (.bool b)/\w'=wr.drewN q):=zy (λq b hb=>by rw[<- hb];exact iR c _))|(have r:H_ (∀(q:Nat) (b:Bool),decide (97<=c/\c<=122)=b->Calls prog 190 #[U_ c] (wr.drewN q) λe w'=>e=.returned (.bool b)/\w'=wr.drewN q):=zy (λq b hb=>by rw[<- hb];exact tL c _)));(first|(have:=cc1;refine have a:zV 48 57 s k=if 48<=c/\c<=57 then zV 48 57 s (k+1) else k:=?_;?_)|(refine have a:zV 97 122 s k=if 97<=c/\c<=122 then zV 97 122 s (k+1) else k:=?_;?_))
   .rw[zV,dif_pos hk,hc]
   (first|(have:=cc1;by_cases l:48<=c/\c<=57)|(by_cases l:97<=c/\c<=122))
   .rw[if_pos l]at a;have u:=zy (decide_eq_true l);have C:=zy (he.trans a);clear a he fin;replace hc:=zy hc;go_wp2_with fail;go_quiet (first|((first|go_at_call 190|go_at_call 197);exact Calls.quiet_of_same (r.o _ _ u.o)));go_wp2_with fail;go_roundg (s.size+1-(k+1));case measure=>omega
    case rel=>exact⟨k+1,M_,hk,l_,(hf.o.si (zq.drewN _ _)).setCell _ _ (λ_=>rfl),(f.o.si (zq.drewN _ _)).inc,C.o⟩
   .rw[if_neg l]at a;have u:=zy (decide_eq_false l);replace a:=zy a;replace hc:=zy hc;clear he;go_wp2_with fail;go_quiet (first|((first|go_at_call 190|go_at_call 197);exact Calls.quiet_of_same (r.o _ _ u.o)));go_wp2_with fail;go_quiet (fail);go_wp2_with fail;try go_ret
    exact fin.o a.o _ ((zq.drewN _ _).trans (zq.drewN _ _))
  .have x:¬((k:Int)<(s.size:Int)):=M_;have A:decide ((k:Int)<(s.size:Int))=false:=decide_eq_false x;(first|(have:=cc1;have a:=zy (show zV 48 57 s k=k by rw[zV,dif_neg hk]))|(have a:=zy (show zV 97 122 s k=k by rw[zV,dif_neg hk])));clear he;go_wp2_with fail;go_quiet (fail);go_wp2_with fail;go_quiet (fail);go_wp2_with fail;try go_ret
   exact fin.o a.o _ ((zq.drewN _ _).trans (zq.drewN _ _))):p:=h
def ki{w:World}{br:Nat}{sv rv:Value}{s:BA}{i:Nat}{nb:Bool}(h:zA w br sv rv s i nb)(hs:s.size<=4000)(hi:i<=s.size):Calls prog 189 #[P_ br,.func (.func 190) #[] #[]] w λe w'=>e=.returned (.string (s.extract i (zV 97 122 s i)))/\Fr w w' (· = br)/\zA w' br sv rv s (zV 97 122 s i) nb:=by
 exact cq2_
def iR(c:Nat)(w:World):Calls prog 197 #[U_ c] w λe w'=>e=.returned (.bool (decide (48<=c/\c<=57)))/\w'=w:=by
 have hb:decide (48<=c/\c<=57)=(decide ((48:Int)<=(c:Int))&&decide ((c:Int)<=57)):=by
  rw[Bool.decide_and,show decide ((48:Int)<=(c:Int))=decide (48<=c) by congr 1;exact propext M_,show decide ((c:Int)<=57)=decide (c<=57) by congr 1;exact propext M_]
 rw[hb];by_cases h1:(48:Int)<=(c:Int)
 .go_in;go_wp2;go_ret;exact⟨by simp[h1],rfl⟩
 .go_in;go_wp2;go_ret;exact⟨by simp;omega,rfl⟩
def im{w:World}{br:Nat}{sv rv:Value}{s:BA}{i:Nat}{nb:Bool}(h:zA w br sv rv s i nb)(hs:s.size<=4000)(hi:i<=s.size):Calls prog 189 #[P_ br,.func (.func 197) #[] #[]] w λe w'=>e=.returned (.string (s.extract i (zV 48 57 s i)))/\Fr w w' (· = br)/\zA w' br sv rv s (zV 48 57 s i) nb:=by
 have cc1:=trivial
 exact cq2_
inductive pm:DT->Value->Prop
 |nothing:pm (.mk 110 0 noB [] []) (.iface 134 (.agg #[]))
 |truth (b:Bool):pm (.mk 116 (if b=true then 1 else 0) noB [] []) (.iface 135 (.bool b))
 |num (c:Nat) (n:Int) (hc:c=105\/c=108) (h0 : -9223372036854775808<=n) (h1:n<=9223372036854775807):pm (.mk c n noB [] []) (.iface 137 (.int .i64 n))
 |text (tx:BA) (h:tx.size<=4000):pm (.mk 115 0 tx [] []) (.iface 139 (.string tx))
 |bytes (tx:BA) (h:tx.size<=4000):pm (.mk 102 0 tx [] []) (.iface 153 (.string tx))
 |sym (n l:Nat) (h:n<=4000):pm (.mk 101 (n:Int) noB [] []) (.iface 152 (.agg #[U_ l,I_ n]))
inductive vX (w:World) (P:Nat->Prop):DT->Value->Prop
 |flat {d:DT} {v:Value} (h:pm d v):vX w P d v
 |branch (n:Nat) (h:n<=4000) {d:DT} {v:Value} (hd:vX w P d v):vX w P (.mk 40 (n:Int) noB [] [d]) (.iface 148 (.agg #[I_ n,v]))
 |row {c:Nat} {T:TypeId} {ds:List DT} {lv:Value} (Y:Nat->Value) (hc:(c=91/\T=142)\/(c=114/\T=150)) (ho:w.ownsRow 0 59 1 lv ds.length ((List.range ds.length).flatMap λi=>[Y i])) (hP:∀g,lv.ownBlock=some g->P g)
  (hd:∀i d,ds[i]?=some d->vX w P d (Y i)):vX w P (.mk c 0 noB [] ds) (.iface T lv)
 |map {ks:List BA} {ds:List DT} {lv:Value} (Y:Nat->Value) (hl:ks.length=ds.length) (hk:∀k∈ks,k.size<=4000) (ho:w.ownsRow 0 234 2 lv ds.length ((List.range ds.length).flatMap λi=>[.string (ks.getD i noB),Y i])) (hP:∀g,lv.ownBlock=some g->P g)
  (hd:∀i d,ds[i]?=some d->vX w P d (Y i)):vX w P (.mk 123 0 noB ks ds) (.iface 145 lv)
section
variable {w w':World} {P Q S:Nat->Prop} {d:DT} {v:Value}
def vX.mono(h:vX w P d v)(hQ:∀g,g<w.heap.size->P g->Q g):vX w Q d v:=by
 induction h with
 |flat h=>exact .flat h
 |branch n h hd ih=>exact .branch n h ih
 |row Y hc ho hP hd ih=>exact .row Y hc ho (λg e=>hQ g (ho.lt g e).2 (hP g e)) ih
 |map Y hl hk ho hP hd ih=>exact .map Y hl hk ho (λg e=>hQ g (ho.lt g e).2 (hP g e)) ih
def vX.fr(h:vX w P d v)(hf:Fr w w' S)(a:∀g,P g->¬S g):vX w' P d v:=by
 induction h with
 |flat h=>exact .flat h
 |branch n h hd ih=>exact .branch n h ih
 |row Y hc ho hP hd ih=>exact .row Y hc (zj ho hf (λg e=>a g (hP g e))) hP ih
 |map Y hl hk ho hP hd ih=>exact .map Y hl hk (zj ho hf (λg e=>a g (hP g e))) hP ih
def vX.iface(h:vX w P d v):∃T x,v=.iface T x:=by
 cases h with
 |flat h=>cases h<;>exact⟨_,_,rfl⟩
 |branch n h hd=>exact⟨_,_,rfl⟩
 |row Y hc ho hP hd=>exact⟨_,_,rfl⟩
 |map Y hl hk ho hP hd=>exact⟨_,_,rfl⟩
end
def wK(w:World)(B:Nat)(P:Nat->Prop)(lv:Value)(ds:List DT):Prop:=
 ∃Y:Nat->Value,w.ownsRow B 59 1 lv ds.length ((List.range ds.length).flatMap λi=>[Y i])/\∀i d,ds[i]?=some d->vX w P d (Y i)
section
variable {w w':World} {B:Nat} {P Q S:Nat->Prop} {lv:Value} {ds:List DT}
def wK.nil(w:World)(B:Nat)(P:Nat->Prop):wK w B P (L_) []:=⟨λ_=>.nilIface,World.ownsRow_nil _ _ _ _,λi d h=>by simp at h⟩
def wK.mono(h:wK w B P lv ds)(hQ:∀g,g<w.heap.size->P g->Q g):wK w B Q lv ds:=by
 obtain⟨Y,a,b⟩:=h;exact⟨Y,a,λi d e=>(b i d e).mono hQ⟩
def wK.fr(h:wK w B P lv ds)(hf:Fr w w' S)(f:∀g,P g->¬S g)(hv:∀g,lv.ownBlock=some g->¬S g):wK w' B P lv ds:=by
 obtain⟨Y,a,b⟩:=h;exact⟨Y,zj a hf hv,λi d e=>(b i d e).fr hf f⟩
def wK.row(h:wK w B P lv ds):∃ys,w.ownsRow B 59 1 lv ds.length ys:=by
 obtain⟨Y,a,_⟩:=h;exact⟨_,a⟩
def wK.snoc{b v:Value}{d:DT}(f:∀i d,ds[i]?=some d->vX w P d (Y i))(hd:vX w P d v)(hf:Fr w w' S)(a:∀g,P g->¬S g)(ho:w'.ownsRow B 59 1 b (ds.length+1) (((List.range ds.length).flatMap λi=>[Y i])++[v])):wK w' B P b (ds++[d]):=by
 refine⟨λi=>if i<ds.length then Y i else v,?_,λi e he=>?_⟩
 .rw[ai_,av_,bp_,be_,yT ds.length _ (λi=>[Y i]) (λi hi=>by simp[hi])];simpa using ho
 .by_cases hi:i<ds.length
  .rw[ar_ hi]at he;simp only[hi,if_true];exact(f i e he).fr hf a
  .rw[as_ M_]at he;have h0:i-ds.length=0:=by
    rcases Nat.eq_zero_or_pos (i-ds.length) with h|h
    .exact h
    .rw[a4_ (by simp;omega)]at he;cases he
   rw[h0]at he;simp only[aa_,ah_]at he;subst he;simp only[hi,if_false];exact hd.fr hf a
def wK.grow{w1 b:World}{lv a v:Value}{d:DT}(f:∀i d,ds[i]?=some d->vX w1 (λg=>B<=g/\lv.ownBlock≠some g) d (Y i))(hd:vX w1 (λg=>B<=g/\lv.ownBlock≠some g) d v)(hf:Fr w1 b (λg=>lv.ownBlock=some g\/g=c))(hc:c<B)(hl:a.ownBlock=lv.ownBlock\/∃h,a.ownBlock=some h/\w1.heap.size<=h)(ho:b.ownsRow B 59 1 a (ds.length+1) (((List.range ds.length).flatMap λi=>[Y i])++[v])):wK b B (λg=>B<=g/\a.ownBlock≠some g) a (ds++[d]):=by
 have up:∀{d v},vX w1 (λg=>B<=g/\lv.ownBlock≠some g) d v->vX w1 (λg=>(B<=g/\lv.ownBlock≠some g)/\g<w1.heap.size) d v:=λh=>h.mono (λg h1 a=>⟨a,h1⟩);refine(wK.snoc (λi d e=>up (f i d e)) (up hd) hf (λg hg e=>?_) ho).mono (λg _ hg=>⟨hg.1.1,λe=>?_⟩)
 .rcases e with e|e
  .exact hg.1.2 e
  .have:=hg.1.1;omega
 .rcases hl with h|⟨q,h,a⟩
  .exact hg.1.2 (h▸e)
  .rw[h]at e;have:=hg.2;simp only[ah_]at e;omega
def wK.dat(h:wK w B P lv ds)(hP:∀g,g<w.heap.size->P g->Q g)(f:∀g,lv.ownBlock=some g->Q g){T:TypeId}(hc:(c=91/\T=142)\/(c=114/\T=150)):vX w Q (.mk c 0 noB [] ds) (.iface T lv):=by
 obtain⟨Y,a,b⟩:=h;exact .row Y hc (zS a) f (λi d e=>(b i d e).mono hP)
end
def lK(w:World)(P:Nat->Prop)(es:List (BA×DT))(ys:List Value):Prop:=
 ∃Y:Nat->Value,(ys=(List.range es.length).flatMap λi=>[.string ((es.map Prod.fst).getD i noB),Y i])/\(∀i e,es[i]?=some e->vX w P e.2 (Y i))/\∀e∈es,e.1.size<=4000
section
variable {w w':World} {B:Nat} {P Q S:Nat->Prop} {es:List (BA×DT)} {ys:List Value}
def lK.nil(w:World)(P:Nat->Prop):lK w P [] []:=⟨λ_=>.nilIface,rfl,λi d h=>by simp at h,λe h=>by simp at h⟩
def lK.fr(h:lK w P es ys)(hf:Fr w w' S)(f:∀g,P g->¬S g):lK w' P es ys:=by
 obtain⟨Y,a,b,c⟩:=h;exact⟨Y,a,λi d e=>(b i d e).fr hf f,c⟩
def lK.grow{w1 j:World}{lv f v:Value}{key:BA}{d:DT}(h:lK w1 (λg=>B<=g/\lv.ownBlock≠some g) es ys)(hd:vX w1 (λg=>B<=g/\lv.ownBlock≠some g) d v)(hk:key.size<=4000)(hf:Fr w1 j (λg=>lv.ownBlock=some g\/g=c))(hc:c<B)(hl:f.ownBlock=lv.ownBlock\/∃h,f.ownBlock=some h/\w1.heap.size<=h):lK j (λg=>B<=g/\f.ownBlock≠some g) (es++[(key,d)]) (ys++[.string key,v]):=by
 obtain⟨Y,a,b,k⟩:=h;have up:∀{d v},vX w1 (λg=>B<=g/\lv.ownBlock≠some g) d v->vX j (λg=>B<=g/\f.ownBlock≠some g) d v:=λh=>by
  have h1:vX w1 (λg=>(B<=g/\lv.ownBlock≠some g)/\g<w1.heap.size) _ _:=h.mono (λg h1 l=>⟨l,h1⟩);refine(h1.fr hf (λg hg e=>?_)).mono (λg _ hg=>⟨hg.1.1,λe=>?_⟩)
  .rcases e with e|e
   .exact hg.1.2 e
   .have:=hg.1.1;omega
  .rcases hl with h|⟨q,h,m⟩
   .exact hg.1.2 (h▸e)
   .rw[h]at e;have:=hg.2;simp only[ah_]at e;omega
 refine⟨λi=>if i<es.length then Y i else v,?_,λi e he=>?_,λe he=>?_⟩
 .have m:=yT es.length (λi=>[Value.string (((es++[(key,d)]).map Prod.fst).getD i noB),if i<es.length then Y i else v]) (λi=>[Value.string ((es.map Prod.fst).getD i noB),Y i]) (λi hi=>by
   simp only[bj_,ap_]
   rw[ar_ (by simpa using hi),i_ hi])
  rw[a,ai_,av_,bp_,be_,m];simp[ap_]
 .by_cases hi:i<es.length
  .rw[ar_ hi]at he;simp only[hi,if_true];exact up (b i e he)
  .rw[as_ M_]at he;have h0:i-es.length=0:=by
    rcases Nat.eq_zero_or_pos (i-es.length) with h|h
    .exact h
    .rw[a4_ (by simp;omega)]at he;cases he
   rw[h0]at he;simp only[aa_,ah_]at he;subst he;simp only[hi,if_false];exact up hd
 .rcases a2_.1 he with h|h
  .exact k e h
  .simp only[a1_]at h;subst h;exact hk
def cq21_{p:Prop}(h:p:=by
 obtain⟨Y,a,b,k⟩:=h;subst a;refine .map Y (by simp) (λx hx=>?_) (by rw[bo_];exact zS ho) h2 (λi d e=>?_)
 .obtain⟨e,he,rfl⟩:=ay_.1 hx;exact k e he
 .rw[aq_]at e;obtain⟨q,f,rfl⟩:=b4_.1 e;exact(b i q f).mono hP):p:=h
def lK.dat{lv:Value}(h:lK w P es ys)(ho:w.ownsRow B 234 2 lv es.length ys)(hP:∀g,g<w.heap.size->P g->Q g)(h2:∀g,lv.ownBlock=some g->Q g):vX w Q (.mk 123 0 noB (es.map Prod.fst) (es.map Prod.snd)) (.iface 145 lv):=by
 exact cq21_
end
def fP(es:List (BA×DT)):Option BA:=es.getLast?.map Prod.fst
def gJ(es:List (BA×DT))(e:BA×DT):fP (es++[e])=some e.1:=by unfold fP;simp
def Px(o:Option BA)(n:Nat)(ys:List Value):Prop:=match o with|none=>n=0|some lk=>∃m,n=m+1/\ys[m*2]?=some (.string lk)
def Gs(W:World)(t:BA)(e:Ending)(w':World):Prop:=Fr W w' N_/\
 ((∃v,Lib.parseIntB 64 t.data.toList=.ok v/\e=.returned (.tuple #[z_ v,.nilIface]))\/((∀v,Lib.parseIntB 64 t.data.toList≠.ok v)/\∃v T x,e=.returned (.tuple #[z_ v,.iface T x])))
def kt(s:BA)(i:Nat):Prop:=0<(yw s i).size/\¬(bt (yw s i) 0=48/\(1<(yw s i).size\/xL s i=true))
def Yf(w:World)(br:Nat)(sv rv:Value)(s:BA)(i:Nat)(nb:Bool)(lo hi:Int)(e:Ending)(w':World):Prop:=
 ∃n b,e=.returned (.tuple #[z_ n,.bool b])/\Fr w w' (· = br)/\zA w' br sv rv s (yQ s i) nb/\
  (b=true↔(kt s i/\∃v,Lib.parseIntB 64 (s.extract i (yQ s i)).data.toList=.ok v/\lo<=v/\v<=hi))/\(b=true->Lib.parseIntB 64 (s.extract i (yQ s i)).data.toList=.ok n)
section
variable {w:World} {br:Nat} {sv rv:Value} {s:BA} {i:Nat} {nb:Bool} {lo hi:Int}
def YT(h:zA w br sv rv s i nb)(hs:s.size<=4000)(hi:i<=s.size):Calls prog 164 #[P_ br,.int .u8 45] w λe w'=>e=.returned (.bool (xL s i))/\Fr w w' (· = br)/\zA w' br sv rv s (sgn s i) nb:=by
 apply(pG 45 h hs hi rfl D_).mono;rintro e w' ⟨b,rfl,hf,a⟩;rcases a with⟨hy,rfl,h1,_⟩|⟨hn,rfl,h1⟩
 .refine⟨?_,hf,?_⟩
  .unfold xL;rw[hy];rfl
  .unfold sgn;rw[i_ hy];exact h1
 .refine⟨?_,hf,?_⟩
  .have:xL s i=false:=by unfold xL;exact beq_eq_false_iff_ne.2 M_
   rw[this]
  .unfold sgn;rw[n_ hn];exact h1
def VN(hi:i<=s.size):i<=sgn s i/\sgn s i<=s.size/\sgn s i<=yQ s i/\yQ s i<=s.size:=by
 have h1:i<=sgn s i/\sgn s i<=s.size:=by
  unfold sgn;split
  .rename_i h;have:i<s.size:=by
    by_cases b:i<s.size
    .exact b
    .unfold bt at h;rw[dif_neg b]at h;exact absurd h D_
   omega
  .omega
 have a:=vU 48 57 s _ (sgn s i) l_;exact⟨h1.1,h1.2,a.1,a.2 h1.2⟩
def tZ(h:zA w br sv rv s i nb)(hs:s.size<=4000)(a:i<=s.size)(hP:∀W,Fr w W (· = br)->Calls prog 198 #[.string (s.extract i (yQ s i)),z_ 10,z_ 64] W (Gs W (s.extract i (yQ s i)))):Calls prog 183 #[P_ br,z_ lo,z_ hi] w (Yf w br sv rv s i nb lo hi):=by
 refine hq_ λf l=>?_;obtain⟨l1,l2,p,m⟩:=VN a;have c3:=h.c3;have D:=zy (YT h hs a);have A:H_ (∀W,zA W br sv rv s (sgn s i) nb->Calls prog 189 #[P_ br,.func (.func 197) #[] #[]] W λe w'=>e=.returned (.string (yw s i))/\Fr W w' (· = br)/\zA w' br sv rv s (yQ s i) nb):=zy (λW a=>im a hs l2);have F:H_ (¬kt s i->∀W,Fr w W (· = br)->zA W br sv rv s (yQ s i) nb->f (.returned (.tuple #[O_,.bool false])) W):=zy (λhn W hf a=>by
  rw[l.o]
  exact⟨0,false,rfl,hf,a,⟨λe=>absurd e D_,λe=>absurd e.1 hn⟩,λe=>absurd e D_⟩)
 have E:H_ (kt s i->∀n b W,Fr w W (· = br)->zA W br sv rv s (yQ s i) nb->(b=true↔∃v,Lib.parseIntB 64 (s.extract i (yQ s i)).data.toList=.ok v/\lo<=v/\v<=hi)->(b=true->Lib.parseIntB 64 (s.extract i (yQ s i)).data.toList=.ok n)->f (.returned (.tuple #[z_ n,.bool b])) W):=zy (λhn n b W hf a hb hv=>by
  rw[l.o]
  exact⟨n,b,rfl,hf,a,hb.trans ⟨λe=>⟨hn,e⟩,λe=>e.2⟩,hv⟩)
 replace hP:=zy hP;have m:kt s i=(0<(yw s i).size/\¬(bt (yw s i) 0=48/\(1<(yw s i).size\/xL s i=true))):=rfl;have a:i<=yQ s i:=M_;generalize yw s i=t at A m;generalize yQ s i=k at *;generalize xL s i=neg at *;generalize sgn s i=j at *;by_cases a:t.size=0
 .have H:t.toList=[]:=by rw[ByteArray.toList_eq];exact List.eq_nil_of_length_eq_zero (by rw[Array.length_toList];exact a)
  have C:=zy (show ¬kt s i by rw[m];omega);go_in;go_wp2_with (first
   |(go_at_call 164;apply D.o.mono;rintro e w1 ⟨rfl,f,h1⟩;have y:=zy f;have z:=zy h1)
   |(go_at_call 189;apply(A.o _ z).mono;rintro e G ⟨rfl,l,a⟩;have r:=zy (y.o.trans l u_);have p:=zy a))
  exact F.o C _ r p
 .have h0:0<t.size:=M_;have H:¬t.toList=[]:=by
   rw[ByteArray.toList_eq];intro e;have:t.data.toList.length=t.size:=Array.length_toList;rw[e,a7_]at this;omega
  have I:t.toList.isEmpty=false:=by cases I:t.toList with|nil=>exact absurd I H|cons _ _=>rfl
  obtain⟨c,hc⟩:=x_ (bt t 0);have H:((t[0]'h0).toNat:Int)=(c:Int):=by rw[<- hc,vR t 0 h0]
  rw[hc]at m;replace hc:=zy hc;have H:(c=48/\neg=true)\/(c=48/\neg=false/\1<t.size)\/c≠48\/(c=48/\neg=false/\t.size=1):=by
   cases neg
   .by_cases c=48
    .by_cases 1<t.size
     .simp_all
     .exact .inr (.inr (.inr ⟨by assumption,rfl,M_⟩))
    .simp_all
   .by_cases c=48<;>simp_all
  rcases H with⟨rfl,rfl⟩|⟨rfl,rfl,h1⟩|I|⟨rfl,rfl,h1⟩
  .have C:=zy (show ¬kt s i by rw[m];simp);go_in;go_wp2_with (first
    |(go_at_call 164;apply D.o.mono;rintro e w1 ⟨rfl,f,h1⟩;have y:=zy f;have z:=zy h1)
    |(go_at_call 189;apply(A.o _ z).mono;rintro e G ⟨rfl,l,a⟩;have r:=zy (y.o.trans l u_);have p:=zy a))
   exact F.o C _ r p
  .have C:=zy (show ¬kt s i by rw[m];simp[h1]);have H:(1:Int)<(t.size:Int):=M_;go_in;go_wp2_with (first
    |(go_at_call 164;apply D.o.mono;rintro e w1 ⟨rfl,f,h1⟩;have y:=zy f;have z:=zy h1)
    |(go_at_call 189;apply(A.o _ z).mono;rintro e G ⟨rfl,l,a⟩;have r:=zy (y.o.trans l u_);have p:=zy a))
   exact F.o C _ r p
  case' neg.inr.inr.inl=>have hf:=zy (show kt s i by rw[m];exact⟨h0,λe=>I e.1⟩)
  case' neg.inr.inr.inl=>have C:((c:Int)==48)=false:=by simp;omega
  case' neg.inr.inr.inr=>have hf:=zy (show kt s i by rw[m];exact⟨h0,by simp[h1]⟩)
  case' neg.inr.inr.inr=>have H:¬(1:Int)<(t.size:Int):=M_
  all_goals clear m
  all_goals
   go_in;go_wp2_with (first
    |(go_at_call 164;apply D.o.mono;rintro e w1 ⟨rfl,f,h1⟩;have y:=zy f;have z:=zy h1)
    |(go_at_call 189;apply(A.o _ z).mono;rintro e G ⟨rfl,l,a⟩;have r:=zy (y.o.trans l u_);have p:=zy a))
   have z:=p.o.c2;have A:=p.o.c3;refine tR_ (λW=>f_ W br 2 (.string s)/\f_ W br 3 (I_ k)) ?_;refine zF 0 (P_ br) rfl K_ (λ_ _ _ h=>h) K_ (by rintro W ⟨h1,a⟩;go_simp) ?_;refine zF 1 (P_ br) rfl K_ (λ_ _ _ h=>h) K_ (by rintro W ⟨h1,a⟩;go_simp) ?_;refine zF 2 (.pointer (some ⟨br,2,none⟩)) rfl K_ (λ_ _ _ h=>h) K_ (by rintro W ⟨h1,a⟩;go_simp) ?_;refine zF 3 (.string s) rfl K_ (λ_ _ _ h=>h) K_ (by rintro W ⟨h1,a⟩;go_simp) ?_;refine zF 4 (I_ i) rfl K_ (λ_ _ _ h=>h) K_ (by rintro W ⟨h1,a⟩;go_simp) ?_;refine zF 5 (P_ br) rfl K_ (λ_ _ _ h=>h) K_ (by rintro W ⟨h1,a⟩;go_simp) ?_;refine zF 6 (P_ br) rfl K_ (λ_ _ _ h=>h) K_ (by rintro W ⟨h1,a⟩;go_simp) ?_;refine zF 7 (.pointer (some ⟨br,3,none⟩)) rfl K_ (λ_ _ _ h=>h) K_ (by rintro W ⟨h1,a⟩;go_simp) ?_;refine zF 8 (I_ k) rfl K_ (λ_ _ _ h=>h) K_ (by rintro W ⟨h1,a⟩;go_simp) ?_;refine zF 9 (.string (s.extract i k)) rfl K_ (λ_ _ _ h=>h) K_ (by rintro W ⟨h1,a⟩;go_simp) ?_;refine zL 10 rfl K_ ⟨z,A⟩ (λK m=>?_);go_simp;apply(hP.o _ r.o.drew).mono;rintro e C ⟨y,hm⟩;have l:=zy (r.o.drew.trans y v_);have f:H_ (zA C br sv rv s k nb):=zy (y.bl p id);have C:=f.o.c2;have D:=f.o.c3;replace hm:=zy hm;rcases hm.o with⟨v,hv,rfl⟩|⟨y,v,T,x,rfl⟩
   .replace hv:=zy hv;refine m _ _ ?_;refine zF 11 (.tuple #[z_ v,.nilIface]) rfl K_ (λ_ _ _ h=>h) K_ (by rintro W ⟨h1,a⟩;go_simp) ?_;refine zF 12 (z_ v) rfl K_ (λ_ _ _ h=>h) K_ (by rintro W ⟨h1,a⟩;go_simp) ?_;refine zF 13 .nilIface rfl K_ (λ_ _ _ h=>h) K_ (by rintro W ⟨h1,a⟩;go_simp) ?_;refine zF 14 (z_ v) rfl K_ (λ_ _ _ h=>h) K_ (by rintro W ⟨h1,a⟩;go_simp) ?_;refine zF 15 .nilIface rfl K_ (λ_ _ _ h=>h) K_ (by rintro W ⟨h1,a⟩;go_simp) ?_;refine yh K_ ⟨C,D⟩ ?_ _;by_cases r:v≥lo
    .have A:decide (v≥lo)=true:=decide_eq_true r;by_cases p:v<=hi
     .have z:decide (v<=hi)=true:=decide_eq_true p;go_wp2;exact E.o hf v true _ l f ⟨λ_=>⟨v,hv,r,p⟩,λ_=>rfl⟩ (λ_=>hv)
     .have z:decide (v<=hi)=false:=decide_eq_false p;go_wp2;exact E.o hf v false _ l f ⟨λe=>absurd e D_,λ⟨u,hu,_,a⟩=>by rw[hv.o]at hu;cases hu;exact absurd a M_⟩ (λe=>absurd e D_)
    .have A:decide (v≥lo)=false:=decide_eq_false r;go_wp2;exact E.o hf v false _ l f ⟨λe=>absurd e D_,λ⟨u,hu,h1,_⟩=>by rw[hv.o]at hu;cases hu;exact absurd h1 M_⟩ (λe=>absurd e D_)
   .replace y:=zy y;refine m _ _ ?_;refine zF 11 (.tuple #[z_ v,.iface T x]) rfl K_ (λ_ _ _ h=>h) K_ (by rintro W ⟨h1,a⟩;go_simp) ?_;refine zF 12 (z_ v) rfl K_ (λ_ _ _ h=>h) K_ (by rintro W ⟨h1,a⟩;go_simp) ?_;refine zF 13 (.iface T x) rfl K_ (λ_ _ _ h=>h) K_ (by rintro W ⟨h1,a⟩;go_simp) ?_;refine zF 14 (z_ v) rfl K_ (λ_ _ _ h=>h) K_ (by rintro W ⟨h1,a⟩;go_simp) ?_;refine zF 15 (.iface T x) rfl K_ (λ_ _ _ h=>h) K_ (by rintro W ⟨h1,a⟩;go_simp) ?_;refine yh K_ ⟨C,D⟩ ?_ _;go_wp2;exact E.o hf v false _ l f ⟨λe=>absurd e D_,λ⟨u,hu,_,_⟩=>absurd hu (y.o u)⟩ (λe=>absurd e D_)
end
def bm(n:Int)(h : -9223372036854775808<=n)(a:n<=9223372036854775807):wrap64 n=n:=by
 have:=IntKind.wrap_i64 n;unfold wrap64;omega
def oR:∀a b:List UInt8,dv (a++b)=dv a*10 ^ b.length+dv b
 | [],b=>by simp[dv]
 |c::r,b=>by
  simp only[bi_,dv,oR r b,ai_,Nat.pow_add,Nat.add_mul,Nat.mul_assoc];omega
def WQ{t:BA}{a:Nat}(h:a<t.size):∃c,t.data.toList[a]?=some c/\bt t a=c.toNat:=by
 refine⟨t[a],?_,vR t a h⟩;rw[Array.getElem?_toList];exact Array.getElem?_eq_getElem h
def ib{neg:Bool}{t:BA}(hd:kQ t.data.toList)(hb:dv t.data.toList<=9223372036854775807+(if neg=true then 1 else 0)):∀a,a<=t.size->mn neg t a=if neg=true then -(dv (t.data.toList.take a):Int) else (dv (t.data.toList.take a):Int):=by
 intro a;induction a with
 |zero=>intro _;simp[mn,dv]
 |succ a ih=>
  intro ha;obtain⟨c,hc,e⟩:=WQ (t:=t) (a:=a) M_;have hm:c∈t.data.toList:=aj_ hc;have b:=hd c hm;have f:t.data.toList.take (a+1)=t.data.toList.take a++[c]:=by rw[bf_,hc];rfl
  have h1:=oR (t.data.toList.take a) [c];have b:=oR (t.data.toList.take (a+1)) (t.data.toList.drop (a+1));rw[List.take_append_drop]at b;have b:dv (t.data.toList.take (a+1))<=dv t.data.toList:=by
   have:1<=10 ^ (t.data.toList.drop (a+1)).length:=Nat.one_le_pow _ _ D_;have:=Nat.mul_le_mul_left (dv (t.data.toList.take (a+1))) this;omega
  simp only[av_,Nat.pow_one,dv,a7_,Nat.pow_zero,Nat.mul_one,Nat.add_zero]at h1;rw[f]at b⊢;rw[mn,ih M_,e];rw[h1]at b⊢;generalize dv (t.data.toList.take a)=x at *;generalize dv t.data.toList=y at *;cases neg with
  |true=>
   simp only[if_true]at hb⊢;unfold uo;rw[i_ rfl,bm (10 * -(x:Int)) M_ M_,bm (c.toNat:Int) M_ M_,bm ((c.toNat:Int)-48) M_ M_,bm _ M_ M_];omega
  |false=>
   simp only[bs_,if_false,Nat.add_zero]at hb⊢;unfold uo;rw[n_ D_,bm (10*(x:Int)) M_ M_,bm (c.toNat:Int) M_ M_,bm ((c.toNat:Int)-48) M_ M_,bm _ M_ M_];omega
def YR{s:BA}{i:Nat}{v:Int}(h0:0<(yw s i).size)(hp:Lib.parseIntB 64 (s.extract i (yQ s i)).data.toList=.ok v):mn (xL s i) (yw s i) (yw s i).size=v/\-9223372036854775808<=v/\v<=9223372036854775807:=by
 have hd:kQ (yw s i).data.toList:=ed s (sgn s i);have h:(yw s i).size=(yw s i).data.toList.length:=Array.length_toList.symm;have f:(yw s i).data.toList≠[]:=by
  intro e;rw[e,a7_]at h;omega
 have j:(yw s i).data.toList.take (yw s i).size=(yw s i).data.toList:=by rw[h];exact List.take_length
 by_cases a:bt s i=45
 .have b:xL s i=true:=by unfold xL;rw[a];rfl
  have m:i<s.size:=zc M_;have hs:sgn s i=i+1:=by unfold sgn;rw[i_ a]
  have k:=vU 48 57 s _ (i+1) l_;have he:(s.extract i (yQ s i)).data.toList=45::(yw s i).data.toList:=by
   unfold yw yQ;rw[hs,fN M_ (k.2 M_)];refine List.cons_eq_cons.2 ⟨?_,rfl⟩;rw[vR s i m]at a;exact UInt8.toNat_inj.1 (a.trans D_)
  rw[he,ZD f hd]at hp;split at hp
  .rename_i l;cases hp;refine⟨?_,M_,M_⟩;rw[b,ib hd (by simp only[if_true];omega) _ l_,i_ rfl,j]
  .cases hp
 .have b:xL s i=false:=by
   unfold xL;exact beq_eq_false_iff_ne.2 M_
  have hs:sgn s i=i:=by unfold sgn;rw[n_ a]
  have he:s.extract i (yQ s i)=yw s i:=by unfold yw;rw[hs]
  rw[he,ZR f hd]at hp;split at hp
  .rename_i l;cases hp;refine⟨?_,M_,M_⟩;rw[b,ib hd (by simp only[bs_,if_false];omega) _ l_,n_ D_,j]
  .cases hp
set_option maxRecDepth 100000
set_option linter.defProp false
@[go_sem]def Fo:=yB 135 59
@[go_sem]def Pf:=vv 135 59 (.bool false)
@[go_sem]def Gp:=yB 137 59
@[go_sem]def FV:=vv 137 59 (O_)
@[go_sem]def Pp:=yB 139 59
@[go_sem]def PL:=vv 139 59 (.string ⟨#[]⟩)
@[go_sem]def Pb:=yB 142 59
@[go_sem]def PN:=vv 142 59 (L_)
@[go_sem]def PH:=yB 145 59
@[go_sem]def Bm:=vv 145 59 (L_)
@[go_sem]def Gu:=yB 148 59
@[go_sem]def FQ:=vv 148 59 (.agg #[O_,.nilIface])
@[go_sem]def Gf:=yB 150 59
@[go_sem]def FY:=vv 150 59 (L_)
@[go_sem]def Gg:=yB 152 59
@[go_sem]def FZ:=vv 152 59 (.agg #[.int .u8 0,O_])
@[go_sem]def FJ:=yB 153 59
def sY{w:World}(ho:w.ownsRow 0 59 1 (S_ g n c) n ((List.range n).flatMap λi=>[Y i]))(a:q<n):w.cell? ⟨g,q,none⟩=some (Y q):=
 zr ho rfl (by have:=bD n (λi=>[Y i]) (m:=1) (λ_ _=>rfl) q 0 a D_;simpa using this)
def JC{w:World}{K:Nat->BA}(ho:w.ownsRow 0 234 2 (S_ g n c) n ((List.range n).flatMap λi=>[.string (K i),Y i]))(a:q<n):w.cell? ⟨g,q*2,none⟩=some (.string (K q))/\w.cell? ⟨g,q*2+1,none⟩=some (Y q):=by
 have h:=bD n (λi=>[.string (K i),Y i]) (m:=2) (λ_ _=>rfl) q;exact⟨zr ho rfl (by have:=h 0 a D_;simpa using this),zr ho rfl (by have:=h 1 a D_;simpa using this)⟩
end Go.Proofs.YtjkiencmjggakaaGreatDoor
