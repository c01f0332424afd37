import Derived.Test.YtamhgejdkclmdaaGreatDoorW19
set_option maxHeartbeats 16000000
set_option maxRecDepth 100000
set_option linter.defProp false
set_option linter.unusedSimpArgs false
set_option linter.unusedVariables false
open Go.Proofs.Tryz
namespace Go.Proofs.YtamhgejdkclmdaaGreatDoor
open Go.RowKit Go.Extern.Stop Go.Stop Go.Extern
variable {s bs:BA}{i lo j c:Nat}{ev v:Ax}{ds:Aq}{t:PT}{a:Int×Int}{W w':Aw}{P:Az}{keyed:Ar}{p:Int}
def FI{a b:Addr}{h r:Ca}{y tb:Av}(ha:W.heap[a.block]?=some (.cells h y (0,0)))(hb:W.heap[b.block]?=some (.cells r tb (0,0))){n:Nat}{E:Ax}(h:xD W a n E):Calls prog 35 #[E,.iface 414 (.pointer (some b)),.bool true] W λe w'=>e=.returned (.bool (decide (a=b)))/\w'=W:=by
 refine hq_ λr f=>?_;obtain⟨i,hi,l⟩:=b0_.1 Ut;obtain⟨j,q,x⟩:=b0_.1 Ud;have r:=MG;have r:=Jk;have r:=Yw;have r:=MW;have r:=YB;have r:=dS;have r:=MK;have r:=YP;have r:=dN;have start:H_ (∃k,k<n+1/\xD W a k E):=zy ⟨n,M_,h⟩;go_in;go_wp2;go_loopg [0] (n+1) (λm v h=>∃k,k<m/\xD W a k v/\h=W);case atStart=>(obtain⟨k,h1,h⟩:=start.o;exact⟨k,h1,h,rfl⟩)
 case round=>
  obtain⟨k,hk,hc,rfl⟩:=hrel;cases hc with
  |leaf=>
   by_cases d:a=b
   .subst d;have u:=run_eql_iface_ptr_same (P:=prog) wr a underlying34 underlying414 hi l q;go_wp2;rw[f.o];exact⟨by simp,rfl⟩
   .have u:=run_eql_iface_ptr_other (P:=prog) wr underlying34 underlying414 hi l q (by rw[x];decide) d ha hb;go_wp2;rw[f.o];exact⟨by simp[d],rfl⟩
  |fault g p v k' hB h1=>
   have u:=run_eql_iface_types (P:=prog) 185 414 (P_ g) (.pointer (some b)) underlying34 D_ wr;obtain⟨d,z,rfl⟩:=h1.iface;have c1:=hB.c1;replace h1:=zy h1;go_wp2;go_roundg (k'+1);case measure=>omega
   case rel=>exact⟨k',M_,h1,rfl⟩
  |within g tx v k' hB h1=>
   have u:=run_eql_iface_types (P:=prog) 351 414 (P_ g) (.pointer (some b)) underlying34 D_ wr;obtain⟨d,z,rfl⟩:=h1.iface;have c1:=hB.c1;replace h1:=zy h1;go_wp2;go_roundg (k'+1);case measure=>omega
   case rel=>exact⟨k',M_,h1,rfl⟩
def Pz{a b:Addr}{f g:Ca}{k tb:Av}(ha:W.heap[a.block]?=some (.cells f k (0,0)))(hb:W.heap[b.block]?=some (.cells g tb (0,0))){n:Nat}{E:Ax}(d:xD W a n E):Calls prog 20 #[E,.iface 414 (.pointer (some b))] W λe w'=>e=.returned (.bool (decide (a=b)))/\w'=W:=by
 have h:=zy (FI ha hb d);obtain⟨f,f,rfl⟩:=d.iface;have d:=@run_callFunc_extern prog 34 _ Extern.ReflectliteType.typeOf func34 K_ K_ K_ K_;have d:=Wn;obtain⟨d,d,d⟩:=iU;have d:=pj;go_in;go_wp2_with (go_at_call 35;apply h.o.mono;rintro e w' ⟨rfl,rfl⟩);go_ret;exact⟨rfl,rfl⟩
def Vx(b:Addr)(w:Aw):Calls prog 20 #[.nilIface,.iface 414 (.pointer (some b))] w λe w'=>e=.returned (.bool false)/\w'=w:=by
 have hn:=run_eql_iface_nil_left (P:=prog) w 414 (.pointer (some b)) underlying34;go_in;go_wp2;go_ret;exact⟨rfl,rfl⟩
def pS:List Nat:=[7,0,1,2,3,4,5,6,8,9]
structure yF(A:Bb)(w:Aw):Prop where
 var:∀g∈pS,vw g w 414 (.pointer (some (A g)))
 row:∀g∈pS,∃c t,w.heap[(A g).block]?=some (.cells c t (0,0))
 ne:∀g∈pS,∀g'∈pS,g≠g'->A g≠A g'
def yF.fr{A:Bb}{w:Aw}(h:yF A w)(hf:Fr w w' N_):yF A w':=by
 refine⟨λg hg=>(h.var g hg).fr hf id,λg hg=>?_,h.ne⟩;obtain⟨c,t,hr⟩:=h.row g hg;have hl:(A g).block<w.heap.size:=by
  by_cases b:(A g).block<w.heap.size
  .exact b
  .rw[Array.getElem?_eq_none M_]at hr;cases hr
 exact⟨c,t,(hf.block _ hl id).trans hr⟩
def WQ{A:Bb}{w:Aw}(S:yF A w){g b n:Nat}{E:Ax}(d:b∈pS)(hg:g∈pS)(h:xD w (A b) n E):Calls prog 20 #[E,.iface 414 (.pointer (some (A g)))] w λe w'=>e=.returned (.bool (decide (b=g)))/\w'=w:=by
 obtain⟨c,t,ha⟩:=S.row b d;obtain⟨f,t',hb⟩:=S.row g hg;apply(Pz ha hb h).mono;rintro e w' ⟨rfl,rfl⟩;refine⟨?_,rfl⟩;by_cases e:b=g
 .subst e;simp
 .simp[e,S.ne b d g hg e]
def PS:List (Nat×Int):=[(7,1),(0,2),(1,3),(2,4),(3,5),(4,6),(5,7),(6,8),(8,1),(9,1)]
def xI{A:Bb}{w:Aw}(S:yF A w){b n:Nat}{k:Int}{E:Ax}(hp:(b,k)∈PS)(d:b∈pS)(h:xD w (A b) n E):Calls prog 10 #[E] w λe w'=>e=.returned (Z_ k)/\w'=w:=by
 have f:=zy (λg (hg:g∈pS)=>WQ S d hg h);have V:=zy S.var;have b:=V.o 7 D_;have d:=V.o 0 D_;have l:=V.o 1 D_;have m:=V.o 2 D_;have q:=V.o 3 D_;have r:=V.o 4 D_;have u:=V.o 5 D_;have x:=V.o 6 D_;have y:=V.o 8 D_;have z:=V.o 9 D_;unfold vw at b d l m q r u x y z;obtain⟨b,b,rfl⟩:=h.iface;simp only[PS,an_,ac_,a8_,or_false]at hp;rcases hp with⟨rfl,rfl⟩|⟨rfl,rfl⟩|⟨rfl,rfl⟩|⟨rfl,rfl⟩|⟨rfl,rfl⟩|⟨rfl,rfl⟩|⟨rfl,rfl⟩|⟨rfl,rfl⟩|⟨rfl,rfl⟩|⟨rfl,rfl⟩;all_goals
  go_in;go_wp2_with (first
   |(go_at_call 20;apply(f.o _ D_).mono;rintro e w' ⟨rfl,rfl⟩)
   |go_in)
  go_ret;exact⟨rfl,rfl⟩
section
variable {A:Bb} {w:Aw} {n:Nat} {E:Ax}
def wP(S:yF A w)(h:xD w (A 7) n E):Calls prog 10 #[E] w λe w'=>e=.returned (Z_ 1)/\w'=w:=xI S D_ D_ h
def kq(S:yF A w)(h:xD w (A 0) n E):Calls prog 10 #[E] w λe w'=>e=.returned (Z_ 2)/\w'=w:=xI S D_ D_ h
def wF(S:yF A w)(h:xD w (A 1) n E):Calls prog 10 #[E] w λe w'=>e=.returned (Z_ 3)/\w'=w:=xI S D_ D_ h
def wq(S:yF A w)(h:xD w (A 2) n E):Calls prog 10 #[E] w λe w'=>e=.returned (Z_ 4)/\w'=w:=xI S D_ D_ h
def kW(S:yF A w)(h:xD w (A 3) n E):Calls prog 10 #[E] w λe w'=>e=.returned (Z_ 5)/\w'=w:=xI S D_ D_ h
def pz(S:yF A w)(h:xD w (A 4) n E):Calls prog 10 #[E] w λe w'=>e=.returned (Z_ 6)/\w'=w:=xI S D_ D_ h
def jr(S:yF A w)(h:xD w (A 5) n E):Calls prog 10 #[E] w λe w'=>e=.returned (Z_ 7)/\w'=w:=xI S D_ D_ h
def qW(S:yF A w)(h:xD w (A 9) n E):Calls prog 10 #[E] w λe w'=>e=.returned (Z_ 1)/\w'=w:=xI S D_ D_ h
end
def gX{w:Aw}{d:DT}{bt:Av}{bx:Ax}(hv:kY w P d v)(hn:ndT d<=1000000000)(l:vw 5 w bt bx):Calls prog 30 #[v] w λe w'=>e=.returned (if ndT d > 300 then .iface bt bx else .nilIface)/\Fr w w' N_:=by
 refine hq_ λm f=>?_;have h:=zy (Yk (ndT d) d l_ hn w P v hv);obtain⟨T,x,rfl⟩:=hv.iface;by_cases g:ndT d > 300
 .have k:(ndT d:Int) > 300:=M_;rw[i_ g]at f;go_in;go_wp2_with (go_at_call 47;apply h.o.mono;rintro e q ⟨rfl,b⟩;have m:=l.fr b id;unfold vw at m;replace b:=zy b);try go_ret
  rw[f.o];exact⟨rfl,b⟩
 .have k:¬(ndT d:Int) > 300:=M_;rw[n_ g]at f;go_in;go_wp2_with (go_at_call 47;apply h.o.mono;rintro e q ⟨rfl,b⟩;replace b:=zy b);try go_ret
  rw[f.o];exact⟨rfl,b⟩
def YF{A:Bb}{w:Aw}(S:yF A w):Calls prog 19 #[.nilIface] w λe w'=>e=.returned (.bool false)/\w'=w:=by
 have d:=S.var 7 D_;have f:=S.var 8 D_;have g:=S.var 9 D_;unfold vw at d f g;have b:=Vx;go_in;go_wp2_with (go_at_call 20;apply(b _ _).mono;rintro e w' ⟨rfl,rfl⟩);try go_ret
 exact⟨rfl,rfl⟩
def Yv{A:Bb}{w:Aw}(S:yF A w):Calls prog 10 #[.nilIface] w λe w'=>e=.returned (O_)/\w'=w:=by
 have f:=S.var 0 D_;have g:=S.var 1 D_;have h:=S.var 2 D_;have k:=S.var 3 D_;have l:=S.var 4 D_;have m:=S.var 5 D_;have q:=S.var 6 D_;unfold vw at f g h k l m q;have b:=Vx;have d:=zy (YF S);go_in;go_wp2_with (first
  |(go_at_call 19;apply d.o.mono;rintro e w' ⟨rfl,rfl⟩)
  |(go_at_call 20;apply(b _ _).mono;rintro e w' ⟨rfl,rfl⟩))
 try go_ret
 exact⟨rfl,rfl⟩
def uS(A:Bb):cJ:=
 ⟨414,.pointer (some (A 7)),414,.pointer (some (A 0)),414,.pointer (some (A 1)),414,.pointer (some (A 2)),414,.pointer (some (A 3))⟩
def yF.errs{A:Bb}{w:Aw}(S:yF A w):(uS A).At w:=
 ⟨S.var _ D_,S.var _ D_,S.var _ D_,S.var _ D_,S.var _ D_⟩
def jv.chain{A:Bb}{w:Aw}(h:jv w lo (uS A).nt (uS A).nx v):∃n,xD w (A 3) n v:=by
 induction h with
 |base=>exact⟨0,.leaf⟩
 |within g hg tx hb h b=>
  obtain⟨n,b⟩:=b;exact⟨n+1,.within g tx _ n hb b⟩
def jx.fr{E:cJ}{w:Aw}(h:jx E w lo ev a)(hf:Fr w w' N_):jx E w' lo ev a:=by
 rcases h with h|h|⟨h1,b⟩|⟨h1,b⟩|⟨h1,b⟩|⟨h1,d,b,e⟩
 .exact .inl h
 .exact .inr (.inl h)
 .exact .inr (.inr (.inl ⟨h1,b.fr hf u_⟩))
 .exact .inr (.inr (.inr (.inl ⟨h1,b.fr hf u_⟩)))
 .exact .inr (.inr (.inr (.inr (.inl ⟨h1,b.fr hf u_⟩))))
 .exact .inr (.inr (.inr (.inr (.inr ⟨h1,d,b.fr hf u_,e.fr hf u_⟩))))
def jx.zero{E:cJ}{w:Aw}(h:jx E w lo ev a)(h0:a.1=0):a.2=0/\ev=.nilIface:=by
 rcases h with⟨_,b,d⟩|⟨h1,_⟩|⟨h1,_⟩|⟨h1,_⟩|⟨h1,_⟩|⟨h1,_⟩
 .exact⟨b,d⟩
 all_goals (rw[h1]at h0;exact absurd h0 D_)
def jx.num{A:Bb}{w:Aw}(S:yF A w)(h:jx (uS A) w lo ev a)(h0:a.1≠0):∃T x,ev=.iface T x/\Calls prog 10 #[ev] w λe w'=>e=.returned (Z_ a.1)/\w'=w:=by
 have key:∀(v:Value) (p:Int) (f:Value),zA w lo v p f->∃T x,v=.iface T x:=λv p f ⟨g,_,h,_⟩=>⟨_,_,h⟩;have k:∀(v:Value) (p:Int) (f:Value) (b:Addr) (n:Nat),zA w lo v p f->xD w b n f->xD w b (n+1) v:=λv p f b n ⟨g,_,h,hb⟩ hc=>h▸.fault g p f n hb hc;rcases h with⟨h1,_⟩|⟨h1,d,l⟩|⟨h1,d⟩|⟨h1,d⟩|⟨h1,d⟩|⟨h1,f,d,l⟩
 .exact absurd h1 h0
 .refine⟨_,_,l,?_⟩;rw[h1,l];exact wP S .leaf
 .obtain⟨T,x,hv⟩:=key _ _ _ d;refine⟨T,x,hv,?_⟩;rw[h1];exact kq S (k _ _ _ _ _ d .leaf)
 .obtain⟨T,x,hv⟩:=key _ _ _ d;refine⟨T,x,hv,?_⟩;rw[h1];exact wF S (k _ _ _ _ _ d .leaf)
 .obtain⟨T,x,hv⟩:=key _ _ _ d;refine⟨T,x,hv,?_⟩;rw[h1];exact wq S (k _ _ _ _ _ d .leaf)
 .obtain⟨T,x,hv⟩:=key _ _ _ d;obtain⟨n,hc⟩:=l.chain;refine⟨T,x,hv,?_⟩;rw[h1];exact kW S (k _ _ _ _ _ d hc)
mutual
def cD:∀t:PT,xL t->brT false t
 | .leaf _ _,_=>by unfold brT;trivial
 | .wrap _ _ t,h=>by unfold brT;unfold xL at h;exact cD t h
 | .alts _ l,h=>by unfold brT;unfold xL at h;exact⟨.inr h.1,oA l h.2⟩
def oA:∀l:List PT,(∀t∈l,xL t)->th false l
 | [],_=>by unfold th;trivial
 |t::r,h=>by unfold th;exact⟨cD t (h t (b2_ ..)),oA r (λu hu=>h u (List.mem_cons_of_mem _ hu))⟩
end
def vi(hs:s.size<=300)(h:zi s=.ok (ds,t))(hn:xP ds t=[])(hu:xi ds t=[]):vb ds/\brE false ds/\brT false t/\okT (zx ds) t/\jT (zx ds):=by
 obtain⟨b,d,_,_,_⟩:=jD h;rw[hn]at b;rw[hu]at d;have hw:wrU (zx ds) (jb ds++za t) (jO [] ds (-1))<0:=by rw[b];decide
 have hm:mix t (qb ds (-1))<0:=by rw[d];decide
 obtain⟨b,d,_,_⟩:=ue hs h hw hm;have hg:=(ma hs h hn hu).1;refine⟨hg,λc fs e f hf=>cD _ ((hg c _ e).1.2.2 f hf),cD t (xJ hs h).2.1,d,b⟩
def gM(w:Aw)(ev:Ax)(n:Int):Prop:=∀W,Fr w W N_->Calls prog 10 #[ev] W λe w'=>e=.returned (Z_ n)/\w'=W
def gM.fr{w:Aw}{n:Int}(h:gM w ev n)(hf:Fr w W N_):gM W ev n:=λV b=>h V (hf.trans b u_)
def jx.numIs{A:Bb}{w:Aw}(S:yF A w)(h:jx (uS A) w lo ev a)(h0:a.1≠0):gM w ev a.1:=λW b=>by
 obtain⟨_,_,_,h⟩:=(h.fr b).num (S.fr b) h0;exact h
def fk{A:Bb}{w:Aw}(S:yF A w):gM w .nilIface 0:=λ_ b=>Yv (S.fr b)
def xz(s bs:BA):BA×Nat×Int:=
 if (zu s).1=0 then
  if 4000<bs.size then (noB,0,1)
  else match zi s with
   | .error _=>(noB,0,0)
   | .ok (ds,t)=>match rdB bs (zx ds) 301 t 0 0 with
    | .error e0=>(noB,0,(e0:Int))
    | .ok (d,j,_)=>(txT (zx ds) d t,j,0)
 else (noB,0,(zu s).1)
def GK(R:Nat->Nat->Except Nat (DT×Nat×Nat)):Prop:=∀i n e,R i n=.error e->e=6\/e=7
def rN{R:Nat->Nat->Except Nat (DT×Nat×Nat)}(d:GK R):∀(c:Nat) (b:Option BA) (i n e:Nat),xy R s keyed c b i n=.error e->e=6\/e=7
 | 0,b,i,n,e,h=>by simp[xy]at h
 |c+1,b,i,n,e,h=>by
  unfold xy at h;split at h
  .cases h;exact .inl rfl
  .split at h
   .rename_i he;cases h;exact d _ _ _ he
   .split at h
    .rename_i he;cases h;exact rN d c _ _ _ _ he
    .cases h
def mA{R:PT->Nat->Nat->Except Nat (DT×Nat×Nat)}(b:∀t,GK (R t)):∀(ts:List PT) (i n e:Nat),yZ R ts i n=.error e->e=6\/e=7
 | [],i,n,e,h=>by simp[yZ]at h
 |t::r,i,n,e,h=>by
  unfold yZ at h;split at h
  .rename_i he;cases h;exact b _ _ _ _ he
  .split at h
   .rename_i he;cases h;exact mA b r _ _ _ he
   .cases h
def XY(s:BA)(env:Au):∀(f:Nat) (t:PT),GK (rdB s env f t):=by
 intro f;induction f with
 |zero=>intro t i n e h;simp only[rdB]at h;cases h;exact .inr rfl
 |succ f ih=>
  intro t i n e h;unfold rdB at h;split at h
  .cases h;exact .inr rfl
  .split at h
   .unfold wK at h;split at h
    .cases h
    .split at h
     .split at h
      .cases h
      .cases h;exact .inl rfl
     .split at h
      .split at h
       .cases h;exact .inl rfl
       .cases h
      .split at h
       .split at h
        .cases h;exact .inl rfl
        .cases h
       .split at h
        .split at h
         .cases h;exact .inl rfl
         .cases h
        .split at h
         .cases h;exact .inl rfl
         .unfold jz at h;split at h
          .split at h
           .rename_i he;cases h;exact mA ih _ _ _ _ he
           .cases h
          .split at h
           .cases h;exact .inl rfl
           .cases h
          .split at h
           .cases h;exact .inl rfl
           .cases h
   .unfold wQ at h;split at h
    .cases h;exact .inl rfl
    .split at h
     .rename_i he;cases h;exact rN (ih _) _ _ _ _ _ he
     .cases h
   .unfold qt at h;split at h
    .cases h;exact .inl rfl
    .split at h
     .cases h;exact .inl rfl
     .split at h
      .rename_i he;cases h;exact ih _ _ _ _ he
      .cases h
def sX(A:Bb):ja:=⟨414,.pointer (some (A 4)),414,.pointer (some (A 5))⟩
def jv.chainOf{w:Aw}{a:Addr}(h:jv w lo 414 (.pointer (some a)) v):∃n,xD w a n v:=by
 induction h with
 |base=>exact⟨0,.leaf⟩
 |within g hg tx hb h b=>
  obtain⟨n,b⟩:=b;exact⟨n+1,.within g tx _ n hb b⟩
def cA{A:Bb}{w:Aw}{b:Nat}(S:yF A w)(he:b=6\/b=7)(h:jv w lo ((sX A).t b) ((sX A).x b) ev):gM w ev (b:Int):=λW d=>by
 have e:=h.fr d u_;rcases he with rfl|rfl
 .obtain⟨n,hc⟩:=jv.chainOf e;exact pz (S.fr d) hc
 .obtain⟨n,hc⟩:=jv.chainOf e;exact jr (S.fr d) hc
mutual
def jt:∀t:PT,xL t->xA t
 | .leaf _ _,_=>by unfold xA;trivial
 | .wrap _ _ t,h=>by unfold xA;unfold xL at h;exact jt t h
 | .alts _ l,h=>by unfold xA;unfold xL at h;exact⟨h.1,nX l h.2⟩
def nX:∀l:List PT,(∀t∈l,xL t)->fU l
 | [],_=>by unfold fU;trivial
 |t::r,h=>by unfold fU;exact⟨jt t (h t (b2_ ..)),nX r (λu hu=>h u (List.mem_cons_of_mem _ hu))⟩
end
def bD(hg:vb ds):JH (zx ds):=λc _ e=>⟨(hg c _ e).1.1,λg b=>jt _ ((hg c _ e).1.2.2 g b)⟩
def GG(s bs:BA):Prop:=(zu s).1=0->bs.size<=4000->∀ds t d j m,zi s=.ok (ds,t)->rdB bs (zx ds) 301 t 0 0=.ok (d,j,m)->okD d
def qC(w:Aw)(s bs:BA)(e:Ak)(w':Aw):Prop:=∃ev,e=.returned (.tuple #[.string (xz s bs).1,Z_ ((xz s bs).2.1:Int),ev])/\Fr w w' N_/\gM w' ev (xz s bs).2.2/\GG s bs
def cq23_{p:Prop}(h:p:=by
 (first|(have:=cc1;intro V b;obtain⟨ds',t',xs,hs,e,hn,hu,D,d,_⟩:=hM)|(obtain⟨ds',t',xs,hs,e,hn,hu,D,d⟩:=hM));rw[hp]at e;cases e;obtain⟨k,l,f3,f4,_⟩:=vi hs hp hn hu;(first|(have:=cc1)|(obtain⟨sa,sc,rfl⟩:=zw D.row));obtain⟨rT,rx,rfl⟩:=d.iface;(first|(have:=cc1)|(refine⟨sa,_,sc,rT,rx,rfl,rfl,λo=>?_⟩;have b:Fr w1 (w1.alloc o) N_:=(A_ w1 _).alloc o));have hz:=b.size;exact tX (w0:=w) (D.fr b u_) (d.fr b u_) ((yy.refl w).fr (hf.trans b u_) l_ (λ_ f=>f.elim)) (by have:=hf.size;omega) (λg hg=>M_) (S.var 4 D_) (S.var 5 D_) hd f4 (jt t (xJ hs hp).2.1) k (bD k) hI hQ):p:=h
def WU{A:Bb}{w w1:Aw}{sv rv:Ax}(S:yF A w)(hI:yg w)(hQ:yk w)(hp:zi s=.ok (ds,t))(hM:Cw w.heap.size w1 s sv rv)(hf:Fr w w1 N_)(hd:bs.size<=4000):∃sa sn sc rT rx,sv=.slice sa sn sc/\rv=.iface rT rx/\∀o,Calls prog 28 #[.agg #[sv,rv],.string bs] (w1.alloc o) (em (zx ds) t (w1.alloc o) (sX A) (rdB bs (zx ds) 301 t 0 0)):=by
 exact cq23_
def YD{A:Bb}{w:Aw}(S:yF A w)(C:yg w)(F:yk w)(J:xW w)(I:xC w):Calls prog 14 #[.string s,.string bs] w (qC w s bs):=by
 refine hq_ λa0 H=>?_;have K:=zy (VD (s:=s) S.errs C F (XF J));by_cases h0:(zu s).1=0
 .cases hp:zi s with
  |error k=>
   exfalso;unfold zu at h0;rw[hp]at h0;split at h0<;>simp at h0
  |ok r=>
   obtain⟨ds,t⟩:=r;by_cases hd:4000<bs.size
   .have m:=zy (show xz s bs=(noB,0,1) by unfold xz;rw[i_ h0,i_ hd]);have z:=zy (λ(W:World) (sa sn sc rT rx) (G:Fr w W N_)=>cE (w:=W) (sa:=sa) (sn:=sn) (sc:=sc) (rT:=rT) (rx:=rx) (s:=bs) ((S.fr G).var 9 D_) hd);replace h0:=zy h0;replace S:=zy S;replace hp:=zy hp;replace hd:=zy hd;go_in;go_wp2_with (first
     |(go_at_call 27;apply K.o.mono;rintro e w1 ⟨sv,rv,ev,rfl,-,-,b,l,y⟩;obtain⟨_,rfl⟩:=l.zero h0;obtain⟨ds',t',xs,hs',L,B,M,D,g⟩:=y h0;obtain⟨sa,sc,rfl⟩:=zw D.row;obtain⟨rT,rx,rfl⟩:=g.iface;replace b:=zy b)
     |(go_at_call 28;apply(z.o _ _ _ _ _ _ (b.o.alloc _)).mono;rintro e R ⟨rfl,u⟩;replace u:=zy u))
    refine bodyPost_ret (v:=.tuple #[.string noB,O_,.iface 414 (.pointer (some (A 9)))]) yd_ rfl ?_;rw[H.o];unfold qC;rw[m.o];have hf:=(b.o.alloc _).trans u u_;exact⟨_,rfl,hf,λW G=>qW ((S.o.fr hf).fr G) .leaf,λ_ h=>absurd hd.o M_⟩
   .have M:bs.size<=4000:=M_;have O:=zy (λw1 sv rv=>WU (w1:=w1) (bs:=bs) (sv:=sv) (rv:=rv) S C F hp);have m:xz s bs=match rdB bs (zx ds) 301 t 0 0 with | .error e0=>(noB,0,(e0:Int)) | .ok (d,j,_)=>(txT (zx ds) d t,j,0):=by unfold xz;rw[i_ h0,n_ hd,hp]<;>rfl
    replace h0:=zy h0;replace S:=zy S;replace hp:=zy hp;cases g:rdB bs (zx ds) 301 t 0 0 with
    |error e0=>
     rw[g]at m;have he:=zy (XY bs (zx ds) 301 t 0 0 e0 g);replace m:=zy m;replace g:=zy g;go_in;go_wp2_with (first
      |(go_at_call 27;apply K.o.mono;rintro e w1 ⟨sv,rv,ev,rfl,-,-,b,l,y⟩;obtain⟨_,rfl⟩:=l.zero h0;obtain⟨sa,sn,sc,rT,rx,rfl,rfl,z⟩:=O.o w1 sv rv (y h0) b M;replace b:=zy b;replace z:=zy z)
      |(go_at_call 28;apply(z.o _).mono;rintro e R ⟨v2,Q,X,rfl,u,hm⟩;rw[g.o]at hm;obtain⟨rfl,rfl,hm⟩:=hm;obtain⟨L,U,rfl⟩:=hm.iface;replace hm:=zy hm;replace u:=zy u))
     refine bodyPost_ret (v:=.tuple #[.string noB,O_,.iface L U]) yd_ rfl ?_;rw[H.o];unfold qC;rw[m.o];have hf:=(b.o.alloc _).trans u u_;exact⟨_,rfl,hf,cA (S.o.fr hf) he hm,λ_ _ ds' t' V j' m' h1 B=>by rw[hp.o]at h1;cases h1;rw[g.o]at B;cases B⟩
    |ok q=>
     obtain⟨d,j,mm⟩:=q;have hn:=(lV bs (zx ds) 301 t 0 0 d j mm g).2;have hg:=qK bs (zx ds) 301 t 0 0 d j mm o_ M_ g;have Y:8022*ndT d<=90000000:=M_;rw[g]at m;replace m:=zy m;replace g:=zy g;replace hn:=zy hn;replace hg:=zy hg;go_in;go_wp2_with (first
      |(go_at_call 27;apply K.o.mono;rintro e w1 ⟨sv,rv,ev,rfl,-,-,b,l,y⟩;obtain⟨_,rfl⟩:=l.zero h0;obtain⟨sa,sn,sc,rT,rx,rfl,rfl,z⟩:=O.o w1 sv rv (y h0) b M;replace b:=zy b;replace z:=zy z)
      |(go_at_call 28;apply(z.o _).mono;rintro e R ⟨v2,Q,X,rfl,u,hm⟩;rw[g.o]at hm;obtain⟨rfl,rfl,hm⟩:=hm;have hf:=(b.o.alloc _).trans u u_;have Z:=zy hm.dat.ok;have G:=zy (fO (w0:=w) I hm hf.size ((yy.refl w).fr hf l_ (λ_ f=>f.elim)) Y);obtain⟨L,U,rfl⟩:=hm.iface;replace hf:=zy hf)
      |(go_at_call 18;apply G.o.mono;rintro e u ⟨rfl,u⟩;replace u:=zy u))
     refine bodyPost_ret (v:=.tuple #[.string (txT (zx ds) d t),I_ Q,.nilIface]) (by simp[results,results14,go_sem]) rfl ?_;rw[H.o];unfold qC;rw[m.o];have N:=hf.o.trans u u_;exact⟨_,rfl,N,fk (S.o.fr N),λ_ _ ds' t' V j' m' h1 B=>by rw[hp.o]at h1;cases h1;rw[g.o]at B;cases B;exact Z⟩
 .have m:=zy (show xz s bs=(noB,0,(zu s).1) by unfold xz;rw[n_ h0]);replace h0:=zy h0;replace S:=zy S;go_in;go_wp2_with (go_at_call 27;apply K.o.mono;rintro e w1 ⟨sv,rv,ev,rfl,⟨sa,sn,sc,rfl⟩,g,b,l,-⟩;have hk:=zy (l.numIs (S.o.fr b) h0);obtain⟨T,x,rfl,_⟩:=l.num (S.o.fr b) h0;replace b:=zy b;rcases g with rfl|⟨rT,rx,rfl⟩);all_goals
   refine bodyPost_ret (v:=.tuple #[.string noB,O_,.iface T x]) yd_ rfl ?_;rw[H.o];unfold qC;rw[m.o];exact⟨_,rfl,b.o.alloc _,hk.o.fr ((A_ _ _).alloc _),λh=>absurd h h0⟩
def oZ{A:Bb}{w:Aw}(S:yF A w)(m:yg w)(r:yk w)(q:xW w)(l:xC w):Calls prog 7 #[.string s,.string bs] w λe w'=>e=.returned (.tuple #[.string (xz s bs).1,Z_ ((xz s bs).2.1:Int),Z_ (xz s bs).2.2])/\Fr w w' N_/\GG s bs:=by
 refine hq_ λu k=>?_;have d:=YD (s:=s) (bs:=bs) S m r q l;unfold qC at d;obtain⟨b,hb⟩:=x_ ((xz s bs).1);obtain⟨j,h⟩:=x_ ((xz s bs).2.1);obtain⟨n,hn⟩:=x_ ((xz s bs).2.2);rw[hb,h,hn]at k;rw[hb,h,hn]at d;replace d:=zy d;go_in;go_wp2_with (first
  |(go_at_call 14;apply d.o.mono;rintro e w1 ⟨ev,rfl,g,d,f⟩;replace g:=zy g;replace f:=zy f;have hk:=zy (d w1 (A_ _ _)))
  |(go_at_call 10;apply hk.o.mono;rintro e d ⟨rfl,rfl⟩))
 refine bodyPost_ret (v:=.tuple #[.string b,I_ j,Z_ n]) (by simp[results,results7,go_sem]) rfl ?_;rw[k.o];exact⟨rfl,g,f⟩
def gV(s:BA)(i:Nat):bt s i=(s.data.toList.getD i 0).toNat:=by
 unfold bt;rw[aw_];split
 .rename_i h;have b:i<s.data.toList.length:=by rw[Array.length_toList];exact h
  rw[ak_ b];rfl
 .rename_i h;rw[bl_ (by rw[Array.length_toList];exact Nat.le_of_not_lt h)];rfl
def Xz(a b:BA)(k:Nat):bt (a++b) k=if k<a.size then bt a k else bt b (k-a.size):=by
 have e:(a++b).data.toList=a.data.toList++b.data.toList:=x8_
 have hl:a.data.toList.length=a.size:=Array.length_toList;rw[gV,e];split
 .rw[gV,aw_,aw_,aq_ M_]
 .rw[gV,aw_,aw_,au_ M_,hl]
def At(s:BA)(i:Nat)(b:BA):Prop:=i+b.size<=s.size/\∀k,k<b.size->bt s (i+k)=bt b k
def At.app{a b:BA}:At s i (a++b)↔At s i a/\At s (i+a.size) b:=by
 unfold At;rw[ar_];constructor
 .rintro⟨h1,d⟩;refine⟨⟨M_,λk hk=>?_⟩,M_,λk hk=>?_⟩
  .rw[d k M_,Xz,i_ hk]
  .rw[bw_,d (a.size+k) M_,Xz,n_ M_,cg_]
 .rintro⟨⟨h1,d⟩,e,e⟩;refine⟨M_,λk hk=>?_⟩;rw[Xz];split
  .exact d k zq_
  .rw[<- e (k-a.size) M_]
   congr 1
   omega
def uO{k:Nat}(h:i+k<j)(b:j<=s.size):bt (s.extract i j) k=bt s (i+k):=by
 have hs:(s.extract i j).size=j-i:=z2_
 rw[gV,gV]
 congr 1
 rw[aw_,aw_]
 congr 1
 rw[ByteArray.data_extract,Array.toList_extract,List.extract_eq_take_drop,List.getElem?_take_of_lt M_,List.getElem?_drop]
def At.ext(h:i<=j)(b:j<=s.size):At s i (s.extract i j):=by
 have hs:(s.extract i j).size=j-i:=z2_
 exact⟨M_,λk hk=>(uO M_ b).symm⟩
def KA:noB.size=0:=rfl
def At.nil(h:i<=s.size):At s i noB:=⟨h,λk hk=>absurd hk (by rw[KA];omega)⟩
def Gy:∀(l:List Nat) (k:Nat),bt (bts l) k=l.getD k 0 % 256:=by
 intro l k;rw[gV];show(((l.map UInt8.ofNat)).getD k 0).toNat=_;rw[aw_,aw_,as_];cases l[k]?<;>simp
def At.cons{l:Ao}(hc:c<256):At s i (bts (c::l))↔i<s.size/\bt s i=c/\At s (i+1) (bts l):=by
 have e:bts (c::l)=bts [c]++bts l:=YO [c] l;have h1:(bts [c]).size=1:=zU [c];rw[e,At.app,h1];constructor
 .rintro⟨⟨a,b⟩,d⟩;have:=b 0 M_;rw[Gy]at this;refine⟨M_,?_,d⟩;simpa[Nat.mod_eq_of_lt hc] using this
 .rintro⟨a,b,d⟩;refine⟨⟨M_,λk hk=>?_⟩,d⟩;obtain rfl:k=0:=M_;rw[Gy];simpa[Nat.mod_eq_of_lt hc] using b
def At.one(hc:c<256):At s i (bts [c])↔i<s.size/\bt s i=c:=by
 rw[At.cons hc];constructor
 .rintro⟨a,b,_⟩;exact⟨a,b⟩
 .rintro⟨a,b⟩;exact⟨a,b,At.nil a⟩
def dc(x:BA):Prop:=∀k,k<x.size->97<=bt x k/\bt x k<=122
def Gc:Option BA->List BA->Prop
 | _,[]=>True
 |last,k::r=>kV last k=true/\dc k/\k.size<=9223372036854775807/\Gc (some k) r
inductive Dat (env:Au):DT->PT->Prop
 |null {p:Nat}:Dat env (.mk 110 0 noB [] []) (.leaf 110 p)
 |bool {p n:Nat} (h:n<=1):Dat env (.mk 116 (n:Int) noB [] []) (.leaf 116 p)
 |num {p:Nat} {n:Int} (h0 : -2147483648<=n) (h1:n<=2147483647):Dat env (.mk 105 n noB [] []) (.leaf 105 p)
 |long {p:Nat} {n:Int} (h0 : -9223372036854775808<=n) (h1:n<=9223372036854775807):Dat env (.mk 108 n noB [] []) (.leaf 108 p)
 |text {p:Nat} {x:BA} (h:dc x) (h1:x.size<=9223372036854775807):Dat env (.mk 115 0 x [] []) (.leaf 115 p)
 |bytes {c p:Nat} {x:BA} (he:env c=some (.bytes x.size)) (hb:zr c=false) (h:dc x):Dat env (.mk 102 0 x [] []) (.leaf c p)
 |sym {c p n:Nat} {l:List (Nat×Nat)} {o:Option (Nat×Nat)} (he:env c=some (.enum l o)) (hb:zr c=false) (hn:n<l.length):Dat env (.mk 101 (n:Int) noB [] []) (.leaf c p)
 |recd {c p:Nat} {fs:List PF} {ds:List DT} (he:env c=some (.recd fs)) (hb:zr c=false) (hl:ds.length=fs.length) (h:∀(i:Nat) (d:DT) (t:PT),ds[i]?=some d->(fs.map PF.ty)[i]?=some t->Dat env d t):Dat env (.mk 114 0 noB [] ds) (.leaf c p)
 |list {p:Nat} {u:PT} {ds:List DT} (hl:ds.length<=9223372036854775807) (h:∀d∈ds,Dat env d u):Dat env (.mk 91 0 noB [] ds) (.wrap 91 p u)
 |map {p:Nat} {u:PT} {ks:List BA} {ds:List DT} (hl:ds.length<=9223372036854775807) (hk:ks.length=ds.length) (hr:Gc none ks) (h:∀d∈ds,Dat env d u):Dat env (.mk 123 0 noB ks ds) (.wrap 123 p u)
 |alts {n p:Nat} {l:List PT} {u:PT} {d:DT} (hn:n<=9223372036854775807) (hl:l[n]?=some u) (h:Dat env d u):Dat env (.mk 40 (n:Int) noB [] [d]) (.alts p l)
def XL:∀(f i z j:Nat),wB s f i=some (z,j)->∀g,f<=g+1->At s i (bts (iY g z))/\j=i+(bts (iY g z)).size
 | 0,i,z,j,h,g,hg=>by simp[wB]at h
 |f+1,i,z,j,h,g,hg=>by
  unfold wB at h;split at h
  .rename_i hi;split at h
   .rename_i hb;simp only[af_,ac_]at h;obtain⟨rfl,rfl⟩:=h;have e:iY g (bt s i)=[bt s i]:=by cases g<;>simp[iY,hb]
    rw[e,zU];exact⟨(At.one (fC s i)).2 ⟨hi,rfl⟩,rfl⟩
   .rename_i hb;split at h
    .simp at h
    .rename_i b j' he;split at h
     .simp at h
     .rename_i hz;simp only[af_,ac_]at h;obtain⟨rfl,rfl⟩:=h;have hl:=fC s i;have hf:1<=f:=by
       cases f
       .simp[wB]at he
       .omega
      obtain⟨g',rfl⟩:∃g',g=g'+1:=⟨g-1,M_⟩;have e:iY (g'+1) (bt s i-128+128*b)=bt s i::iY g' b:=by
       rw[iY,n_ M_,show(bt s i-128+128*b) % 128+128=bt s i by omega,show(bt s i-128+128*b) / 128=b by omega]
      obtain⟨h1,d⟩:=XL f (i+1) b j' he g' M_;rw[e,At.cons hl];refine⟨⟨hi,rfl,h1⟩,?_⟩;rw[d,zU,zU,ay_];omega
  .simp at h
def Wa(z:Nat):Wo (fN z)=z:=by
 unfold Wo fN;split<;>split<;>omega
def Bp{n:Int}(h:bL s i=some (n,j)):At s i (xU n)/\j=i+(xU n).size:=by
 unfold bL at h;split at h
 .simp at h
 .rename_i z j' he;split at h
  .simp only[af_,ac_]at h;obtain⟨rfl,rfl⟩:=h;unfold xU leb;rw[Wa];exact XL 10 i z _ he 10 M_
  .simp at h
def bO{lo hi:Int}{n:Int}(h:qp s lo hi i=some (n,j)):lo<=n/\n<=hi/\At s i (xU n)/\j=i+(xU n).size:=by
 unfold qp at h;split at h
 .simp at h
 .rename_i b j' he;split at h
  .rename_i hb;simp only[af_,ac_]at h;obtain⟨rfl,rfl⟩:=h;exact⟨hb.1,hb.2,Bp he⟩
  .simp at h
def Zz{n:Nat}{x:BA}(hi:i<=s.size)(h:je s i n=some (x,j)):At s i x/\j=i+x.size/\x.size=n/\dc x:=by
 obtain⟨e,b,f,d⟩:=wa hi h;unfold je at h;split at h
 .rename_i hb;simp only[af_,ac_]at h;obtain⟨rfl,rfl⟩:=h;refine⟨At.ext M_ b,M_,d,λk hk=>?_⟩;rw[uO M_ b];exact qo 97 122 s (s.size-i) i l_ (i+k) M_ (by unfold ze at hb;omega)
 .simp at h
def nL{x:BA}(h:vM s i=some (x,j)):At s i (xU x.size++x)/\j=i+(xU x.size++x).size/\dc x/\x.size<=9223372036854775807:=by
 unfold vM at h;split at h
 .simp at h
 .rename_i n j' he;obtain⟨f,g,b,rfl⟩:=bO he;obtain⟨b1,b2,b3,d⟩:=Zz b.1 h;have e:(x.size:Int)=n:=M_;rw[e,At.app,ar_];exact⟨⟨b,b1⟩,M_,d,M_⟩
def rC:∀(ds:List DT) (ks b:List BA),qg false ks ds=qg false b ds
 | [],_,_=>by simp[qg]
 |d::r,ks,b=>by
  simp only[qg];rw[rC r ks.tail b.tail];simp
def Mz(env:Au)(s:BA)(R:Nat->Nat->Except Nat (DT×Nat×Nat))(t:PT):Prop:=
 ∀i n d j m,i<=s.size->R i n=.ok (d,j,m)->Dat env d t/\At s i (byT d)/\j=i+(byT d).size
def FC(keyed:Ar)(k:BA):BA:=if keyed=true then xU k.size++k else noB
def Pa{e:Ey}{k:BA}(hi:i<=s.size)(h:pX s keyed e i=some (k,j)):At s i (FC keyed k)/\j=i+(FC keyed k).size/\(keyed=true->kV e k=true/\dc k/\k.size<=9223372036854775807):=by
 unfold pX at h;unfold FC;cases keyed with
 |false=>
  simp only[be_,if_false,af_,ac_]at h⊢;obtain⟨rfl,rfl⟩:=h;exact⟨At.nil hi,rfl,λh=>h.elim⟩
 |true=>
  simp only[if_true]at h⊢;split at h
  .simp at h
  .rename_i f j' he;split at h
   .rename_i hr;simp only[af_,ac_]at h;obtain⟨rfl,rfl⟩:=h;obtain⟨a,b,c,d⟩:=nL he;exact⟨a,b,λ_=>⟨hr,c,d⟩⟩
   .simp at h
def Qg(keyed:Ar)(k:BA)(ks:Dx)(d:DT)(ds:Ae):qg keyed (k::ks) (d::ds)=(FC keyed k++byT d)++qg keyed ks ds:=by
 rw[qg];rfl
def nH{env:Au}{R:Nat->Nat->Except Nat (DT×Nat×Nat)}(o:Mz env s R t):∀(c:Nat) (b:Option BA) (i n:Nat) (l:List (BA×DT)) (j m:Nat),i<=s.size->xy R s keyed c b i n=.ok (l,j,m)->
 l.length=c/\(∀e∈l,Dat env e.2 t)/\(keyed=true->Gc b (l.map Prod.fst))/\At s i (qg keyed (l.map Prod.fst) (l.map Prod.snd))/\j=i+(qg keyed (l.map Prod.fst) (l.map Prod.snd)).size
 | 0,b,i,n,l,j,m,hi,h=>by
  simp only[xy,ae_,ac_]at h;obtain⟨rfl,rfl,rfl⟩:=h;refine⟨rfl,λe he=>(by cases he),λ_=>trivial,?_,?_⟩
  .simp only[ba_,qg];exact At.nil hi
  .simp only[ba_,qg];rfl
 |c+1,b,i,n,l,j,m,hi,h=>by
  unfold xy at h;split at h
  .simp at h
  .rename_i k C hk;obtain⟨q,r,f⟩:=Pa hi hk;split at h
   .simp at h
   .rename_i d D H hd;have:=q.1;obtain⟨d1,g,d3⟩:=o _ _ _ _ _ M_ hd;split at h
    .simp at h
    .rename_i F j' G he;have:=g.1;obtain⟨u,x,y,z,B⟩:=nH o c _ _ _ _ _ _ M_ he;simp only[ae_,ac_]at h;obtain⟨rfl,rfl,rfl⟩:=h;simp only[av_,Qg];refine⟨by simp[u],λe he=>?_,λhk=>⟨(f hk).1,(f hk).2.1,(f hk).2.2,y hk⟩,?_,?_⟩
     .rcases an_.1 he with rfl|he
      .exact d1
      .exact x e he
     .rw[At.app,At.app,ar_];refine⟨⟨q,?_⟩,?_⟩
      .rw[<- r];exact g
      .rw[<- bw_,<- r,<- d3];exact z
     .rw[ar_,ar_];omega
def rS{env:Au}{R:PT->Nat->Nat->Except Nat (DT×Nat×Nat)}:∀(ts:List PT),(∀t∈ts,Mz env s (R t) t)->∀(i n:Nat) (l:List DT) (j m:Nat),i<=s.size->yZ R ts i n=.ok (l,j,m)->
 l.length=ts.length/\(∀(q:Nat) (d:DT) (t:PT),l[q]?=some d->ts[q]?=some t->Dat env d t)/\At s i (qg false [] l)/\j=i+(qg false [] l).size
 | [],hR,i,n,l,j,m,hi,h=>by
  simp only[yZ,ae_,ac_]at h;obtain⟨rfl,rfl,rfl⟩:=h;refine⟨rfl,λq d t hd=>by simp at hd,?_,?_⟩
  .simp only[qg];exact At.nil hi
  .simp only[qg];rfl
 |t::r,hR,i,n,l,j,m,hi,h=>by
  unfold yZ at h;split at h
  .simp at h
  .rename_i d C F hd;obtain⟨d1,g,d3⟩:=hR t (b2_ ..) _ _ _ _ _ hi hd;split at h
   .simp at h
   .rename_i k j' D he;have:=g.1;obtain⟨u,x,y,B⟩:=rS r (λt z=>hR t (List.mem_cons_of_mem _ z)) _ _ _ _ _ M_ he;simp only[ae_,ac_]at h;obtain⟨rfl,rfl,rfl⟩:=h;have e:qg false [] (d::k)=byT d++qg false [] k:=by simp only[qg,List.tail_nil];simp[cF]
    rw[e];refine⟨by simp[u],λq o t' b f=>?_,?_,?_⟩
    .cases q with
     |zero=>simp at b f;subst b f;exact d1
     |succ q=>exact x q o t' (by simpa using b) (by simpa using f)
    .rw[At.app,<- d3];exact⟨g,y⟩
    .rw[ar_];omega
def Ki{env:Au}(L:jT env)(s:BA):∀(f:Nat) (t:PT),okT env t->Mz env s (rdB s env f t) t:=by
 intro f;induction f with
 |zero=>intro t _ i n d j m _ h;simp[rdB]at h
 |succ f ih=>
  intro t B i n d j m hi h;unfold rdB at h;split at h
  .simp at h
  .split at h
   .rename_i c p;unfold wK at h;split at h
    .rename_i hc;subst hc;simp only[ae_,ac_]at h;obtain⟨rfl,rfl,rfl⟩:=h;have e:byT (.mk 110 0 noB [] [])=noB:=by simp[byT,qg,cF]
     rw[e];exact⟨.null,At.nil hi,rfl⟩
    .split at h
     .rename_i hc;subst hc;split at h
      .rename_i hb;simp only[ae_,ac_]at h;obtain⟨rfl,rfl,rfl⟩:=h;have e:byT (.mk 116 (bt s i:Int) noB [] [])=bts [bt s i]:=zm_
       rw[e,zU];exact⟨.bool hb.2,(At.one (fC s i)).2 ⟨hb.1,rfl⟩,rfl⟩
      .simp at h
     .split at h
      .rename_i hc;subst hc;split at h
       .simp at h
       .rename_i q j' he;simp only[ae_,ac_]at h;obtain⟨rfl,rfl,rfl⟩:=h;obtain⟨y,z,b,r⟩:=bO he;have e:byT (.mk 105 q noB [] [])=xU q:=zm_
        rw[e];exact⟨.num y z,b,r⟩
      .split at h
       .rename_i hc;subst hc;split at h
        .simp at h
        .rename_i q j' he;simp only[ae_,ac_]at h;obtain⟨rfl,rfl,rfl⟩:=h;obtain⟨b,r⟩:=Bp he;have hg:=cN he;have e:byT (.mk 108 q noB [] [])=xU q:=zm_
         rw[e];exact⟨.long hg.2.2.1 hg.2.2.2,b,r⟩
       .split at h
        .rename_i hc;subst hc;split at h
         .simp at h
         .rename_i x j' he;simp only[ae_,ac_]at h;obtain⟨rfl,rfl,rfl⟩:=h;obtain⟨y,z,b,r⟩:=nL he;have e:byT (.mk 115 0 x [] [])=xU x.size++x:=zm_
          rw[e];exact⟨.text b r,y,z⟩
        .rename_i h1 H I J K;have hb:zr c=false:=by simp[zr,h1,H,I,J,K]
         split at h
         .simp at h
         .rename_i pb he;have M:=L c pb he;unfold jz at h;split at h
          .rename_i fs;split at h
           .simp at h
           .rename_i ds j' Q hf;simp only[ae_,ac_]at h;obtain⟨rfl,rfl,rfl⟩:=h;obtain⟨y,z,b,r⟩:=rS (fs.map PF.ty) (λt B=>by
             obtain⟨g,hg,rfl⟩:=a3_.1 B
             exact ih g.ty (M g hg)) _ _ _ _ _ hi hf
            have e:byT (.mk 114 0 noB [] ds)=qg false [] ds:=by simp[byT,cF]
            rw[e];exact⟨.recd he hb (by simpa using y) z,b,r⟩
          .rename_i l o;split at h
           .simp at h
           .rename_i q j' C;simp only[ae_,ac_]at h;obtain⟨rfl,rfl,rfl⟩:=h;obtain⟨y,z,b,r⟩:=bO C;obtain⟨q,rfl⟩:∃k:Nat,q=k:=⟨q.toNat,M_⟩;have e:byT (.mk 101 (q:Int) noB [] [])=xU q:=zm_
            rw[e];exact⟨.sym he hb M_,b,r⟩
          .rename_i k;split at h
           .simp at h
           .rename_i x j' hx;simp only[ae_,ac_]at h;obtain⟨rfl,rfl,rfl⟩:=h;obtain⟨y,z,b,r⟩:=Zz hi hx;have e:byT (.mk 102 0 x [] [])=x:=zm_
            rw[e];subst b;exact⟨.bytes he hb r,y,z⟩
   .rename_i c p u;unfold okT at B;unfold wQ at h;split at h
    .simp at h
    .rename_i q j' C;obtain⟨y,z,b,r⟩:=bO C;obtain⟨q,rfl⟩:∃k:Nat,q=k:=⟨q.toNat,M_⟩;split at h
     .simp at h
     .rename_i l N O hl;simp only[ae_,ac_]at h;obtain⟨rfl,rfl,rfl⟩:=h;have:=b.1;obtain⟨b1,b2,b3,D,F⟩:=nH (ih u B.2) _ _ _ _ _ _ _ M_ hl;rw[bs_]at b1;have hd:∀d∈l.map Prod.snd,Dat env d u:=λd hd=>by
       obtain⟨e,he,rfl⟩:=a3_.1 hd;exact b2 e he
      rcases B.1 with rfl|rfl
      .have e:byT (.mk 91 0 noB [] (l.map Prod.snd))=xU q++qg false (l.map Prod.fst) (l.map Prod.snd):=by
        rw[rC (l.map Prod.snd) (l.map Prod.fst) []];simp[byT,b1]
       simp only[show((91:Nat)==123)=false from rfl,be_,if_false]at D F⊢;rw[e,At.app,ar_];refine⟨.list x1_ hd,⟨b,?_⟩,M_⟩;rw[<- r];exact D
      .have e:byT (.mk 123 0 noB (l.map Prod.fst) (l.map Prod.snd))=xU q++qg true (l.map Prod.fst) (l.map Prod.snd):=by simp[byT,b1]
       simp only[show((123:Nat)==123)=true from rfl,if_true]at b3 D F⊢;rw[e,At.app,ar_];refine⟨.map x1_ x8_ (b3 trivial) hd,⟨b,?_⟩,M_⟩;rw[<- r];exact D
   .rename_i p ts;unfold okT at B;unfold qt at h;split at h
    .simp at h
    .rename_i q j' C;obtain⟨y,z,b,r⟩:=bO C;obtain⟨q,rfl⟩:∃k:Nat,q=k:=⟨q.toNat,M_⟩;rw[bs_]at h;have hg:=(yS C);split at h
     .simp at h
     .rename_i u hu;split at h
      .simp at h
      .rename_i G N O hd;simp only[ae_,ac_]at h;obtain⟨rfl,rfl,rfl⟩:=h;have:=b.1;obtain⟨b1,b2,b3⟩:=ih u (vW B.2 u (ag_ hu)).2 _ _ _ _ _ M_ hd;have e:byT (.mk 40 (q:Int) noB [] [G])=xU q++byT G:=by simp[byT,qg,cF,PY]
       rw[e,At.app,ar_];refine⟨.alts M_ hu b1,⟨b,?_⟩,M_⟩;rw[<- r];exact b2
def xE(k:Nat)(n:Int)(x:BA)(ks:Dx)(ds:Ae):ndT (.mk k n x ks ds)=1+zY ds:=by rw[ndT]
def xB(h:zr c=false):c≠110/\c≠116/\c≠105/\c≠108/\c≠115:=by
 simp[zr]at h;omega
section
variable {env:Au}
end
def GS(env:Au):Prop:=∀c l o,env c=some (.enum l o)->(l.map Prod.fst).Nodup/\∀x∈l.map Prod.fst,97<=x/\x<=122
def nJ:∀(l:List (Nat×Nat)) (e:List Nat),qw e l=[]->(∀x∈l.map Prod.fst,x∉e)/\(l.map Prod.fst).Nodup
 | [],_,_=>⟨λx hx=>(by cases hx),List.nodup_nil⟩
 |q::r,e,h=>by
  rw[qw,bv_]at h;obtain⟨h1,f⟩:=h;have g:q.1∉e:=λd=>by rw[i_ d]at h1;cases h1
  obtain⟨a,b⟩:=nJ r _ f;rw[av_];refine⟨λx hx=>?_,List.nodup_cons.2 ⟨λd=>?_,b⟩⟩
  .rcases an_.1 hx with rfl|hx
   .exact g
   .exact λd=>a x hx (by_ _ d)
  .exact a _ d (b4_ _ (a2_.2 rfl))
def nK(env:Au):∀(ds:List PD) (b:List Nat),ke env b ds=[]->∀d∈ds,qc env d.body=[]
 | [],_,_,d,hd=>by cases hd
 |x::r,b,h,d,hd=>by
  rw[ke,bv_,bv_]at h;rcases an_.1 hd with rfl|hd
  .exact h.2.1
  .exact nK env r _ h.2.2 d hd
def cH(h0:(zu s).1=0)(hp:zi s=.ok (ds,t)):s.size<=300/\xP ds t=[]/\xi ds t=[]:=by
 have hs:s.size<=300:=by
  by_cases h:300<s.size
  .unfold zu at h0;rw[i_ h]at h0;exact absurd h0 D_
  .omega
 rw[wS hs hp]at h0;refine⟨hs,?_⟩;split at h0
 .simp at h0
 .simp at h0
 .simp at h0
 .rename_i h1 b _;exact⟨h1,b⟩
def sU(h0:(zu s).1=0)(hp:zi s=.ok (ds,t)):GS (zx ds)/\JH (zx ds)/\xA t/\okT (zx ds) t/\jT (zx ds):=by
 obtain⟨hs,hn,hu⟩:=cH h0 hp;obtain⟨f,_,_,f4,f5⟩:=vi hs hp hn hu;refine⟨λc l o e=>?_,bD f,jt t (xJ hs hp).2.1,f4,f5⟩;unfold xP at hn;rw[bv_]at hn;have k:=f.sm c l o e;have e':=e;unfold zx at e';obtain⟨⟨pb,b⟩,hl,g⟩:=b0_.1 e';simp only at g;subst g;obtain⟨d,hd,hb⟩:=gm hl;have f:=nK _ ds [] hn.1 d hd;rw[hb]at f;unfold qc at f;rw[bv_]at f;refine⟨(nJ l [] f.1).2,λx hx=>?_⟩;obtain⟨q,h,rfl⟩:=a3_.1 hx;have:=k q h;simp[zl]at this;exact this
def Kit(A:Bb)(w:Aw):Prop:=yF A w/\yg w/\yk w/\xW w/\xC w
def Kit.fr{A:Bb}{w:Aw}(h:Kit A w)(hf:Fr w w' N_):Kit A w':=by
 obtain⟨S,f,k,hP,e⟩:=h;have hz:=hf.size;have d:∀W,yy w' W->yy w W:=λW b g hg=>(b g M_).trans (hf.block g hg id);exact⟨S.fr hf,λW b=>f W (d W b),λW b=>k W (d W b),λW b=>hP W (d W b),λW B h0 hB b=>e W B M_ hB (d W b)⟩
def Kit.dec{A:Bb}{w:Aw}(h:Kit A w)(s bs:BA):Calls prog 7 #[.string s,.string bs] w λe w'=>e=.returned (.tuple #[.string (xz s bs).1,Z_ ((xz s bs).2.1:Int),Z_ (xz s bs).2.2])/\Fr w w' N_:=by
 obtain⟨S,d,f,hP,b⟩:=h;exact(oZ S d f hP b).mono λe w' h=>⟨h.1,h.2.1⟩
def jm:PB->Nat×Nat
 | .recd _=>(114,0)
 | .enum _ _=>(101,0)
 | .bytes n=>(102,n)
def yt(ew er:Au):PT->PT->Bool
 | .leaf c _,.leaf c' _=>
  if zr c=true then (c'==c||(c==105&&c'==108))
  else c==c'&&(match ew c,er c' with|some a,some b=>decide (jm a=jm b)|_,_=>false)
 | .wrap c _ _,.wrap c' _ _=>c==c'
 | _,_=>false
def xc(ew er:Au)(w:PT):List PT->Nat->Option Nat->Option Nat
 | [],_,k=>k
 |r::rs,i,k=>xc ew er w rs (i+1) (if (yt ew er w r&&(k.isNone||r.kind==105))=true then some i else k)
def xo{α β:Type}(g:α->Option β):List α->Option (List β)
 | []=>some []
 |a::r=>match g a with|none=>none|some b=>match xo g r with|none=>none|some l=>some (b::l)
def vu(fs:An)(c:Nat):Option Nat:=(fs.map PF.letter).findIdx? (λx=>x==c)
def jY(l:As)(o:Ac)(c:Nat):Option Nat:=
 match (l.map Prod.fst).findIdx? (λx=>x==c) with
 |some q=>some q
 |none=>match o with|none=>none|some (u,_)=>(l.map Prod.fst).findIdx? (λx=>x==u)
def mkF(R:Ex)(df:Dd)(fw:An)(ds:Ae)(g:PF):Option DT:=
 match vu fw g.letter with
 |some i=>match fw[i]?,ds[i]? with|some h,some d=>R h.ty g.ty d|_,_=>none
 |none=>df g
def mkB(R:Ex)(ew er:Au)(df:Dd):PT->PT->DT->Option DT
 | .leaf c _,.leaf c' _,.mk k n tx ks ds=>
  if zr c=true then some (.mk (if c'=108 then 108 else k) n tx ks ds)
  else match ew c,er c' with
   |some (.recd fw),some (.recd fr)=>(xo (mkF R df fw ds) fr).map (λl=>.mk 114 0 noB [] l)
   |some (.enum lw _),some (.enum lr o)=>(jY lr o ((lw.map Prod.fst).getD n.toNat 0)).map (λ(q:Nat)=>DT.mk 101 (q:Int) noB [] [])
   |some (.bytes _),some (.bytes _)=>some (.mk k n tx ks ds)
   | _,_=>none
 | .wrap _ _ u,.wrap _ _ u',.mk k n tx ks ds=>(xo (R u u') ds).map (λl=>.mk k n tx ks l)
 | _,_,_=>none
def mkP(ew er:Au)(df:Dd):Nat->PT->PT->DT->Option DT
 | 0,_,_,_=>none
 |f+1,w,r,d=>
  match w with
  | .alts _ ws=>match d with | .mk _ n _ _ ds=>match ws[n.toNat]?,ds with|some w1,d1::_=>mkP ew er df f w1 r d1|_,_=>none
  |w=>match r with
   | .alts _ rs=>match xc ew er w rs 0 none with
    |none=>none
    |some k=>match rs[k]? with|none=>none|some r1=>(mkB (mkP ew er df f) ew er df w r1 d).map (λx=>.mk 40 (k:Int) noB [] [x])
   |r=>if yt ew er w r=true then mkB (mkP ew er df f) ew er df w r d else none
def ou{α β:Type}{g:α->Option β}:∀{l:List α}{m:List β},xo g l=some m->m.length=l.length/\∀(i:Nat) (a:α) (b:β),l[i]?=some a->m[i]?=some b->g a=some b
 | [],m,h=>by simp only[xo,af_]at h;subst h;exact⟨rfl,λi a b ha=>by simp at ha⟩
 |x::r,m,h=>by
  unfold xo at h;split at h
  .cases h
  .rename_i b hb;split at h
   .cases h
   .rename_i l hl;simp only[af_]at h;subst h;obtain⟨h1,d⟩:=ou hl;refine⟨by simp[h1],λi a c ha hc=>?_⟩;cases i with
    |zero=>simp at ha hc;subst ha hc;exact hb
    |succ i=>exact d i a c (by simpa using ha) za_
def wj(o:Option Nat):Value:=.tuple #[Z_ ((o.getD 0:Nat):Int),.bool o.isSome]
def eI{w:Aw}{fs:An}{fv:Ax}{zs:Ay}(b:xu w P s fs fv zs)(hl:fs.length<=300):Calls prog 183 #[.agg #[Z_ p,fv],U_ c] w λe w'=>e=.returned (wj (vu fs c))/\Fr w w' N_:=by
 refine hq_ λI u=>?_;obtain⟨y,z,rfl⟩:=zw b.row;have k:Fr w (w.alloc (.cells #[Z_ p,.slice y fs.length z] 228)) N_:=(A_ w _).alloc _;have start:H_ (∃q:Nat,Value.int .i64 0=I_ q/\q<=fs.length/\fs.length+1-q<=fs.length+1/\Fr w (w.alloc (.cells #[Z_ p,.slice y fs.length z] 228)) N_/\c∉(fs.take q).map PF.letter):=zy ⟨0,rfl,al_ _,M_,k,by simp⟩;replace b:=zy b;go_in;go_wp2;go_loopg [6,11] (fs.length+1) (λm k v W=>∃q:Nat,v=I_ q/\q<=fs.length/\fs.length+1-q<=m/\Fr w W N_/\c∉(fs.take q).map PF.letter);case atStart=>exact start
 case round=>
  obtain⟨q,rfl,k,hm,hf,he⟩:=hrel;have k:=hf.size;by_cases B:q<fs.length
  .have F:(q:Int)<(fs.length:Int):=M_;have hd:fs[q]?=some fs[q]:=ak_ B;generalize fs[q]=f at hd;obtain⟨g,k,k⟩:=zp b.o.row M_;cases k;obtain⟨T,x,d,c0,c1,c2,c3,_,_⟩:=(b.o.fr hf u_).cells hd;obtain⟨l,h⟩:=x_ f.letter;obtain⟨H,G⟩:=x_ f.place;rw[h]at c1;rw[G]at c0;have r:=zy (hf.trans ((A_ wr N_).alloc (.cells #[I_ H,U_ l,.iface T x,.pointer d] 195)) u_);by_cases hb:l=c
   .subst hb;have C:((l:Int)==(l:Int))=true:=by rw[beq_iff_eq]
    have hr:=zy (show vu fs l=some q by unfold vu;exact cR _ q l (by rw[as_,hd,<- h];rfl) yu_);go_wp2;try go_ret
    rw[u.o,hr.o];exact⟨rfl,r⟩
   .have C:((l:Int)==(c:Int))=false:=xg_
    have D:=zy (show c∉(fs.take (q+1)).map PF.letter by
     rw[a6_,hd]
     simp only[Option.toList_some,bb_,av_,ba_,a4_,a2_,not_or]
     exact⟨he,λe=>hb (by rw[<- h];exact e.symm)⟩)
    go_wp2;go_roundg (fs.length+1-(q+1));case measure=>omega
    case rel=>exact⟨q+1,rfl,B,l_,r,D⟩
  .have F:¬((q:Int)<(fs.length:Int)):=M_;rw[bc_ M_]at he;have hr:=zy (show vu fs c=none by unfold vu;exact fX he);replace hf:=zy hf;go_wp2;try go_ret
   rw[u.o,hr.o];exact⟨rfl,hf⟩
def WK{w:Aw}{lv u:Ax}{l:As}(ho:w.ownsRow 0 192 2 lv l.length (zI l))(hu:∃d,u=.pointer d)(hl:l.length<=300):Calls prog 203 #[.agg #[Z_ p,lv,u],U_ c] w λe w'=>e=.returned (wj ((l.map Prod.fst).findIdx? (λx=>x==c)))/\Fr w w' N_:=by
 refine hq_ λH r=>?_;obtain⟨B,C,rfl⟩:=zw ho;obtain⟨y,rfl⟩:=hu;have b:Fr w (w.alloc (.cells #[Z_ p,.slice B l.length C,.pointer y] 233)) N_:=(A_ w _).alloc _;have start:H_ (∃q:Nat,Value.int .i64 0=I_ q/\q<=l.length/\l.length+1-q<=l.length+1/\Fr w (w.alloc (.cells #[Z_ p,.slice B l.length C,.pointer y] 233)) N_/\c∉(l.take q).map Prod.fst):=zy ⟨0,rfl,al_ _,M_,b,by simp⟩;replace ho:=zy ho;go_in;go_wp2;go_loopg [6,11] (l.length+1) (λm b v W=>∃q:Nat,v=I_ q/\q<=l.length/\l.length+1-q<=m/\Fr w W N_/\c∉(l.take q).map Prod.fst);case atStart=>exact start
 case round=>
  obtain⟨q,rfl,b,hm,hf,he⟩:=hrel;have b:=hf.size;by_cases z:q<l.length
  .have G:(q:Int)<(l.length:Int):=M_;have hd:l[q]?=some l[q]:=ak_ z;generalize l[q]=f at hd;obtain⟨k,y⟩:=f;obtain⟨g,b,b⟩:=zp ho M_;cases b;have b:=zj ho hf u_;have c0:=zt b rfl (xV hd).1;have c1:=zt b rfl (xV hd).2;have h:=zy (hf.trans ((A_ wr N_).alloc (.cells #[I_ y,U_ k] 192)) u_);by_cases hb:k=c
   .subst hb;have D:((k:Int)==(k:Int))=true:=by rw[beq_iff_eq]
    have hr:=zy (show(l.map Prod.fst).findIdx? (λx=>x==k)=some q from cR _ q k (by rw[as_,hd];rfl) yu_);go_wp2;try go_ret
    rw[r.o,hr.o];exact⟨rfl,h⟩
   .have D:((k:Int)==(c:Int))=false:=xg_
    have F:=zy (show c∉(l.take (q+1)).map Prod.fst by
     rw[a6_,hd]
     simp only[Option.toList_some,bb_,av_,ba_,a4_,a2_,not_or]
     exact⟨he,λe=>hb e.symm⟩)
    go_wp2;go_roundg (l.length+1-(q+1));case measure=>omega
    case rel=>exact⟨q+1,rfl,z,l_,h,F⟩
  .have G:¬((q:Int)<(l.length:Int)):=M_;rw[bc_ M_]at he;have hr:=zy (show(l.map Prod.fst).findIdx? (λx=>x==c)=none from fX he);replace hf:=zy hf;go_wp2;try go_ret
   rw[r.o,hr.o];exact⟨rfl,hf⟩
def rJ{w:Aw}{lv u:Ax}{l:As}{o:Ac}(ho:w.ownsRow 0 192 2 lv l.length (zI l))(hu:qu w P o u)(hl:l.length<=300):Calls prog 161 #[.agg #[Z_ p,lv,u],U_ c] w λe w'=>e=.returned (wj (jY l o c))/\Fr w w' N_:=by
 refine hq_ λM C=>?_;obtain⟨M,B⟩:∃d,u=.pointer d:=by
  unfold qu at hu;split at hu
  .exact⟨_,hu⟩
  .obtain⟨g',_,e,_⟩:=hu;exact⟨_,e⟩
 have z:=zy (λ(W:World) (N:Fr w W N_) (k:Nat)=>WK (w:=W) (p:=p) (u:=u) (c:=k) (zj ho N u_) ⟨M,B⟩ hl);obtain⟨D,F,rfl⟩:=zw ho;have m:=zy ((A_ w _).alloc _:Fr w (w.alloc (.cells #[Z_ p,.slice D l.length F,u] 233)) N_);have y:=zy (B_ w #[Z_ p,.slice D l.length F,u] 233);cases f:(l.map Prod.fst).findIdx? (λx=>x==c) with
 |some q=>
  have hr:=zy (show jY l o c=some q by unfold jY;rw[f]);subst B;replace f:=zy f;go_in;go_wp2_with (go_at_call 203;apply(z.o _ m.o c).mono;rintro e w1 ⟨rfl,b⟩;rw[f.o];simp only[wj,b8_,Option.isSome_some];have h:=zy (m.o.trans b u_);have b2:=(b.bl y.o id).c2);try go_ret
  rw[C.o,hr.o];exact⟨rfl,h.o⟩
 |none=>
  cases o with
  |none=>
   have hr:=zy (show jY l none c=none by unfold jY;rw[f]);obtain rfl:u=.pointer none:=hu;cases B;replace f:=zy f;go_in;go_wp2_with (go_at_call 203;apply(z.o _ m.o c).mono;rintro e w1 ⟨rfl,b⟩;rw[f.o];simp only[wj,Option.getD_none,Option.isSome_none];have h:=zy (m.o.trans b u_);have b2:=(b.bl y.o id).c2);try go_ret
   rw[C.o,hr.o];exact⟨rfl,h.o⟩
  |some cp=>
   obtain⟨r,M⟩:=cp;have hr:=zy (show jY l (some (r,M)) c=(l.map Prod.fst).findIdx? (λx=>x==r) by unfold jY;rw[f]);obtain⟨g,hg,rfl,hB⟩:=hu;cases B;replace f:=zy f;replace hB:=zy hB;go_in;go_wp2_with (go_at_call 203;with_reducible apply(z.o _ m.o c).mono;rintro e w1 ⟨rfl,b⟩;rw[f.o];simp only[wj,Option.getD_none,Option.isSome_none];have h:=zy (m.o.trans b u_);obtain⟨b0,b1,b2⟩:=(b.bl y.o id).d3;have H:=(h.o.bl hB.o id).c1;have I:=zy (b.bl y.o id);have L:=zy (h.o.bl hB.o id));refine tR_ (λW=>z_ W w.heap.size 0 (Z_ p)/\z_ W w.heap.size 1 (.slice D l.length F)/\z_ W w.heap.size 2 (P_ g)/\z_ W g 1 (U_ r)) ?_;refine tY_ 0 ?_;refine tY_ 1 ?_;refine tY_ 2 ?_;refine tY_ 3 ?_;refine tY_ 4 ?_;refine tY_ 5 ?_;refine zV 6 rfl K_ ⟨b0,b1,b2,H⟩ (λK G=>?_);go_simp;apply(z.o _ (h.o.drew) r).mono;rintro e b ⟨rfl,b⟩;refine G _ _ ?_;have f:=b.bl I.o.drew id;have m:=b.bl L.o.drew id;obtain⟨d0,d1,y⟩:=f.d3;have z:=m.c1;have J:=zy (h.o.drew.trans b u_);unfold wj;refine tY_ 7 ?_;refine tY_ 8 ?_;refine tY_ 9 ?_;refine tY_ 10 ?_;refine zO K_ ⟨d0,d1,y,z⟩ ?_ _;go_wp2;refine bodyPost_ret (v:=.tuple #[Z_ ((((l.map Prod.fst).findIdx? (λx=>x==r)).getD 0:Nat):Int),.bool ((l.map Prod.fst).findIdx? (λx=>x==r)).isSome]) (by simp[results,results161,go_sem];try rfl) rfl ?_;rw[C.o,hr.o];exact⟨rfl,J.o⟩
set_option maxRecDepth 100000
set_option linter.defProp false
@[go_sem]def PV:=yH 298 20
@[go_sem]def Zx:=vm 298 20 (.agg #[])
@[go_sem]def Br:=yH 270 20
@[go_sem]def Xq:=vm 270 20 (.agg #[O_,.nilIface])
@[go_sem]def UN:=yH 215 20
@[go_sem]def Qd:=vm 215 20 (.agg #[O_])
@[go_sem]def Gw:=yH 212 20
@[go_sem]def tn:=vm 212 20 (.agg #[O_])
@[go_sem]def PX:=yH 214 20
@[go_sem]def Zy:=vm 214 20 (.agg #[O_])
@[go_sem]def Bh:=yH 216 20
@[go_sem]def Xj:=vm 216 20 (.agg #[O_])
@[go_sem]def Bl:=yH 217 20
@[go_sem]def Xv:=vm 217 20 (.agg #[O_])
def YK{w:Aw}(u:Av)(h:u≠298)(v:Ax):Calls prog 163 #[.iface u v] w λe w'=>e=.returned (.bool false)/\Fr w w' N_:=by
 have a:=Zx u h v;have b:=zy (λo=>(A_ w N_).alloc o);go_in;go_wp2;try go_ret
 exact⟨rfl,b.o _⟩
def JP{w:Aw}(u:Av)(h:u≠270)(v:Ax):Calls prog 164 #[.iface u v] w λe w'=>e=.returned (.bool false)/\Fr w w' N_:=by
 have a:=Xq u h v;have b:=zy (λo=>(A_ w N_).alloc o);go_in;go_wp2;try go_ret
 exact⟨rfl,b.o _⟩
def bG{w:Aw}(u:Av)(h:u≠215)(v:Ax):Calls prog 165 #[.iface u v] w λe w'=>e=.returned (.bool false)/\Fr w w' N_:=by
 have a:=Qd u h v;have b:=zy (λo=>(A_ w N_).alloc o);go_in;go_wp2;try go_ret
 exact⟨rfl,b.o _⟩
def qr{w:Aw}(u:Av)(h:u≠212)(v:Ax):Calls prog 167 #[.iface u v] w λe w'=>e=.returned (.bool false)/\Fr w w' N_:=by
 have a:=tn u h v;have b:=zy (λo=>(A_ w N_).alloc o);go_in;go_wp2;try go_ret
 exact⟨rfl,b.o _⟩
def wt{w:Aw}(u:Av)(h:u≠214)(v:Ax):Calls prog 168 #[.iface u v] w λe w'=>e=.returned (.bool false)/\Fr w w' N_:=by
 have a:=Zy u h v;have b:=zy (λo=>(A_ w N_).alloc o);go_in;go_wp2;try go_ret
 exact⟨rfl,b.o _⟩
def fo{w:Aw}(u:Av)(h:u≠216)(v:Ax):Calls prog 169 #[.iface u v] w λe w'=>e=.returned (.bool false)/\Fr w w' N_:=by
 have a:=Xj u h v;have b:=zy (λo=>(A_ w N_).alloc o);go_in;go_wp2;try go_ret
 exact⟨rfl,b.o _⟩
def fe{w:Aw}(u:Av)(h:u≠217)(v:Ax):Calls prog 170 #[.iface u v] w λe w'=>e=.returned (.bool false)/\Fr w w' N_:=by
 have a:=Xv u h v;have b:=zy (λo=>(A_ w N_).alloc o);go_in;go_wp2;try go_ret
 exact⟨rfl,b.o _⟩
def oQ{w:Aw}:Calls prog 163 #[.iface 298 (.agg #[])] w λe w'=>e=.returned (.bool true)/\Fr w w' N_:=by
 have b:=zy (λo=>(A_ w N_).alloc o);go_in;go_wp2;try go_ret
 exact⟨rfl,b.o _⟩
def ru{w:Aw}{n:Int}{T:Av}{x:Ax}:Calls prog 164 #[.iface 270 (.agg #[Z_ n,.iface T x])] w λe w'=>e=.returned (.bool true)/\Fr w w' N_:=by
 have b:=zy (λo=>(A_ w N_).alloc o);go_in;go_wp2;try go_ret
 exact⟨rfl,b.o _⟩
def JB{w:Aw}{n:Int}:Calls prog 165 #[.iface 215 (.agg #[Z_ n])] w λe w'=>e=.returned (.bool true)/\Fr w w' N_:=by
 have b:=zy (λo=>(A_ w N_).alloc o);go_in;go_wp2;try go_ret
 exact⟨rfl,b.o _⟩
def tw{w:Aw}{n:Int}:Calls prog 167 #[.iface 212 (.agg #[Z_ n])] w λe w'=>e=.returned (.bool true)/\Fr w w' N_:=by
 have b:=zy (λo=>(A_ w N_).alloc o);go_in;go_wp2;try go_ret
 exact⟨rfl,b.o _⟩
def oJ{w:Aw}{n:Int}:Calls prog 168 #[.iface 214 (.agg #[Z_ n])] w λe w'=>e=.returned (.bool true)/\Fr w w' N_:=by
 have b:=zy (λo=>(A_ w N_).alloc o);go_in;go_wp2;try go_ret
 exact⟨rfl,b.o _⟩
def YG{w:Aw}{n:Int}:Calls prog 169 #[.iface 216 (.agg #[Z_ n])] w λe w'=>e=.returned (.bool true)/\Fr w w' N_:=by
 have b:=zy (λo=>(A_ w N_).alloc o);go_in;go_wp2;try go_ret
 exact⟨rfl,b.o _⟩
def YJ{w:Aw}{n:Int}:Calls prog 170 #[.iface 217 (.agg #[Z_ n])] w λe w'=>e=.returned (.bool true)/\Fr w w' N_:=by
 have b:=zy (λo=>(A_ w N_).alloc o);go_in;go_wp2;try go_ret
 exact⟨rfl,b.o _⟩
def jU{w:Aw}(b:Ar):Calls prog 166 #[.bool b] w λe w'=>e=.returned (if b=true then .iface 265 (.agg #[]) else .iface 298 (.agg #[]))/\w'=w:=by
 cases b with
 |true=>
  go_in;go_wp2;try go_ret
  exact⟨rfl,rfl⟩
 |false=>
  go_in;go_wp2;try go_ret
  exact⟨rfl,rfl⟩
end Go.Proofs.YtamhgejdkclmdaaGreatDoor
