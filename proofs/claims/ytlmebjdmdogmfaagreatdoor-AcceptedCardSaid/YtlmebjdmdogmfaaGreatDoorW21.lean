import Derived.Test.YtlmebjdmdogmfaaGreatDoorW20
set_option linter.unusedVariables false
set_option maxHeartbeats 16000000
set_option maxRecDepth 100000
set_option linter.defProp false
set_option linter.unusedSimpArgs false
open Go.Proofs.Tryz
namespace Go.Proofs.YtlmebjdmdogmfaaGreatDoor
open Go.RowKit
variable {s dm:BA}{n:Int}{c:Nat}{A:Bb}{P:Az}{env:Au}{u:Ax}
def kK{k:Nat}{tx:BA}{ks:Dq}:ndT (.mk k n tx ks [])=1:=by unfold ndT;simp[za]
def rV{i kd:Nat}{j:Nat}(d:kd=105\/kd=108)(h:vp s kd i=some (n,j)):loV kd<=n/\n<=hiV kd:=by
 unfold vp at h;split at h
 .rename_i e;cases h;have hd:jE (zM s i).data.toList:=kM s (sgn s i);have hv:=((tH hd).1 e).2.2;unfold dZ at hv;generalize xm s i=g at hv⊢;have a:=bi (neg:=g) hd (by cases g<;>simp at hv⊢<;>split at hv<;>omega) _ l_;rw[bb_ (show(zM s i).data.toList.length<=(zM s i).size from Nat.le_of_eq Array.length_toList)]at a;rw[a];unfold loV hiV;cases g<;>rcases d with rfl|rfl<;>simp at hv⊢<;>omega
 .cases h
def yU{i:Nat}(hi:zo s i<s.size):cF (s.extract i (zo s i))/\(s.extract i (zo s i)).size=zo s i-i:=by
 have hg:=vU s i;have a:(s.extract i (zo s i)).size=zo s i-i:=y1_
 refine⟨λq d=>?_,a⟩;rw[rF M_ M_];exact vB 97 122 s _ i l_ (i+q) M_ (by unfold zo at a d;omega)
def uno(t:PT):Nat:=if t.isAlts=true then 0 else 1
def Mp(env:Au)(R:Al)(t:PT):Prop:=
 ∀i d j,R i=some (d,j)->Dat env d t/\2*i+ndT d+uno t<=2*j
def ZX(hs:s.size<=4000){R:Al}{keyed:Aq}{fin:Nat}{u:PT}(o:Mp env R u):∀(f:Nat) (last:Option BA) (i:Nat) (l:List (BA×DT)) (e:Nat),yc R s fin keyed f last i=some (l,e)->
 (∀x∈l,Dat env x.2 u)/\(keyed=true->Gc last (l.map Prod.fst))/\l.length<=f/\2*i+za (l.map Prod.snd)<=2*e:=by
 intro f;induction f with
 |zero=>intro last i l e h;simp[yc]at h
 |succ f ih=>
  intro last i l e h;unfold yc at h;split at h
  .cases h
  .rename_i k v hk;have z:=fC hk;have a:keyed=true->kV last k=true/\cF k/\k.size<=9223372036854775807:=λhy=>by
    unfold kJ at hk;rw[i_ hy]at hk;split at hk
    .rename_i hb;cases hk;obtain⟨g,m⟩:=yU (s:=s) (i:=i) (zp M_);exact⟨hb.2,g,o1_ (zp (s:=s) (i:=zo s i) M_)⟩
    .cases hk
   split at h
   .cases h
   .rename_i d j hd;obtain⟨d1,t⟩:=o _ _ _ hd;split at h
    .cases h;refine⟨λx hx=>?_,λh=>⟨(a h).1,(a h).2.1,(a h).2.2,trivial⟩,by simp,by simp only[aw_,be_,za];omega⟩;rw[a0_]at hx;subst hx;exact d1
    .split at h
     .split at h
      .cases h
      .rename_i B e' he;cases h;obtain⟨g,m,q,r⟩:=ih _ _ _ _ he;refine⟨λy hy=>?_,λh=>⟨(a h).1,(a h).2.1,(a h).2.2,m h⟩,by simp;omega,by simp only[aw_,za];omega⟩;rcases ao_.1 hy with rfl|hy
       .exact d1
       .exact g y hy
     .cases h
def mY{R:Aj}:∀(T:List PT),(∀u∈T,Mp env (R u) u)->∀(i:Nat) (first:Bool) (ds:List DT) (e:Nat),zQ R s first T i=some (ds,e)->
 ds.length=T.length/\(∀(k:Nat) (x:DT) (u:PT),ds[k]?=some x->T[k]?=some u->Dat env x u)/\2*i+za ds<=2*e
 | [],hR,i,first,ds,e,h=>by
  cases h;exact⟨rfl,λk x u hx=>by simp at hx,by simp only[za];omega⟩
 |t::T,hR,i,first,ds,e,h=>by
  have f:∀a,i<=a->(match R t a with|none=>none|some (d,j)=>match zQ R s false T j with|none=>none|some (ds,e)=>some (d::ds,e))=some (ds,e)->ds.length=(t::T).length/\(∀(k:Nat) (x:DT) (u:PT),ds[k]?=some x->(t::T)[k]?=some u->Dat env x u)/\2*i+za ds<=2*e:=by
   intro a q h;split at h
   .cases h
   .rename_i d j hd;split at h
    .cases h
    .rename_i ds' e' he;cases h;obtain⟨d1,o⟩:=hR t (bo_ ..) _ _ _ hd;obtain⟨g,l,m⟩:=mY T (λu hu=>hR u (cd_ _ hu)) j false ds' _ he;refine⟨by simp[g],λk x u hx hu=>?_,by simp only[za];omega⟩;cases k with
     |zero=>simp at hx hu;subst hx hu;exact d1
     |succ k=>exact l k x u (by simpa using hx) (by simpa using hu)
  unfold zQ at h;split at h
  .exact f i l_ h
  .split at h
   .exact f (i+1) M_ h
   .cases h
def BN(I:qW env)(hs:s.size<=4000)(pl:Aq):∀(f:Nat) (t:PT),okT env t->Mp env (rdT s env pl f t) t:=by
 intro f;induction f with
 |zero=>intro t _ i d j h;simp[rdT]at h
 |succ f ih=>
  intro t a i d j h;have N:∀u,okT env u->∀{i d j},rdT s env pl f u i=some (d,j)->Dat env d u/\2*i+ndT d+uno u<=2*j:=λu hu i d j h=>ih u hu i d j h;cases t with
  |leaf c p=>
   have hu:uno (.leaf c p)=1:=rfl;have one:∀{k n tx q},i<q->2*i+ndT (DT.mk k n tx [] [])+uno (.leaf c p)<=2*q:=λz=>by
    rw[kK];omega
   unfold rdT xz at h;split at h
   .rename_i hc;subst hc;split at h
    .cases h;exact⟨.null,one M_⟩
    .cases h
   .split at h
    .rename_i hc;subst hc;split at h
     .cases h;exact⟨Dat.bool (n:=1) D_,one M_⟩
     .split at h
      .cases h;exact⟨Dat.bool (n:=0) D_,one M_⟩
      .cases h
    .split at h
     .rename_i hc;split at h
      .cases h
      .rename_i n j' hn;cases h;obtain⟨m,o⟩:=rV hc hn;refine⟨?_,one (fM hn).1⟩;rcases hc with rfl|rfl
       .exact .num m o
       .exact .long m o
     .have e:=vU s (i+1);split at h
      .rename_i hc;subst hc;split at h
       .rename_i hb;cases h;have v:zo s (i+1)<s.size:=zp M_;obtain⟨B,E⟩:=yU v;exact⟨.text B M_,one M_⟩
       .cases h
      .rename_i h1 v O H;have hb:zi c=false:=by
        simp[zi,h1,v,H];omega
       split at h
       .cases h
       .rename_i pb he;have J:=I c pb he;unfold yv at h;split at h
        .rename_i fs;split at h
         .split at h
          .cases h
          .rename_i ds j' hd;split at h
           .cases h;obtain⟨m,o,L⟩:=mY (fs.map PF.ty) (λu hu=>by
             obtain⟨g,hg,rfl⟩:=a5_.1 hu
             exact ih g.ty (J g hg)) (i+1) true ds j' hd
            exact⟨.recd he hb (by simpa using m) o,by rw[yN];omega⟩
           .cases h
         .cases h
        .split at h
         .split at h
          .cases h
          .rename_i q z;cases h;obtain⟨K,_⟩:=List.findIdx?_eq_some_iff_getElem.1 z;exact⟨.sym he hb (by simpa using K),one M_⟩
         .cases h
        .split at h
         .rename_i hc;cases h;obtain⟨B,E⟩:=yU (s:=s) (i:=i+1) (zp M_);exact⟨.bytes (by rw[E,hc.2.1];exact he) hb B,one M_⟩
         .cases h
  |wrap c p u=>
   have hu:uno (.wrap c p u)=1:=rfl;unfold okT at a;unfold rdT xH at h;split at h
   .split at h
    .cases h
    .rename_i l j' e;cases h;have key:(∀x∈l,Dat env x.2 u)/\((c==123)=true->Gc none (l.map Prod.fst))/\l.length<=s.size+2/\2*i+2+za (l.map Prod.snd)<=2*j:=by
      unfold jQ at e;split at e
      .cases e;exact⟨λx hx=>(by cases hx),λ_=>trivial,by simp,by simp only[be_,za];omega⟩
      .exact ZX hs (ih u a.2) _ _ _ _ _ e
     obtain⟨b1,b2,b3,M⟩:=key;have C:∀d∈l.map Prod.snd,Dat env d u:=λd hd=>by
      obtain⟨x,hx,rfl⟩:=a5_.1 hd;exact b1 x hx
     rw[yN];refine⟨?_,M_⟩;rcases a.1 with rfl|rfl
     .exact .list x1_ C
     .exact .map x1_ x7_ (b2 rfl) C
   .cases h
  |alts p ts=>
   have hu:uno (.alts p ts)=0:=rfl;unfold okT at a;have h1:∀u∈ts,okT env u/\uno u=1:=λu hu=>⟨(vI a.2 u hu).2,by unfold uno;rw[(vI a.2 u hu).1];rfl⟩;unfold rdT yQ at h;split at h
   .split at h
    .cases h
    .rename_i D r0;split at h
     .cases h
     .rename_i F j' hd;cases h;obtain⟨r,G⟩:=h1 D (bo_ ..);obtain⟨b1,b2⟩:=ih D r _ _ _ hd;exact⟨Dat.alts (n:=0) M_ rfl b1,by rw[yN];simp only[za];omega⟩
   .split at h
    .have z:=gU s (i+1) (yY s (i+1)-(i+1)) ye_;have hg:i+1<=yY s (i+1):=by have:=(yh 48 57 s _ (i+1) l_).1;unfold yY;omega
     split at h
     .cases h
     .rename_i u hu;split at h
      .cases h
      .rename_i F j' hd;split at h
       .cases h;obtain⟨r,G⟩:=h1 u (ah_ hu);obtain⟨b1,b2⟩:=ih u r _ _ _ hd;exact⟨.alts M_ hu b1,by rw[yN];simp only[za];omega⟩
       .cases h
    .cases h
def VF(a:qW env)(hs:s.size<=4000){pl:Aq}{t:PT}(e:okT env t){d:DT}(h:ym env pl t s=some d):Dat env d t/\ndT d<=2*s.size:=by
 unfold ym at h;split at h
 .cases h
 .rename_i f j hr;split at h
  .cases h;have:=BN a hs pl _ t e _ _ _ hr;exact⟨this.1,M_⟩
  .cases h
def lZ(s b:BA):Prop:=(zu s).1=0/\∃ds t d,ze s=.ok (ds,t)/\Dat (zx ds) d t/\ndT d<=300/\b=byT d
def ky(w:Aw)(s:BA)(e:Ak)(w':Aw):Prop:=∃b g ev,e=.returned (.tuple #[.string b,ev])/\Fr w w' N_/\wQ w' ev g/\(g=0->lZ s b)
def WY{w w1:Aw}{sv rv:Ax}{ds:Ar}{t:PT}(S:xl A w)(j:yM w)(l:yH w)(d:xe w)(hp:ze s=.ok (ds,t))(k:Cc w.heap.size w1 s sv rv)(hf:Fr w w1 N_)(hd:dm.size<=4000):∃sa sn sc rT rx,sv=.slice sa sn sc/\rv=.iface rT rx/\∀o,Calls prog 24 #[.agg #[sv,rv],.string dm] (w1.alloc o) (pY (zx ds) t (w1.alloc o) N_ (ki A).nt (ki A).nx (ym (zx ds) false t dm)):=by
 obtain⟨ds',t',xs,hs,a,hn,hu,D,e⟩:=k;rw[hp]at a;cases a;obtain⟨h,i,f3,f4,_⟩:=vZ hs hp hn hu;obtain⟨sa,sc,rfl⟩:=zw D.row;obtain⟨rT,rx,rfl⟩:=e.iface;refine⟨sa,_,sc,rT,rx,rfl,rfl,λo=>?_⟩;have a:Fr w1 (w1.alloc o) N_:=(A_ w1 _).alloc o;have hz:=a.size;exact Jk (w0:=w) (D.fr a u_) (e.fr a u_) ((yu.refl w).fr (hf.trans a u_) l_ (λ_ f=>f.elim)) (o1_ hf.size) (λg hg=>M_) S.errs.n hd f4 h i f3 j l (iu d) d
def YN{w:Aw}(S:xl A w)(F:yM w)(H:yH w)(G:xe w):Calls prog 13 #[.string s,.string dm] w (ky w s):=by
 refine hq_ λY E=>?_;have I:=zy (VC (s:=s) S.errs F H (iu G));by_cases h0:(zu s).1=0
 .cases hp:ze s with
  |error k=>
   exfalso;unfold zu at h0;rw[hp]at h0;split at h0<;>simp at h0
  |ok r=>
   obtain⟨ds,t⟩:=r;by_cases hd:4000<dm.size
   .have m:=zy (λ(W:World) (sa sn sc rT rx) (B:Fr w W N_)=>Yf (w:=W) (sa:=sa) (sn:=sn) (sc:=sc) (rT:=rT) (rx:=rx) (s:=dm) ((S.fr B).var 8 D_) hd);replace h0:=zy h0;replace S:=zy S;replace hp:=zy hp;replace hd:=zy hd;go_in;go_wp2_with (first
     |(go_at_call 23;apply I.o.mono;rintro e w1 ⟨sv,rv,J,rfl,-,-,a,g,l⟩;obtain⟨_,rfl⟩:=g.zero h0;obtain⟨ds',t',xs,hs',v,q,z,D,j⟩:=l h0;obtain⟨sa,sc,rfl⟩:=zw D.row;obtain⟨rT,rx,rfl⟩:=j.iface;replace a:=zy a)
     |(go_at_call 24;apply(m.o _ _ _ _ _ _ (a.o.alloc _)).mono;rintro e O ⟨rfl,i⟩;replace i:=zy i))
    try go_ret
    rw[E.o];have hf:=(a.o.alloc _).trans i u_;exact⟨_,_,_,rfl,hf,λW B=>wq ((S.o.fr hf).fr B) .leaf,λh=>absurd h D_⟩
   .have K:dm.size<=4000:=M_;have N:=zy (λw1 sv rv=>WY (w1:=w1) (dm:=dm) (sv:=sv) (rv:=rv) S F H G hp);obtain⟨Y,Z,a0⟩:=iC h0 hp;obtain⟨_,_,_,f4,f5⟩:=vZ Y hp Z a0;have M:=λd=>VF (pl:=false) f5 K f4 (d:=d);replace h0:=zy h0;replace S:=zy S;replace hp:=zy hp;cases v:ym (zx ds) false t dm with
    |none=>
     replace v:=zy v;go_in;go_wp2_with (first
      |(go_at_call 23;apply I.o.mono;rintro e w1 ⟨sv,rv,J,rfl,-,-,a,g,l⟩;obtain⟨_,rfl⟩:=g.zero h0;obtain⟨sa,sn,sc,rT,rx,rfl,rfl,j⟩:=N.o w1 sv rv (l h0) a K;replace a:=zy a;replace j:=zy j)
      |(go_at_call 24;apply(j.o _).mono;rintro e O ⟨v2,V,rfl,i,hm⟩;rw[v.o]at hm;obtain⟨rfl,hm⟩:=hm;obtain⟨U,x2,rfl⟩:=hm.iface;replace hm:=zy hm;replace i:=zy i))
     try go_ret
     rw[E.o];have hf:=(a.o.alloc _).trans i u_;exact⟨_,_,_,rfl,hf,hm.o.numIs (S.o.fr hf),λh=>absurd h D_⟩
    |some d=>
     obtain⟨L,hn⟩:=M d v;replace L:=zy L;replace v:=zy v;by_cases z:ndT d > 300
     .replace z:=zy z;go_in;go_wp2_with (first
       |(go_at_call 23;apply I.o.mono;rintro e w1 ⟨sv,rv,J,rfl,-,-,a,g,l⟩;obtain⟨_,rfl⟩:=g.zero h0;obtain⟨sa,sn,sc,rT,rx,rfl,rfl,j⟩:=N.o w1 sv rv (l h0) a K;replace a:=zy a;replace j:=zy j)
       |(go_at_call 24;apply(j.o _).mono;rintro e O ⟨v2,V,rfl,i,hm⟩;rw[v.o]at hm;obtain⟨rfl,hm⟩:=hm;replace hm:=hm.dat;have hf:=zy ((a.o.alloc _).trans i u_);have q:=ji hm M_ ((S.o.fr hf).var 5 D_);rw[i_ z.o]at q;replace q:=zy q;obtain⟨U,x2,rfl⟩:=hm.iface)
       |(go_at_call 25;apply q.o.mono;rintro e R ⟨rfl,m⟩;replace m:=zy m))
      try go_ret
      rw[E.o];have C:=hf.o.trans m u_;exact⟨_,_,_,rfl,C,λW B=>jd ((S.o.fr C).fr B) .leaf,λh=>absurd h D_⟩
     .have a1:8022*ndT d<=90000000:=M_;replace z:=zy z;go_in;go_wp2_with (first
       |(go_at_call 23;apply I.o.mono;rintro e w1 ⟨sv,rv,J,rfl,-,-,a,g,l⟩;obtain⟨_,rfl⟩:=g.zero h0;obtain⟨sa,sn,sc,rT,rx,rfl,rfl,j⟩:=N.o w1 sv rv (l h0) a K;replace a:=zy a;replace j:=zy j)
       |(go_at_call 24;apply(j.o _).mono;rintro e O ⟨v2,V,rfl,i,hm⟩;rw[v.o]at hm;obtain⟨rfl,hm⟩:=hm;replace hm:=hm.dat;have hf:=zy ((a.o.alloc _).trans i u_);have q:=ji hm M_ ((S.o.fr hf).var 5 D_);rw[n_ z.o]at q;replace q:=zy q;have B:=zy (λR m=>Vl (w:=R) (hm.fr m (λ_ _ (f:False)=>f)) a1);obtain⟨U,x2,rfl⟩:=hm.iface)
       |(go_at_call 25;apply q.o.mono;rintro e R ⟨rfl,m⟩;replace m:=zy m)
       |(go_at_call 26;apply(B.o _ m).mono;rintro e i ⟨rfl,C⟩;replace C:=zy C))
      try go_ret
      rw[E.o];have X:=(hf.o.trans m u_).trans C u_;exact⟨_,_,_,rfl,X,gI (S.o.fr X),λ_=>⟨h0,_,_,_,hp,L,Nat.le_of_not_gt z,rfl⟩⟩
 .replace h0:=zy h0;replace S:=zy S;go_in;go_wp2_with (go_at_call 23;apply I.o.mono;rintro e w1 ⟨sv,rv,J,rfl,⟨sa,sn,sc,rfl⟩,i,a,g,-⟩;have hk:=zy (g.numIs (S.o.fr a) h0);obtain⟨T,x,rfl,_⟩:=g.num (S.o.fr a) h0;replace a:=zy a;rcases i with rfl|⟨rT,rx,rfl⟩);all_goals
   try go_ret
   rw[E.o];exact⟨_,_,_,rfl,a.o.alloc _,hk.o.fr ((A_ _ _).alloc _),λh=>absurd h h0⟩
def gR(w:Aw)(s:BA)(e:Ak)(w':Aw):Prop:=∃b g,e=.returned (.tuple #[.string b,Z_ g])/\Fr w w' N_/\(g=0->lZ s b)
def ot{w:Aw}(S:xl A w)(f:yM w)(h:yH w)(g:xe w):Calls prog 7 #[.string s,.string dm] w (gR w s):=by
 refine hq_ λj i=>?_;have j:=zy (YN (s:=s) (dm:=dm) S f h g);go_in;go_wp2_with (first
  |(go_at_call 13;apply j.o.mono;rintro e w1 ⟨b,n,f,rfl,d,f,a⟩;replace d:=zy d;replace a:=zy a;have hk:=zy (f w1 (A_ _ _)))
  |(go_at_call 11;apply hk.o.mono;rintro e f ⟨rfl,rfl⟩))
 try go_ret
 rw[i.o];exact⟨_,_,rfl,d,a⟩
def Kit(A:Bb)(w:Aw):Prop:=xl A w/\yM w/\yH w/\xe w/\jZ w
def Kit.fr{w w':Aw}(h:Kit A w)(hf:Fr w w' N_):Kit A w':=by
 obtain⟨S,f,i,hP,e⟩:=h;have hz:=hf.size;have d:∀W,yu w' W->yu w W:=λW a g hg=>(a g M_).trans (hf.block g hg id);exact⟨S.fr hf,λW a=>f W (d W a),λW a=>i W (d W a),λW a=>hP W (d W a),λW B h0 hB a=>e W B M_ hB (d W a)⟩
def Kit.enc{w:Aw}(h:Kit A w)(s dm:BA):Calls prog 7 #[.string s,.string dm] w (gR w s):=by
 obtain⟨S,a,d,hP,e⟩:=h;exact ot S a d hP
def KN:noB=⟨#[]⟩:=rfl
def vf:PB->Nat×Nat
 | .recd _=>(114,0)
 | .enum _ _=>(101,0)
 | .bytes n=>(102,n)
def xi(ew er:Au):PT->PT->Bool
 | .leaf c _,.leaf c' _=>
  if zi c=true then (c'==c||(c==105&&c'==108))
  else c==c'&&(match ew c,er c' with|some a,some b=>decide (vf a=vf b)|_,_=>false)
 | .wrap c _ _,.wrap c' _ _=>c==c'
 | _,_=>false
def xZ(ew er:Au)(w:PT):List PT->Nat->Option Nat->Option Nat
 | [],_,k=>k
 |r::rs,i,k=>xZ ew er w rs (i+1) (if (xi ew er w r&&(k.isNone||r.kind==105))=true then some i else k)
def vm{α β:Type}(g:α->Option β):List α->Option (List β)
 | []=>some []
 |a::r=>match g a with|none=>none|some b=>match vm g r with|none=>none|some l=>some (b::l)
def vV(fs:An)(c:Nat):Option Nat:=(fs.map PF.letter).findIdx? (λx=>x==c)
def qh(l:As)(o:Ac)(c:Nat):Option Nat:=
 match (l.map Prod.fst).findIdx? (λx=>x==c) with
 |some q=>some q
 |none=>match o with|none=>none|some (u,_)=>(l.map Prod.fst).findIdx? (λx=>x==u)
def mkF(R:Dp)(df:Dm)(fw:An)(ds:Ae)(g:PF):Option DT:=
 match vV fw g.letter with
 |some i=>match fw[i]?,ds[i]? with|some h,some d=>R h.ty g.ty d|_,_=>none
 |none=>df g
def mkB(R:Dp)(ew er:Au)(df:Dm):PT->PT->DT->Option DT
 | .leaf c _,.leaf c' _,.mk k n tx ks ds=>
  if zi c=true then some (.mk (if c'=108 then 108 else k) n tx ks ds)
  else match ew c,er c' with
   |some (.recd fw),some (.recd fr)=>(vm (mkF R df fw ds) fr).map (λl=>.mk 114 0 noB [] l)
   |some (.enum lw _),some (.enum lr o)=>(qh lr o ((lw.map Prod.fst).getD n.toNat 0)).map (λ(q:Nat)=>DT.mk 101 (q:Int) noB [] [])
   |some (.bytes _),some (.bytes _)=>some (.mk k n tx ks ds)
   | _,_=>none
 | .wrap _ _ u,.wrap _ _ u',.mk k n tx ks ds=>(vm (R u u') ds).map (λl=>.mk k n tx ks l)
 | _,_,_=>none
def mkP(ew er:Au)(df:Dm):Nat->PT->PT->DT->Option DT
 | 0,_,_,_=>none
 |f+1,w,r,d=>
  match w with
  | .alts _ ws=>match d with | .mk _ n _ _ ds=>match ws[n.toNat]?,ds with|some w1,d1::_=>mkP ew er df f w1 r d1|_,_=>none
  |w=>match r with
   | .alts _ rs=>match xZ ew er w rs 0 none with
    |none=>none
    |some k=>match rs[k]? with|none=>none|some r1=>(mkB (mkP ew er df f) ew er df w r1 d).map (λx=>.mk 40 (k:Int) noB [] [x])
   |r=>if xi ew er w r=true then mkB (mkP ew er df f) ew er df w r d else none
def oz{α β:Type}{g:α->Option β}:∀{l:List α}{m:List β},vm g l=some m->m.length=l.length/\∀(i:Nat) (a:α) (b:β),l[i]?=some a->m[i]?=some b->g a=some b
 | [],m,h=>by simp only[vm,af_]at h;subst h;exact⟨rfl,λi a b ha=>by simp at ha⟩
 |x::r,m,h=>by
  unfold vm at h;split at h
  .cases h
  .rename_i b hb;split at h
   .cases h
   .rename_i l hl;simp only[af_]at h;subst h;obtain⟨h1,d⟩:=oz hl;refine⟨by simp[h1],λi a c ha hc=>?_⟩;cases i with
    |zero=>simp at ha hc;subst ha hc;exact hb
    |succ i=>exact d i a c (by simpa using ha) z7_
def af{ew er:Au}{w:PT}:∀(rs:List PT) (i:Nat) (k:Option Nat) (all:List PT),(∀j,k=some j->∃r,all[j]?=some r/\xi ew er w r=true)->(∀j,rs[j]?=all[i+j]?)->∀q,xZ ew er w rs i k=some q->∃r,all[q]?=some r/\xi ew er w r=true
 | [],i,k,all,hk,_,q,h=>by
  simp only[xZ]at h;exact hk q h
 |r::rs,i,k,all,hk,hr,q,h=>by
  unfold xZ at h;refine af rs (i+1) _ all (λj a=>?_) (λj=>?_) q h
  .split at a
   .rename_i hc;simp only[af_]at a;subst a;simp only[az_]at hc;exact⟨r,by have:=hr 0;simpa using this.symm,hc.1⟩
   .exact hk j a
  .have:=hr (j+1);rw[ab_]at this;rw[this]
   congr 1
   omega
def gv(o:Option Nat):Value:=.tuple #[Z_ ((o.getD 0:Nat):Int),.bool o.isSome]
def eH{w:Aw}{fs:An}{fv:Ax}{zs:Ay}{p:Int}(a:xh w P s fs fv zs)(hl:fs.length<=300):Calls prog 213 #[.agg #[Z_ p,fv],U_ c] w λe w'=>e=.returned (gv (vV fs c))/\Fr w w' N_:=by
 refine hq_ λG k=>?_;obtain⟨r,t,rfl⟩:=zw a.row;have i:Fr w (w.alloc (.cells #[Z_ p,.slice r fs.length t] 231)) N_:=(A_ w _).alloc _;have start:H_ (∃q:Nat,Value.int .i64 0=I_ q/\q<=fs.length/\fs.length+1-q<=fs.length+1/\Fr w (w.alloc (.cells #[Z_ p,.slice r fs.length t] 231)) N_/\c∉(fs.take q).map PF.letter):=zy ⟨0,rfl,al_ _,M_,i,by simp⟩;replace a:=zy a;go_in;go_wp2;go_loopg [6,11] (fs.length+1) (λm i v W=>∃q:Nat,v=I_ q/\q<=fs.length/\fs.length+1-q<=m/\Fr w W N_/\c∉(fs.take q).map PF.letter);case atStart=>exact start
 case round=>
  obtain⟨q,rfl,i,hm,hf,he⟩:=hrel;have i:=hf.size;by_cases z:q<fs.length
  .have D:(q:Int)<(fs.length:Int):=M_;have hd:fs[q]?=some fs[q]:=ai_ z;generalize fs[q]=f at hd;obtain⟨g,i,i⟩:=zg a.o.row M_;cases i;obtain⟨T,x,d,c0,c1,c2,c3,_,_⟩:=(a.o.fr hf u_).cells hd;obtain⟨l,h⟩:=x_ f.letter;obtain⟨F,E⟩:=x_ f.place;rw[h]at c1;rw[E]at c0;have j:=zy (hf.trans ((A_ wr N_).alloc (.cells #[I_ F,U_ l,.iface T x,.pointer d] 194)) u_);by_cases hb:l=c
   .subst hb;have B:((l:Int)==(l:Int))=true:=by rw[beq_iff_eq]
    have hr:=zy (show vV fs l=some q by unfold vV;exact cS _ q l (by rw[av_,hd,<- h];rfl) yt_);go_wp2;try go_ret
    rw[k.o,hr.o];exact⟨rfl,j⟩
   .have B:((l:Int)==(c:Int))=false:=xi_
    have C:=zy (show c∉(fs.take (q+1)).map PF.letter by
     rw[a7_,hd]
     simp only[Option.toList_some,bd_,aw_,be_,a1_,a0_,not_or]
     exact⟨he,λe=>hb (by rw[<- h];exact e.symm)⟩)
    go_wp2;go_roundg (fs.length+1-(q+1));case measure=>omega
    case rel=>exact⟨q+1,rfl,z,l_,j,C⟩
  .have D:¬((q:Int)<(fs.length:Int)):=M_;rw[bb_ M_]at he;have hr:=zy (show vV fs c=none by unfold vV;exact fh he);replace hf:=zy hf;go_wp2;try go_ret
   rw[k.o,hr.o];exact⟨rfl,hf⟩
def WQ{w:Aw}{lv:Ax}{l:As}{p:Int}(ho:w.ownsRow 0 191 2 lv l.length (zE l))(hu:∃d,u=.pointer d)(hl:l.length<=300):Calls prog 225 #[.agg #[Z_ p,lv,u],U_ c] w λe w'=>e=.returned (gv ((l.map Prod.fst).findIdx? (λx=>x==c)))/\Fr w w' N_:=by
 refine hq_ λE i=>?_;obtain⟨t,z,rfl⟩:=zw ho;obtain⟨j,rfl⟩:=hu;have a:Fr w (w.alloc (.cells #[Z_ p,.slice t l.length z,.pointer j] 236)) N_:=(A_ w _).alloc _;have start:H_ (∃q:Nat,Value.int .i64 0=I_ q/\q<=l.length/\l.length+1-q<=l.length+1/\Fr w (w.alloc (.cells #[Z_ p,.slice t l.length z,.pointer j] 236)) N_/\c∉(l.take q).map Prod.fst):=zy ⟨0,rfl,al_ _,M_,a,by simp⟩;replace ho:=zy ho;go_in;go_wp2;go_loopg [6,11] (l.length+1) (λm a v W=>∃q:Nat,v=I_ q/\q<=l.length/\l.length+1-q<=m/\Fr w W N_/\c∉(l.take q).map Prod.fst);case atStart=>exact start
 case round=>
  obtain⟨q,rfl,a,hm,hf,he⟩:=hrel;have a:=hf.size;by_cases r:q<l.length
  .have D:(q:Int)<(l.length:Int):=M_;have hd:l[q]?=some l[q]:=ai_ r;generalize l[q]=f at hd;obtain⟨k,j⟩:=f;obtain⟨g,a,a⟩:=zg ho M_;cases a;have a:=zj ho hf u_;have c0:=zr a rfl (xB hd).1;have c1:=zr a rfl (xB hd).2;have h:=zy (hf.trans ((A_ wr N_).alloc (.cells #[I_ j,U_ k] 191)) u_);by_cases hb:k=c
   .subst hb;have B:((k:Int)==(k:Int))=true:=by rw[beq_iff_eq]
    have hr:=zy (show(l.map Prod.fst).findIdx? (λx=>x==k)=some q from cS _ q k (by rw[av_,hd];rfl) yt_);go_wp2;try go_ret
    rw[i.o,hr.o];exact⟨rfl,h⟩
   .have B:((k:Int)==(c:Int))=false:=xi_
    have C:=zy (show c∉(l.take (q+1)).map Prod.fst by
     rw[a7_,hd]
     simp only[Option.toList_some,bd_,aw_,be_,a1_,a0_,not_or]
     exact⟨he,λe=>hb e.symm⟩)
    go_wp2;go_roundg (l.length+1-(q+1));case measure=>omega
    case rel=>exact⟨q+1,rfl,r,l_,h,C⟩
  .have D:¬((q:Int)<(l.length:Int)):=M_;rw[bb_ M_]at he;have hr:=zy (show(l.map Prod.fst).findIdx? (λx=>x==c)=none from fh he);replace hf:=zy hf;go_wp2;try go_ret
   rw[i.o,hr.o];exact⟨rfl,hf⟩
def rl{w:Aw}{lv:Ax}{l:As}{o:Ac}{p:Int}(ho:w.ownsRow 0 191 2 lv l.length (zE l))(hu:qb w P o u)(hl:l.length<=300):Calls prog 191 #[.agg #[Z_ p,lv,u],U_ c] w λe w'=>e=.returned (gv (qh l o c))/\Fr w w' N_:=by
 refine hq_ λI z=>?_;obtain⟨I,t⟩:∃d,u=.pointer d:=by
  unfold qb at hu;split at hu
  .exact⟨_,hu⟩
  .obtain⟨g',_,e,_⟩:=hu;exact⟨_,e⟩
 have r:=zy (λ(W:World) (J:Fr w W N_) (k:Nat)=>WQ (w:=W) (p:=p) (u:=u) (c:=k) (zj ho J u_) ⟨I,t⟩ hl);obtain⟨B,C,rfl⟩:=zw ho;have i:=zy ((A_ w _).alloc _:Fr w (w.alloc (.cells #[Z_ p,.slice B l.length C,u] 236)) N_);have m:=zy (B_ w #[Z_ p,.slice B l.length C,u] 236);cases f:(l.map Prod.fst).findIdx? (λx=>x==c) with
 |some q=>
  have hr:=zy (show qh l o c=some q by unfold qh;rw[f]);subst t;replace f:=zy f;go_in;go_wp2_with (go_at_call 225;apply(r.o _ i.o c).mono;rintro e w1 ⟨rfl,a⟩;rw[f.o];simp only[gv,b5_,Option.isSome_some];have h:=zy (i.o.trans a u_);have b2:=(a.bl m.o id).c2);try go_ret
  rw[z.o,hr.o];exact⟨rfl,h.o⟩
 |none=>
  cases o with
  |none=>
   have hr:=zy (show qh l none c=none by unfold qh;rw[f]);obtain rfl:u=.pointer none:=hu;cases t;replace f:=zy f;go_in;go_wp2_with (go_at_call 225;apply(r.o _ i.o c).mono;rintro e w1 ⟨rfl,a⟩;rw[f.o];simp only[gv,Option.getD_none,Option.isSome_none];have h:=zy (i.o.trans a u_);have b2:=(a.bl m.o id).c2);try go_ret
   rw[z.o,hr.o];exact⟨rfl,h.o⟩
  |some cp=>
   obtain⟨j,I⟩:=cp;have hr:=zy (show qh l (some (j,I)) c=(l.map Prod.fst).findIdx? (λx=>x==j) by unfold qh;rw[f]);obtain⟨g,hg,rfl,hB⟩:=hu;cases t;replace f:=zy f;replace hB:=zy hB;go_in;go_wp2_with (go_at_call 225;with_reducible apply(r.o _ i.o c).mono;rintro e w1 ⟨rfl,a⟩;rw[f.o];simp only[gv,Option.getD_none,Option.isSome_none];have h:=zy (i.o.trans a u_);obtain⟨b0,b1,b2⟩:=(a.bl m.o id).d3;have E:=(h.o.bl hB.o id).c1;have F:=zy (a.bl m.o id);have H:=zy (h.o.bl hB.o id));refine tR_ (λW=>z_ W w.heap.size 0 (Z_ p)/\z_ W w.heap.size 1 (.slice B l.length C)/\z_ W w.heap.size 2 (P_ g)/\z_ W g 1 (U_ j)) ?_;refine tY_ 0 ?_;refine tY_ 1 ?_;refine tY_ 2 ?_;refine tY_ 3 ?_;refine tY_ 4 ?_;refine tY_ 5 ?_;refine zJ 6 rfl K_ ⟨b0,b1,b2,E⟩ (λK D=>?_);go_simp;apply(r.o _ (h.o.drew) j).mono;rintro e a ⟨rfl,a⟩;refine D _ _ ?_;have f:=a.bl F.o.drew id;have i:=a.bl H.o.drew id;obtain⟨d0,d1,m⟩:=f.d3;have r:=i.c1;have G:=zy (h.o.drew.trans a u_);unfold gv;refine tY_ 7 ?_;refine tY_ 8 ?_;refine tY_ 9 ?_;refine tY_ 10 ?_;refine yq K_ ⟨d0,d1,m,r⟩ ?_ _;go_wp2;refine bodyPost_ret (v:=.tuple #[Z_ ((((l.map Prod.fst).findIdx? (λx=>x==j)).getD 0:Nat):Int),.bool ((l.map Prod.fst).findIdx? (λx=>x==j)).isSome]) (by simp[results,results191,go_sem];try rfl) rfl ?_;rw[z.o,hr.o];exact⟨rfl,G.o⟩
set_option maxRecDepth 100000
set_option linter.defProp false
@[go_sem]def Po:=yI 308 20
@[go_sem]def Zx:=vt 308 20 (.agg #[])
@[go_sem]def Bc:=yI 280 20
@[go_sem]def Xf:=vt 280 20 (.agg #[O_,.nilIface])
@[go_sem]def My:=yI 218 20
@[go_sem]def Qc:=vt 218 20 (.agg #[O_])
@[go_sem]def Gw:=yI 215 20
@[go_sem]def tf:=vt 215 20 (.agg #[O_])
@[go_sem]def Pa:=yI 217 20
@[go_sem]def Zy:=vt 217 20 (.agg #[O_])
@[go_sem]def Bm:=yI 219 20
@[go_sem]def Xg:=vt 219 20 (.agg #[O_])
@[go_sem]def Bu:=yI 220 20
@[go_sem]def Xw:=vt 220 20 (.agg #[O_])
def YW{w:Aw}(u:Av)(h:u≠308)(v:Ax):Calls prog 193 #[.iface u v] w λe w'=>e=.returned (.bool false)/\Fr w w' N_:=by
 have a:=Zx u h v;have d:=zy (λo=>(A_ w N_).alloc o);go_in;go_wp2;try go_ret
 exact⟨rfl,d.o _⟩
def JQ{w:Aw}(u:Av)(h:u≠280)(v:Ax):Calls prog 194 #[.iface u v] w λe w'=>e=.returned (.bool false)/\Fr w w' N_:=by
 have a:=Xf u h v;have d:=zy (λo=>(A_ w N_).alloc o);go_in;go_wp2;try go_ret
 exact⟨rfl,d.o _⟩
def bP{w:Aw}(u:Av)(h:u≠218)(v:Ax):Calls prog 195 #[.iface u v] w λe w'=>e=.returned (.bool false)/\Fr w w' N_:=by
 have a:=Qc u h v;have d:=zy (λo=>(A_ w N_).alloc o);go_in;go_wp2;try go_ret
 exact⟨rfl,d.o _⟩
def qt{w:Aw}(u:Av)(h:u≠215)(v:Ax):Calls prog 197 #[.iface u v] w λe w'=>e=.returned (.bool false)/\Fr w w' N_:=by
 have a:=tf u h v;have d:=zy (λo=>(A_ w N_).alloc o);go_in;go_wp2;try go_ret
 exact⟨rfl,d.o _⟩
def wm{w:Aw}(u:Av)(h:u≠217)(v:Ax):Calls prog 198 #[.iface u v] w λe w'=>e=.returned (.bool false)/\Fr w w' N_:=by
 have a:=Zy u h v;have d:=zy (λo=>(A_ w N_).alloc o);go_in;go_wp2;try go_ret
 exact⟨rfl,d.o _⟩
def fg{w:Aw}(u:Av)(h:u≠219)(v:Ax):Calls prog 199 #[.iface u v] w λe w'=>e=.returned (.bool false)/\Fr w w' N_:=by
 have a:=Xg u h v;have d:=zy (λo=>(A_ w N_).alloc o);go_in;go_wp2;try go_ret
 exact⟨rfl,d.o _⟩
def fk{w:Aw}(u:Av)(h:u≠220)(v:Ax):Calls prog 200 #[.iface u v] w λe w'=>e=.returned (.bool false)/\Fr w w' N_:=by
 have a:=Xw u h v;have d:=zy (λo=>(A_ w N_).alloc o);go_in;go_wp2;try go_ret
 exact⟨rfl,d.o _⟩
def oY{w:Aw}:Calls prog 193 #[.iface 308 (.agg #[])] w λe w'=>e=.returned (.bool true)/\Fr w w' N_:=by
 have a:=zy (λo=>(A_ w N_).alloc o);go_in;go_wp2;try go_ret
 exact⟨rfl,a.o _⟩
def rq{w:Aw}{T:Av}{x:Ax}:Calls prog 194 #[.iface 280 (.agg #[Z_ n,.iface T x])] w λe w'=>e=.returned (.bool true)/\Fr w w' N_:=by
 have a:=zy (λo=>(A_ w N_).alloc o);go_in;go_wp2;try go_ret
 exact⟨rfl,a.o _⟩
def JK{w:Aw}:Calls prog 195 #[.iface 218 (.agg #[Z_ n])] w λe w'=>e=.returned (.bool true)/\Fr w w' N_:=by
 have a:=zy (λo=>(A_ w N_).alloc o);go_in;go_wp2;try go_ret
 exact⟨rfl,a.o _⟩
def tz{w:Aw}:Calls prog 197 #[.iface 215 (.agg #[Z_ n])] w λe w'=>e=.returned (.bool true)/\Fr w w' N_:=by
 have a:=zy (λo=>(A_ w N_).alloc o);go_in;go_wp2;try go_ret
 exact⟨rfl,a.o _⟩
def oZ{w:Aw}:Calls prog 198 #[.iface 217 (.agg #[Z_ n])] w λe w'=>e=.returned (.bool true)/\Fr w w' N_:=by
 have a:=zy (λo=>(A_ w N_).alloc o);go_in;go_wp2;try go_ret
 exact⟨rfl,a.o _⟩
def YF{w:Aw}:Calls prog 199 #[.iface 219 (.agg #[Z_ n])] w λe w'=>e=.returned (.bool true)/\Fr w w' N_:=by
 have a:=zy (λo=>(A_ w N_).alloc o);go_in;go_wp2;try go_ret
 exact⟨rfl,a.o _⟩
def YQ{w:Aw}:Calls prog 200 #[.iface 220 (.agg #[Z_ n])] w λe w'=>e=.returned (.bool true)/\Fr w w' N_:=by
 have a:=zy (λo=>(A_ w N_).alloc o);go_in;go_wp2;try go_ret
 exact⟨rfl,a.o _⟩
def jU{w:Aw}(b:Aq):Calls prog 196 #[.bool b] w λe w'=>e=.returned (if b=true then .iface 275 (.agg #[]) else .iface 308 (.agg #[]))/\w'=w:=by
 cases b with
 |true=>
  go_in;go_wp2;try go_ret
  exact⟨rfl,rfl⟩
 |false=>
  go_in;go_wp2;try go_ret
  exact⟨rfl,rfl⟩
inductive MbV:PB->PB->Value->Value->Value->Prop
 |flds {fw fr:List PF} {p sv q rv:Value}:MbV (.recd fw) (.recd fr) (.iface 231 (.agg #[p,sv])) (.iface 231 (.agg #[q,rv])) (.iface 288 (.agg #[p,sv,q,rv]))
 |syms {lw lr:List (Nat×Nat)} {ow or':Option (Nat×Nat)} {p sv u q rv u':Value}:MbV (.enum lw ow) (.enum lr or') (.iface 236 (.agg #[p,sv,u])) (.iface 236 (.agg #[q,rv,u'])) (.iface 285 (.agg #[p,sv,u,q,rv,u']))
 |same {n:Nat} {a b:Value}:MbV (.bytes n) (.bytes n) a b (.iface 275 (.agg #[]))
 |never {x y:PB} {a b:Value} (h:vf x≠vf y):MbV x y a b (.iface 308 (.agg #[]))
def qb.ptr{w:Aw}{o:Ac}(hu:qb w P o u):∃d,u=.pointer d:=by
 unfold qb at hu;split at hu
 .exact⟨_,hu⟩
 .obtain⟨g',_,e,_⟩:=hu;exact⟨_,e⟩
def cwox1_{p:Prop}(h:p:=by
 obtain⟨sa,sc,rfl⟩:=zw ho;(first|(have:=cc1;obtain⟨du,rfl⟩:=hu.ptr;clear ho hP hu)|(clear ho hP h));cases hb with
 |recd p' ho' hP' h' hp'=>
  (first|(have:=cc1)|(obtain⟨ra,rc,rfl⟩:=zw ho'));clear ho' hP' h';go_in;go_wp2;try go_ret
  rw[Q_.o];(first|(have:=cc1;exact⟨_,rfl,hA.o _ _,.never zr_⟩)|(exact⟨_,rfl,hA.o _ _,.flds⟩))
 |enum p' ho' hP' hu' hp'=>
  (try have:=cc1;obtain⟨ra,rc,rfl⟩:=zw ho';obtain⟨du',rfl⟩:=hu'.ptr)
  clear ho' hP' hu';go_in;go_wp2;try go_ret
  rw[Q_.o];(first|(have:=cc1;exact⟨_,rfl,hA.o _ _,.syms⟩)|(exact⟨_,rfl,hA.o _ _,.never zr_⟩))
 |bytes p' n' hp'=>
  go_in;go_wp2;try go_ret
  rw[Q_.o];exact⟨_,rfl,hA.o _ _,.never zr_⟩):p:=h
def ox{w:Aw}{Q:Az}{s':BA}{x y:PB}{a b:Ax}(ha:yV w P s x a)(hb:yV w Q s' y b):Calls prog 201 #[a,b] w λe w'=>∃v,e=.returned v/\Fr w w' N_/\MbV x y a b v:=by
 obtain⟨j,Q_⟩:=y_ (λ(e:Ending) (w':World)=>∃v,e=.returned v/\Fr w w' N_/\MbV x y a b v);rw[<- Q_.o];have hA:=zy (λo j=>((A_ w N_).alloc o).alloc j);cases ha with
 |recd p ho hP h hp=>
  exact cwox1_
 |enum p ho hP hu hp=>
  have cc1:=Nat;exact cwox1_
 |bytes p n hp=>
  have d:=zy (λ(W:World) (b:Bool)=>jU (w:=W) b);cases hb with
  |recd p' ho' hP' h' hp'=>
   go_in;go_wp2_with (go_at_call 196;apply(d.o _ _).mono;rintro e w1 ⟨rfl,rfl⟩);try go_ret
   rw[Q_.o];exact⟨_,rfl,hA.o _ _,.never zr_⟩
  |enum p' ho' hP' hu' hp'=>
   go_in;go_wp2_with (go_at_call 196;apply(d.o _ _).mono;rintro e w1 ⟨rfl,rfl⟩);try go_ret
   rw[Q_.o];exact⟨_,rfl,hA.o _ _,.never zr_⟩
  |bytes p' n' hp'=>
   by_cases f:n=n'
   .subst f;have g:((n:Int)==(n:Int))=true:=by rw[beq_iff_eq]
    go_in;go_wp2_with (go_at_call 196;apply(d.o _ _).mono;rintro e w1 ⟨rfl,rfl⟩);try go_ret
    rw[Q_.o];exact⟨_,rfl,hA.o _ _,.same⟩
   .have g:((n':Int)==(n:Int))=false:=xi_
    have i:=zy f;go_in;go_wp2_with (go_at_call 196;apply(d.o _ _).mono;rintro e w1 ⟨rfl,rfl⟩);try go_ret
    rw[Q_.o];exact⟨_,rfl,hA.o _ _,.never (by simp[vf];exact i)⟩
def vJ:PT->Prop
 | .leaf _ _=>True
 | .wrap c _ _=>c=91\/c=123
 | .alts _ _=>False
def oX{w:Aw}{Q:Az}{y:PT}{b:Ax}(hb:TyV w Q y b)(hf:vJ y):Calls prog 195 #[b] w λe w'=>e=.returned (.bool (y.kind==105))/\Fr w w' N_:=by
 cases hb with
 |base c p h=>
  simp only[zi,ax_,beq_iff_eq]at h;rcases h with(((rfl|rfl)|rfl)|rfl)|rfl;all_goals first
   |exact JK
   |exact bP _ D_ _
 |name c p h=>
  have hc:65<=c/\c<=70:=y4_
  have e:((PT.leaf c p).kind==105)=false:=by
   rw[beq_eq_false_iff_ne];show c≠105;omega
  rw[e];exact bP _ D_ _
 |wrap c p h=>
  rcases hf with rfl|rfl
  .exact bP _ D_ _
  .exact bP _ D_ _
 |alts p X ho hP h=>exact hf.elim
def iG{w:Aw}{Q:Az}{y:PT}{b:Ax}(hb:TyV w Q y b)(hf:vJ y):Calls prog 197 #[b] w λe w'=>e=.returned (.bool (y.kind==110))/\Fr w w' N_:=by
 cases hb with
 |base c p h=>
  simp only[zi,ax_,beq_iff_eq]at h;rcases h with(((rfl|rfl)|rfl)|rfl)|rfl;all_goals first
   |exact tz
   |exact qt _ D_ _
 |name c p h=>
  have hc:65<=c/\c<=70:=y4_
  have e:((PT.leaf c p).kind==110)=false:=by
   rw[beq_eq_false_iff_ne];show c≠110;omega
  rw[e];exact qt _ D_ _
 |wrap c p h=>
  rcases hf with rfl|rfl
  .exact qt _ D_ _
  .exact qt _ D_ _
 |alts p X ho hP h=>exact hf.elim
def YJ{w:Aw}{Q:Az}{y:PT}{b:Ax}(hb:TyV w Q y b)(hf:vJ y):Calls prog 198 #[b] w λe w'=>e=.returned (.bool (y.kind==116))/\Fr w w' N_:=by
 cases hb with
 |base c p h=>
  simp only[zi,ax_,beq_iff_eq]at h;rcases h with(((rfl|rfl)|rfl)|rfl)|rfl;all_goals first
   |exact oZ
   |exact wm _ D_ _
 |name c p h=>
  have hc:65<=c/\c<=70:=y4_
  have e:((PT.leaf c p).kind==116)=false:=by
   rw[beq_eq_false_iff_ne];show c≠116;omega
  rw[e];exact wm _ D_ _
 |wrap c p h=>
  rcases hf with rfl|rfl
  .exact wm _ D_ _
  .exact wm _ D_ _
 |alts p X ho hP h=>exact hf.elim
def nh{w:Aw}{Q:Az}{y:PT}{b:Ax}(hb:TyV w Q y b)(hf:vJ y):Calls prog 199 #[b] w λe w'=>e=.returned (.bool (y.kind==108))/\Fr w w' N_:=by
 cases hb with
 |base c p h=>
  simp only[zi,ax_,beq_iff_eq]at h;rcases h with(((rfl|rfl)|rfl)|rfl)|rfl;all_goals first
   |exact YF
   |exact fg _ D_ _
 |name c p h=>
  have hc:65<=c/\c<=70:=y4_
  have e:((PT.leaf c p).kind==108)=false:=by
   rw[beq_eq_false_iff_ne];show c≠108;omega
  rw[e];exact fg _ D_ _
 |wrap c p h=>
  rcases hf with rfl|rfl
  .exact fg _ D_ _
  .exact fg _ D_ _
 |alts p X ho hP h=>exact hf.elim
def JV{w:Aw}{Q:Az}{y:PT}{b:Ax}(hb:TyV w Q y b)(hf:vJ y):Calls prog 200 #[b] w λe w'=>e=.returned (.bool (y.kind==115))/\Fr w w' N_:=by
 cases hb with
 |base c p h=>
  simp only[zi,ax_,beq_iff_eq]at h;rcases h with(((rfl|rfl)|rfl)|rfl)|rfl;all_goals first
   |exact YQ
   |exact fk _ D_ _
 |name c p h=>
  have hc:65<=c/\c<=70:=y4_
  have e:((PT.leaf c p).kind==115)=false:=by
   rw[beq_eq_false_iff_ne];show c≠115;omega
  rw[e];exact fk _ D_ _
 |wrap c p h=>
  rcases hf with rfl|rfl
  .exact fk _ D_ _
  .exact fk _ D_ _
 |alts p X ho hP h=>exact hf.elim
def Jd{ew er:Au}{p:Nat}{y:PT}(hc:zi c=true)(hf:vJ y):xi ew er (.leaf c p) y=(y.kind==c||(c==105&&y.kind==108)):=by
 cases y with
 |leaf c' p'=>simp only[xi,hc,if_true,PT.kind]
 |wrap c' p' u=>
  simp only[zi,ax_,beq_iff_eq]at hc;have:c'=91\/c'=123:=hf;simp only[xi,PT.kind];rcases hc with(((rfl|rfl)|rfl)|rfl)|rfl<;>rcases this with rfl|rfl<;>rfl
 |alts p' l=>exact hf.elim
def gG(b:Aq):Value:=if b=true then .iface 275 (.agg #[]) else .iface 308 (.agg #[])
section
variable {w:Aw} {Q:Az} {y:PT} {b:Ax} {p:Nat} {sa ra:Am} {sn sc rn rc:Nat} {sT rT:Av} {sx rx:Ax}
def cq14_{p:Prop}(h:p:=by
 (first|(have:=cc1;obtain⟨g,a⟩:∃R,H_ (R=λ(e:Ending) (w':World)=>e=.returned (gG (y.kind==115))/\Fr w w' N_):=⟨_,rfl⟩)|(have:=cc2;obtain⟨g,a⟩:∃R,H_ (R=λ(e:Ending) (w':World)=>e=.returned (gG (y.kind==116))/\Fr w w' N_):=⟨_,rfl⟩)|(have:=cc3;obtain⟨g,a⟩:∃R,H_ (R=λ(e:Ending) (w':World)=>e=.returned (gG (y.kind==110))/\Fr w w' N_):=⟨_,rfl⟩)|(obtain⟨g,a⟩:∃R,H_ (R=λ(e:Ending) (w':World)=>e=.returned (gG (y.kind==108))/\Fr w w' N_):=⟨_,rfl⟩));rw[<- a.o];(first|(have:=cc1;have d:=zy (λW (f:Fr w W N_)=>JV (hb.fr f u_) hf))|(have:=cc2;have d:=zy (λW (f:Fr w W N_)=>YJ (hb.fr f u_) hf))|(have:=cc3;have d:=zy (λW (f:Fr w W N_)=>iG (hb.fr f u_) hf))|(have d:=zy (λW (f:Fr w W N_)=>nh (hb.fr f u_) hf)));have k:=zy (λ(W:World) (b:Bool)=>jU (w:=W) b);have A:=zy (λo l=>((A_ w N_).alloc o).alloc l);obtain⟨bT,bx,rfl⟩:=hb.iface;clear hb hf;(first|(have:=cc1;generalize (y.kind==115)=bb at a d)|(have:=cc2;generalize (y.kind==116)=bb at a d)|(have:=cc3;generalize (y.kind==110)=bb at a d)|(generalize (y.kind==108)=bb at a d));cases bb;all_goals
  go_in;go_wp2_with (first
   |((first|go_at_call 199|go_at_call 200|go_at_call 198|go_at_call 197);apply(d.o _ (A.o _ _)).mono;rintro e w1 ⟨rfl,i⟩;have j:=zy ((A.o _ _).trans i u_);clear i)
   |(go_at_call 196;apply(k.o _ _).mono;rintro e m ⟨rfl,rfl⟩))
  try go_ret
  rw[a.o];exact⟨rfl,j.o⟩):p:=h
def Jl(hb:TyV w Q y b)(hf:vJ y):Calls prog 145 #[.agg #[.slice sa sn sc,.iface sT sx,.slice ra rn rc,.iface rT rx],.iface 215 (.agg #[I_ p]),b] w λe w'=>e=.returned (gG (y.kind==110))/\Fr w w' N_:=by
 have cc3:=Nat
 exact cq14_
def Jm(hb:TyV w Q y b)(hf:vJ y):Calls prog 145 #[.agg #[.slice sa sn sc,.iface sT sx,.slice ra rn rc,.iface rT rx],.iface 217 (.agg #[I_ p]),b] w λe w'=>e=.returned (gG (y.kind==116))/\Fr w w' N_:=by
 have cc2:=Nat
 exact cq14_
def Jh(hb:TyV w Q y b)(hf:vJ y):Calls prog 145 #[.agg #[.slice sa sn sc,.iface sT sx,.slice ra rn rc,.iface rT rx],.iface 219 (.agg #[I_ p]),b] w λe w'=>e=.returned (gG (y.kind==108))/\Fr w w' N_:=by
 exact cq14_
def Jc(hb:TyV w Q y b)(hf:vJ y):Calls prog 145 #[.agg #[.slice sa sn sc,.iface sT sx,.slice ra rn rc,.iface rT rx],.iface 220 (.agg #[I_ p]),b] w λe w'=>e=.returned (gG (y.kind==115))/\Fr w w' N_:=by
 have cc1:=Nat
 exact cq14_
end
section
variable {w:Aw} {Q:Az} {y:PT} {b:Ax} {p:Nat} {sa ra:Am} {sn sc rn rc:Nat} {sT rT:Av} {sx rx:Ax}
def Jr(hb:TyV w Q y b)(hf:vJ y):Calls prog 145 #[.agg #[.slice sa sn sc,.iface sT sx,.slice ra rn rc,.iface rT rx],.iface 218 (.agg #[I_ p]),b] w λe w'=>e=.returned (gG (y.kind==105||y.kind==108))/\Fr w w' N_:=by
 obtain⟨h,a⟩:=y_ (λ(e:Ending) (w':World)=>e=.returned (gG (y.kind==105||y.kind==108))/\Fr w w' N_);rw[<- a.o];have g:=zy (λW (h:Fr w W N_)=>oX (hb.fr h u_) hf);have j:=zy (λW (h:Fr w W N_)=>nh (hb.fr h u_) hf);have i:=zy (λ(W:World) (b:Bool)=>jU (w:=W) b);have A:=zy (λo h=>((A_ w N_).alloc o).alloc h);obtain⟨bT,bx,rfl⟩:=hb.iface;generalize (y.kind==105)=bb at a g;generalize (y.kind==108)=bl at a j;cases bb
 .cases bl;all_goals
   go_in;go_wp2_with (first
    |(go_at_call 195;apply(g.o _ (A.o _ _)).mono;rintro e w1 ⟨rfl,d⟩;have f:=zy ((A.o _ _).trans d u_))
    |(go_at_call 199;apply(j.o _ f).mono;rintro e h ⟨rfl,h⟩;have k:=zy (f.o.trans h u_))
    |(go_at_call 196;apply(i.o _ _).mono;rintro e l ⟨rfl,rfl⟩))
   try go_ret
   rw[a.o];exact⟨rfl,k⟩
 .go_in;go_wp2_with (first
   |(go_at_call 195;apply(g.o _ (A.o _ _)).mono;rintro e w1 ⟨rfl,d⟩;have f:=zy ((A.o _ _).trans d u_))
   |(go_at_call 196;apply(i.o _ _).mono;rintro e l ⟨rfl,rfl⟩))
  try go_ret
  rw[a.o];exact⟨rfl,f⟩
end
section
variable {w:Aw} {p p':Nat} {sa ra:Am} {sn sc rn rc:Nat} {sT rT uT vT bT:Av} {sx rx ux vx bx:Ax}
def cq20_{p:Prop}(h:p:=by
 obtain⟨d,a⟩:=y_ (λ(e:Ending) (w':World)=>e=.returned (.iface 282 (.agg #[.iface uT ux,.iface vT vx]))/\Fr w w' N_);rw[<- a.o];go_in;go_wp2;try go_ret
 rw[a.o];exact⟨rfl,(((A_ w N_).alloc _).alloc _).alloc _⟩):p:=h
def ie:Calls prog 145 #[.agg #[.slice sa sn sc,.iface sT sx,.slice ra rn rc,.iface rT rx],.iface 222 (.agg #[I_ p,.iface uT ux]),.iface 222 (.agg #[I_ p',.iface vT vx])] w λe w'=>e=.returned (.iface 282 (.agg #[.iface uT ux,.iface vT vx]))/\Fr w w' N_:=by
 exact cq20_
def cq26_{p:Prop}(h:p:=by
 obtain⟨f,a⟩:=y_ (λ(e:Ending) (w':World)=>e=.returned (.iface 308 (.agg #[]))/\Fr w w' N_);rw[<- a.o];(first|(have:=cc1;have d:=nH bT hT)|(have:=cc2;have d:=kC bT hT)|(have d:=gW bT hT));go_in;go_wp2;try go_ret
 rw[a.o];exact⟨rfl,(((A_ w N_).alloc _).alloc _).alloc _⟩):p:=h
def gq(hT:bT≠222):Calls prog 145 #[.agg #[.slice sa sn sc,.iface sT sx,.slice ra rn rc,.iface rT rx],.iface 222 (.agg #[I_ p,.iface uT ux]),.iface bT bx] w λe w'=>e=.returned (.iface 308 (.agg #[]))/\Fr w w' N_:=by
 have cc2:=Nat
 exact cq26_
def dR:Calls prog 145 #[.agg #[.slice sa sn sc,.iface sT sx,.slice ra rn rc,.iface rT rx],.iface 223 (.agg #[I_ p,.iface uT ux]),.iface 223 (.agg #[I_ p',.iface vT vx])] w λe w'=>e=.returned (.iface 282 (.agg #[.iface uT ux,.iface vT vx]))/\Fr w w' N_:=by
 have cc1:=Nat
 exact cq20_
def ww(hT:bT≠223):Calls prog 145 #[.agg #[.slice sa sn sc,.iface sT sx,.slice ra rn rc,.iface rT rx],.iface 223 (.agg #[I_ p,.iface uT ux]),.iface bT bx] w λe w'=>e=.returned (.iface 308 (.agg #[]))/\Fr w w' N_:=by
 exact cq26_
def kw(hT:bT≠229):Calls prog 145 #[.agg #[.slice sa sn sc,.iface sT sx,.slice ra rn rc,.iface rT rx],.iface 229 (.agg #[I_ p,U_ c]),.iface bT bx] w λe w'=>e=.returned (.iface 308 (.agg #[]))/\Fr w w' N_:=by
 have cc1:=Nat
 exact cq26_
def uG{a:Nat}(hc:¬((a:Int)=(c:Int))):Calls prog 145 #[.agg #[.slice sa sn sc,.iface sT sx,.slice ra rn rc,.iface rT rx],.iface 229 (.agg #[I_ p,U_ c]),.iface 229 (.agg #[I_ p',U_ a])] w λe w'=>e=.returned (.iface 308 (.agg #[]))/\Fr w w' N_:=by
 obtain⟨f,d⟩:=y_ (λ(e:Ending) (w':World)=>e=.returned (.iface 308 (.agg #[]))/\Fr w w' N_);rw[<- d.o];have f:((a:Int)==(c:Int))=false:=z7_
 have f:decide ((a:Int)=(c:Int))=false:=z7_
 go_in;go_wp2;all_goals first
  |((try go_ret);rw[d.o];exact⟨rfl,(((A_ w N_).alloc _).alloc _).alloc _⟩)
  |omega
end
def cY{w:Aw}{Q:Az}{s':BA}{ds ds':Ar}{sv sv':Ax}{xs xs':Ay}{p p':Nat}{sT rT:Av}{sx rx:Ax}{x y:PB}(D:yR w P s ds sv xs)(E:yR w Q s' ds' sv' xs')(hx:zx ds c=some x)(hy:zx ds' c=some y):Calls prog 145 #[.agg #[sv,.iface sT sx,sv',.iface rT rx],.iface 229 (.agg #[I_ p,U_ c]),.iface 229 (.agg #[I_ p',U_ c])] w λe w'=>∃a b v,e=.returned v/\Fr w w' N_/\yV w' P s x a/\yV w' Q s' y b/\ZV ds' xs' y b/\MbV x y a b v:=by
 obtain⟨T,J⟩:=y_ (λ(e:Ending) (w':World)=>∃a b v,e=.returned v/\Fr w w' N_/\yV w' P s x a/\yV w' Q s' y b/\ZV ds' xs' y b/\MbV x y a b v);rw[<- J.o];have L:=zy (λW (d:Fr w W N_)=>jp (rv:=.iface sT sx) c (D.fr d u_));have M:=zy (λW (d:Fr w W N_)=>tE (rv:=.iface rT rx) c (E.fr d u_));have N:=zy (λW a b (ha:yV W P s x a) (hb:yV W Q s' y b)=>ox ha hb);have hx:=zy hx;have hy:=zy hy;obtain⟨sa,sc,rfl⟩:=zw D.row;obtain⟨ra,rc,rfl⟩:=zw E.row;obtain⟨i,hwz⟩:=e_ (((w.alloc (.cells #[.slice sa ds.length sc,.iface sT sx,.slice ra ds'.length rc,.iface rT rx] 83)).alloc (.cells #[I_ p,U_ c] 229)).alloc (.cells #[I_ p',U_ c] 229));have k:Fr w i N_:=xm_
 have j:Blk i w.heap.size [.slice sa ds.length sc,.iface sT sx,.slice ra ds'.length rc,.iface rT rx] 83:=by
  rw[hwz];exact((B_ w #[.slice sa ds.length sc,.iface sT sx,.slice ra ds'.length rc,.iface rT rx] 83).alloc _).alloc _
 have B:Blk i (w.heap.size+1) [I_ p,U_ c] 229:=by
  rw[hwz];have h:=(B_ (w.alloc (.cells #[.slice sa ds.length sc,.iface sT sx,.slice ra ds'.length rc,.iface rT rx] 83)) #[I_ p,U_ c] 229).alloc (.cells #[I_ p',U_ c] 229);have hs:∀(u:World) (o:Obj),(u.alloc o).heap.size=u.heap.size+1:=λu o=>by show(u.heap.push _).size=_;simp
  simp only[hs]at h;exact h
 have F:Blk i (w.heap.size+1+1) [I_ p',U_ c] 229:=by
  rw[hwz];have h:=B_ ((w.alloc (.cells #[.slice sa ds.length sc,.iface sT sx,.slice ra ds'.length rc,.iface rT rx] 83)).alloc (.cells #[I_ p,U_ c] 229)) #[I_ p',U_ c] 229;have hs:∀(u:World) (o:Obj),(u.alloc o).heap.size=u.heap.size+1:=λu o=>by show(u.heap.push _).size=_;simp
  simp only[hs]at h;exact h
 obtain⟨G,hCL⟩:∃C:World->Prop,C=λW=>W.cell? ⟨w.heap.size,0,none⟩=some (.slice sa ds.length sc)/\W.cell? ⟨w.heap.size,1,none⟩=some (.iface sT sx)/\W.cell? ⟨w.heap.size,2,none⟩=some (.slice ra ds'.length rc)/\W.cell? ⟨w.heap.size,3,none⟩=some (.iface rT rx)/\W.cell? ⟨w.heap.size+1,1,none⟩=some (U_ c)/\W.cell? ⟨w.heap.size+1+1,1,none⟩=some (U_ c):=⟨_,rfl⟩;have m:=zy (λW (d:Fr i W N_)=>show G W by
  rw[hCL]
  exact⟨(d.bl j id).cell 0,(d.bl j id).cell 1,(d.bl j id).cell 2,(d.bl j id).cell 3,(d.bl B id).cell 1,(d.bl F id).cell 1⟩)
 replace k:=zy k;replace hwz:=zy hwz;replace hCL:=zy hCL;go_in;go_wp2;rw[<- hwz.o];refine tR_ G ?_;refine tA_ 0 rfl K_ (λ_ _ _ h=>h) x4_ ?_;refine tA_ 1 rfl K_ (λ_ _ _ h=>h) x4_ ?_;refine tA_ 2 rfl K_ (λ_ _ _ h=>h) x4_ ?_;refine tA_ 3 rfl K_ (λ_ _ _ h=>h) x4_ ?_;refine tA_ 5 rfl K_ (λ_ _ _ h=>h) x4_ ?_;refine tA_ 6 rfl K_ (λ_ _ _ h=>h) x4_ ?_;refine tA_ 7 rfl K_ (λ_ _ _ h=>h) x4_ ?_;refine tA_ 8 rfl K_ (λ_ _ _ h=>h) x4_ ?_;refine zJ 4 rfl K_ (m.o _ (A_ i _).drew) (λl f=>?_);go_simp;apply(L.o _ k.o.drew).mono;rintro e w1 ⟨d,rfl,d,q⟩;rw[hx.o]at q;have r:=zy ((A_ i N_).drew.trans d u_);replace q:=zy q;refine f _ _ ?_;refine zJ 9 rfl K_ (m.o _ r) (λl f=>?_);go_simp;apply(M.o _ (k.o.trans r u_)).mono;rintro e d ⟨d,rfl,d,g⟩;rw[hy.o]at g;obtain⟨g,z⟩:=g;replace z:=zy z;have H:=zy (r.o.trans d u_);have K:=zy (q.o.fr d u_);replace g:=zy g;refine f _ _ ?_;refine zJ 10 rfl K_ (m.o _ H) (λl f=>?_);go_simp;apply(N.o _ _ _ K g).mono;rintro e d ⟨d,rfl,d,t⟩;have I:=zy (H.o.trans d u_);have O:=zy (K.o.fr d u_);have S:=zy (g.o.fr d u_);replace t:=zy t;refine f _ _ ?_;refine tY_ 11 ?_;refine yq K_ (m.o _ I) ?_ _;go_wp2;try go_ret
 rw[J.o];exact⟨_,_,_,rfl,k.o.trans I u_,O,S,z,t⟩
end Go.Proofs.YtlmebjdmdogmfaaGreatDoor
