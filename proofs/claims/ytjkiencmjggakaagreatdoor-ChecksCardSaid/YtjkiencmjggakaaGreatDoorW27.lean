import Derived.Test.YtjkiencmjggakaaGreatDoorW26
import Derived.Laws.Small
import Derived.OwnWalk
set_option maxHeartbeats 16000000
set_option maxRecDepth 100000
set_option linter.unusedVariables false
set_option linter.defProp false
set_option linter.unusedSimpArgs false
open Go.Proofs.Tryz
namespace Go.Proofs.YtjkiencmjggakaaGreatDoor
open Go.RowKit
variable {k a bz c p b:Nat}{P S:Nat->Prop}{ts:List TR}{kd:Nat->KD}{x t:PT}{d:List (Nat×Nat×Bool)}{W':World}{fv lv:Value}{env:Nat->Option PB}
def PW(t:PT):Prop:=∀p l,t=.alts p l->(l.map PT.kind).Nodup
structure KK(ew er:Nat->Option PB)(ta tb:List TR)(ka kb:Nat->KD):Prop where
 A:nG ta ew ka
 B:nG tb er kb
 E:qU ew
 E':qU er
 f:Wc ew
 d:∀k t,isT tb k t->PW t
def SnP(ew er:Nat->Option PB)(ta tb:List TR)(w r n:Nat):Prop:=∃m,m<=301/\n=enc m/\∀t t',isT ta w t->isT tb r t'->okT ew t->vu t->okT er t'->Lo (Un ew er t t') m
def Lo.mono{D e:DT->Prop}{m:Nat}(h:Lo D m)(i:∀d,D d->e d):Lo e m:=by
 rcases h with h|⟨d,h1,f⟩
 .exact .inl h
 .exact .inr ⟨d,i d h1,f⟩
def Un.into{ew er:Nat->Option PB}{y:PT}{rs:List PT}{d:DT}(hx:x.isAlts=false)(hk:xk ew er x rs 0 none=some k)(hy:rs[k]?=some y)(hm:yW ew er x y=true)(ha:y.isAlts=false)(h:Un ew er x y d):Un ew er x (.alts p rs) d:=by
 have hv:∀{r:PT},Via ew er x y r->Via ew er x (.alts p rs) r:=λ{r} hv=>by
  rcases hv with⟨_,rfl⟩|⟨p',f,i,e,_⟩
  .exact .inr ⟨p,rs,k,rfl,hk,hy⟩
  .subst e;cases ha
 cases h with
 |alts0=>cases hx
 |never hx hv hd=>
  rcases hv with⟨_,h⟩|⟨p',f,e,_⟩
  .rw[hm]at h;cases h
  .subst e;cases ha
 |items h1 h2 h3 h4=>exact .items (hv h1) h2 h3 h4
 |sym h1 hb hw hr hn h=>exact .sym (hv h1) hb hw hr hn h
 |field h1 hb hw hr hd hg hi hf he hu=>exact .field (hv h1) hb hw hr hd hg hi hf he hu
 |lack h1 hb hw hr hd hg hi hf=>exact .lack (hv h1) hb hw hr hd hg hi hf
def uA{ew er:Nat->Option PB}:∀{rs:List PT}{i:Nat}{k0:Option Nat}{k:Nat},xk ew er x rs i k0=some k->k0=some k\/(i<=k/\∃y,rs[k-i]?=some y/\yW ew er x y=true)
 | [],i,k0,k,h=>.inl h
 |r::rs,i,k0,k,h=>by
  unfold xk at h;split at h
  .rename_i hc;rcases uA h with e|⟨h1,y,f,j⟩
   .cases e;exact .inr ⟨l_,r,by simp,(Bool.and_eq_true_iff.1 hc).1⟩
   .exact .inr ⟨M_,y,by rw[show k-i=(k-(i+1))+1 by omega];simpa using f,j⟩
  .rcases uA h with e|⟨h1,y,f,j⟩
   .exact .inl e
   .exact .inr ⟨M_,y,by rw[show k-i=(k-(i+1))+1 by omega];simpa using f,j⟩
def ja(h:isT ts k t):match t with
 | .leaf c _=>ts.getD k ⟨0,[]⟩=⟨c,[]⟩
 | .wrap c _ u=>∃j,ts.getD k ⟨0,[]⟩=⟨c,[j]⟩/\isT ts j u
 | .alts _ l=>∃f,ts.getD k ⟨0,[]⟩=⟨40,f⟩/\jR ts f l:=by
 cases t with
 |leaf c p=>unfold isT at h;rw[ap_,h];rfl
 |wrap c p t=>unfold isT at h;obtain⟨j,h,e⟩:=h;rw[ap_,h];exact⟨j,rfl,e⟩
 |alts p l=>unfold isT at h;obtain⟨j,h,e⟩:=h;rw[ap_,h];exact⟨j,rfl,e⟩
def SnT.lo{ew:Nat->Option PB}{ta:List TR}{w n:Nat}(h:SnT ew ta w n):∃m,m<=301/\n=enc m/\∀t,isT ta w t->okT ew t->vu t->Lo (λd=>Dat ew d t) m:=h
def fX(h:okT env t)(f:t.isAlts=false):t.kind≠40:=by
 cases t with
 |alts p l=>cases f
 |wrap c p u=>
  unfold okT at h;show c≠40;have:=h.1;omega
 |leaf c p=>
  unfold okT at h;show c≠40;rintro rfl;rcases h with h|⟨h,_⟩
  .simp[zu]at h
  .simp[zp]at h
def fO(h:isT ts k t)(ho:okT env t):((ts.getD k ⟨0,[]⟩).kind=40↔t.isAlts=true):=by
 rw[(xX h).1];cases ha:t.isAlts with
 |true=>
  cases t with
  |alts p l=>simp[PT.kind]
  |leaf c p=>cases ha
  |wrap c p u=>cases ha
 |false=>
  have:=fX ho ha;simp[this]
def tD(K:nG ts env kd){fs:List PF}(hn:zp c=true)(he:env c=some (.recd fs)):(kd c).fs.map Prod.fst=fs.map PF.letter:=by
 obtain⟨_,h,e⟩:=K.recd c fs hn he;apply List.ext_getElem?;intro q;rw[aq_,aq_];by_cases f:q<fs.length
 .have hf:=af_ f;have hx:=af_ (show q<(kd c).fs.length by omega);rw[hf,hx];exact congrArg some (e q _ _ hf hx).1
 .rw[a4_ M_,a4_ M_];rfl
def Kt{D:Nat->DT->Prop}{j:DT->Prop}{ks:List Nat}{i:Nat}(hi:i<ks.length)(h:∀(q k:Nat),ks[q]?=some k->Lo (D q) k)(ha:Lo j a){G:DT->Prop}(o:∀ds:List DT,ds.length=ks.length->(∀(q:Nat) (d:DT),ds[q]?=some d->q≠i->D q d)->(∀d,ds[i]?=some d->j d)->G (.mk 114 0 noB [] ds)):Lo G (jnN (ks.set i a)):=by
 refine iP (Dj:=λq d=>(q≠i->D q d)/\(q=i->j d)) (λq k e=>?_) (λds hd m=>⟨114,0,noB,[],o ds (by simpa using hd) (λq d e f=>(m q d e).1 f) (λd e=>(m i d e).2 rfl)⟩);rw[bg_]at e;by_cases f:i=q
 .subst f;rw[i_ rfl,i_ hi]at e;cases e;exact ha.mono (λd hd=>⟨λh=>absurd rfl h,λ_=>hd⟩)
 .rw[n_ f]at e;exact(h q k e).mono (λd hd=>⟨λ_=>hd,λh=>absurd h.symm f⟩)
def io{ew er:Nat->Option PB}{t':PT}{X:PB}(hn:zp c=true)(hX:ew c=some X)(h:yW ew er (.leaf c p) t'=true):∃p' Y,t'=.leaf c p'/\er c=some Y/\yV X=yV Y:=by
 cases t' with
 |alts p l=>simp[yW]at h
 |wrap c' p' u=>simp[yW]at h
 |leaf c' p'=>
  rw[wh,n_ (by simp[je hn]:¬zu c=true),hX]at h;simp only[ax_,beq_iff_eq]at h;obtain⟨rfl,h⟩:=h;cases e:er c with
  |none=>rw[e]at h;cases h
  |some Y=>
   rw[e]at h;exact⟨p',Y,rfl,rfl,by simpa using h⟩
def ZG{ka:Nat->KD}(h:(zM ka c).so≠0):zp c=true:=by
 unfold zM at h;split at h
 .assumption
 .exact absurd rfl h
def ZC{ta:List TR}{ew:Nat->Option PB}{w:Nat}{j:List Nat}(i:isT ta w t)(ho:okT ew t)(hX:ta.getD w ⟨0,[]⟩=⟨c,j⟩)(hn:zp c=true):∃p f,t=.leaf c p/\ew c=some f:=by
 have hc:65<=c/\c<=70:=by simpa[zp] using hn
 have hk:=(xX i).1;rw[hX]at hk;cases t with
 |alts p l=>
  have:c=40:=hk;omega
 |wrap c' p u=>
  have e:c=c':=hk;unfold okT at ho;have:=ho.1;omega
 |leaf c' p=>
  have e:c=c':=hk;subst e;unfold okT at ho;rcases ho with ho|⟨_,f,h⟩
  .rw[je hn]at ho;cases ho
  .exact⟨p,f,rfl,h⟩
def pU(f:Nat->Nat):∀(l:List Nat) (i:Nat),(l.eraseIdx i).map f=(l.map f).eraseIdx i
 | [],i=>by simp
 |x::r,0=>by simp
 |x::r,i+1=>by simp[pU f r i]
def Gv(ks:List Nat):jnN ks<=301:=by
 unfold jnN;split
 .omega
 .split<;>omega
def ZE{L:Nat->Nat}{ew:Nat->Option PB}{ta:List TR}(o:∀w,SnT ew ta w (L w))(hk:k<d.length)(ha:a<=301){v:Nat}(hv:v=enc a):∃ms:List Nat,ms.length=d.length/\(∀m∈ms,m<=301)/\(∀(i m:Nat) (x:Nat×Nat×Bool),d[i]?=some x->ms[i]?=some m->L x.2.1=enc m/\∀t,isT ta x.2.1 t->okT ew t->vu t->Lo (λd=>Dat ew d t) m)/\kT (yq 1 v) (((d.map λx=>x.2.1).eraseIdx k).map L)=enc (jnN (ms.set k a)):=by
 obtain⟨ms,h1,f,h,j⟩:=dQ o (d.map λx=>x.2.1);refine⟨ms,by simpa using f,h,λi m x e e'=>⟨?_,j i x.2.1 m (by rw[aq_,e];rfl) e'⟩,?_⟩
 .have:((d.map λx=>x.2.1).map L)[i]?=(ms.map enc)[i]?:=by rw[h1]
  rw[aq_,aq_,aq_,e,e']at this;simpa using this
 .rw[pU,h1,<- pU,hv];exact VT (by simp at f;omega) ha h
def ZT(h:jT d c=some k):k<d.length:=by
 unfold jT at h;have:=(List.findIdx?_eq_some_iff_getElem.1 h);obtain⟨h1,_⟩:=this;simpa using h1
def SnP.min{ew er:Nat->Option PB}{ta tb:List TR}{w r:Nat}(ha:SnP ew er ta tb w r a)(hb:SnP ew er ta tb w r b):SnP ew er ta tb w r (min a b):=by
 by_cases h:a<=b
 .rw[Nat.min_eq_left h];exact ha
 .rw[Nat.min_eq_right M_];exact hb
def Qw{ew er:Nat->Option PB}{ta tb:List TR}{ka kb:Nat->KD}(K:KK ew er ta tb ka kb){L:Nat->Nat}{F:Nat->Nat->Nat}(hL:∀w,SnT ew ta w (L w))(hF:∀w r,SnP ew er ta tb w r (F w r))(w r:Nat):SnP ew er ta tb w r (xl ka kb ta tb L F w r):=by
 obtain⟨X,hX⟩:=x_ (ta.getD w ⟨0,[]⟩);obtain⟨Y,N⟩:=x_ (tb.getD r ⟨0,[]⟩);unfold xl;rw[hX,N];dsimp only;have e1:enc 1=1:=rfl;have one:∀{D:DT->Prop} {m:Nat},Lo D m->∀(q x:Nat),[m][q]?=some x->Lo D x:=λ{D m} h q x e=>by
  cases q with
  |zero=>simp at e;subst e;exact h
  |succ q=>simp at e
 by_cases h1:X.kind=40
 .rw[i_ h1];rcases @mX (X.subs.map λi=>F i r) 602 with hm|hm
  .refine⟨0,M_,?_,λ_ _ _ _ _ _ _=>.inl rfl⟩;unfold ke;rw[hm];rfl
  .obtain⟨j,Q,R⟩:=ay_.1 hm;obtain⟨m,H,I,J⟩:=hF j r;have hp:=jY (a:=1) (b:=m) M_ H;rw[jH,e1]at hp;refine⟨jnN [m],hp.2,?_,λt t' s z ho hw C=>?_⟩
   .unfold ke;rw[<- R,I,hp.1]
   .have ha:=(fO s ho).1 (by rw[hX];exact h1);cases t with
    |leaf c p=>cases ha
    |wrap c p u=>cases ha
    |alts p ls=>
     obtain⟨O,G,Z⟩:=ja s;rw[hX]at G;subst G;obtain⟨g3,g4⟩:=qg Z;obtain⟨i,hi⟩:=a5_ Q;have e9:i<O.length:=(ae_.1 hi).1;have M:i<ls.length:=M_;have hl:=af_ M;unfold okT at ho;unfold vu at hw;have hu:=J ls[i] t' (g4 i j _ hi hl) z (vp ho.2 _ (a0_ _)).2 (qR hw.2 _ (a0_ _)) C;refine iP (Dj:=λ_ d=>Un ew er ls[i] t' d) (one hu) (λds hd T=>?_)
     match ds,hd,T with
     | [d],_,T=>exact⟨40,(i:Int),noB,[],.alts0 (by have:=hw.1;omega) hl (T 0 d rfl)⟩
 .rw[n_ h1];have fx:∀{t},isT ta w t->okT ew t->t.isAlts=false:=λ{t} s ho=>by
   cases e:t.isAlts with
   |false=>rfl
   |true=>exact absurd (hX▸(fO s ho).2 e) h1
  by_cases h2:Y.kind=40
  .rw[i_ h2];cases R:yD ka kb tb X.kind Y.subs 0 none with
   |none=>
    obtain⟨m,H,I,J⟩:=hL w;refine⟨m,H,I,λt t' s z ho hw C=>(J t s ho hw).mono (λd hd=>?_)⟩;have Q:=(fO z C).1 (by rw[N];exact h2);cases t' with
    |leaf c p=>cases Q
    |wrap c p u=>cases Q
    |alts p rs=>
     obtain⟨O,G,Z⟩:=ja z;rw[N]at G;subst G;have M:=C;unfold okT at M;rw[<- hX,(xX s).1,wi K.A K.B ho (fx s ho) rs O 0 none 0 Z M.2 (K.d r _ z p rs rfl) (λh=>absurd rfl h)]at R;exact .never (fx s ho) (.inr ⟨p,rs,rfl,R⟩) hd
   |some k=>
    dsimp only;obtain⟨m,H,I,J⟩:=hF w (Y.subs.getD k 0);refine⟨m,H,I,λt t' s z ho hw C=>?_⟩;have Q:=(fO z C).1 (by rw[N];exact h2);cases t' with
    |leaf c p=>cases Q
    |wrap c p u=>cases Q
    |alts p rs=>
     obtain⟨O,G,Z⟩:=ja z;rw[N]at G;subst G;have M:=C;unfold okT at M;rw[<- hX,(xX s).1,wi K.A K.B ho (fx s ho) rs O 0 none 0 Z M.2 (K.d r _ z p rs rfl) (λh=>absurd rfl h)]at R;rcases uA R with e|⟨_,y,U,y2⟩
     .cases e
     .rw[Nat.sub_zero]at U;have b9:=(ae_.1 U).1;obtain⟨g3,g4⟩:=qg Z;have f0:k<O.length:=M_;have hj:=af_ f0;have ek:O.getD k 0=O[k]:=by rw[ap_,hj];rfl
      have e4:=vp M.2 y (aj_ U);have hu:=J t y s (by show isT tb (O.getD k 0) y;rw[ek];exact g4 k _ y hj U) ho hw e4.2;exact hu.mono (λd hd=>hd.into (fx s ho) R U y2 e4.1)
  .rw[n_ h2];have fy:∀{t},isT tb r t->okT er t->t.isAlts=false:=λ{t} s ho=>by
    cases e:t.isAlts with
    |false=>rfl
    |true=>exact absurd (N▸(fO s ho).2 e) h2
   have me:∀{t t'},isT ta w t->isT tb r t'->okT ew t->okT er t'->yW ew er t t'=vO ka kb X.kind Y.kind:=λ{t t'} s z ho C=>by
    rw[<- aS K.A K.B ho C (fx s ho) (fy z C),<- (xX s).1,<- (xX z).1,hX,N]
   by_cases h3:vO ka kb X.kind Y.kind=false
   .rw[i_ h3];obtain⟨m,H,I,J⟩:=hL w;exact⟨m,H,I,λt t' s z ho hw C=>(J t s ho hw).mono (λd hd=>.never (fx s ho) (.inl ⟨fy z C,(me s z ho C).trans h3⟩) hd)⟩
   .rw[n_ h3];have b8:vO ka kb X.kind Y.kind=true:=by simpa using h3
    by_cases h4:X.kind=91\/X.kind=123
    .rw[i_ h4];obtain⟨m,H,I,J⟩:=hF (X.subs.getD 0 0) (Y.subs.getD 0 0);have hp:=jY (a:=1) (b:=m) M_ H;rw[jH,e1]at hp;refine⟨jnN [m],hp.2,by rw[I,hp.1],λt t' s z ho hw C=>?_⟩;have a1:=(me s z ho C).trans b8;cases t with
     |alts p l=>exact absurd (fx s ho) (by simp[PT.isAlts])
     |leaf c p=>
      have g:=ja s;rw[hX]at g;have g':X=⟨c,[]⟩:=g;subst g';have M:c=91\/c=123:=h4;unfold okT at ho;rcases M with rfl|rfl;all_goals
       rcases ho with ho|ho
       .simp[zu]at ho
       .simp[zp]at ho
     |wrap c p u=>
      cases t' with
      |alts p l=>exact absurd (fy z C) (by simp[PT.isAlts])
      |leaf c' p'=>simp[yW]at a1
      |wrap c' p' u'=>
       obtain rfl:c=c':=by simpa[yW] using a1
       obtain⟨j,G,Z⟩:=ja s;obtain⟨j',U,e6⟩:=ja z;rw[hX]at G;rw[N]at U;subst G;subst U;unfold okT at ho C;unfold vu at hw;have hu:=J u u' Z e6 ho.2 hw C.2;have hv:Via ew er (.wrap c p u) (.wrap c p' u') (.wrap c p' u'):=.inl ⟨rfl,rfl⟩;refine iP (Dj:=λ_ d=>Un ew er u u' d) (one hu) (λds hd T=>?_)
       match ds,hd,T with
       | [d],_,T=>
        have R:=T 0 d rfl;rcases ho.1 with rfl|rfl
        .exact⟨91,0,noB,[],.items hv (.list (by simp) (λx hx=>by simp at hx;subst hx;exact R.dat)) (by simp[DT.subs]) R⟩
        .exact⟨123,0,noB,[⟨#[97]⟩],.items hv (.map (by simp) rfl ⟨by simp[bK],λk hk=>by
          have f1:k=0:=by
           have:k<1:=hk
           omega
          subst f1
          decide,by show(1:Nat)<=_;omega,trivial⟩ (λx hx=>by simp at hx;subst hx;exact R.dat)) (by simp[DT.subs]) R⟩
    .rw[n_ h4];obtain⟨c,O⟩:=X;by_cases h5:(zM ka c).so=101/\(zM kb Y.kind).o<0/\∃x∈(zM ka c).sb,x∉(zM kb Y.kind).sb
     .rw[i_ h5];obtain⟨Q,a2,c0,a3,U⟩:=h5;have hn:zp c=true:=ZG (by rw[Q];decide);refine⟨1,M_,rfl,λt t' s z ho hw C=>?_⟩;have a1:=(me s z ho C).trans b8;obtain⟨p,Xb,rfl,M⟩:=ZC s ho hX hn;obtain⟨p',Yb,rfl,a8,hs⟩:=io hn M a1;have a7:Y.kind=c:=by rw[<- N,(xX z).1];rfl
      rw[a7]at a2 U;unfold zM at Q a2 a3 U;rw[i_ hn]at Q a2 a3 U;cases Xb with
      |recd fs=>rw[(K.A.recd c fs hn M).1]at Q;exact absurd Q D_
      |bytes k=>rw[(K.A.bytes c k hn M).1]at Q;exact absurd Q D_
      |enum lw ow=>
       cases Yb with
       |recd fs=>simp[yV]at hs
       |bytes k=>simp[yV]at hs
       |enum lr o=>
        obtain⟨_,b1,b2,_⟩:=K.B.enum c lr o hn a8;have f4:=b2.1 a2;subst f4;rw[(K.A.enum c lw ow hn M).2.1]at a3;rw[b1]at U;obtain⟨n,e3⟩:=a5_ a3;have f3:=(ae_.1 e3).1;refine uZ (x:=.mk 101 (n:Int) noB [] []) rfl (.sym (.inl ⟨rfl,rfl⟩) (je hn) M a8 (by simpa using f3) ?_);unfold ql;rw[ap_,e3];have:(lr.map Prod.fst).findIdx? (λx=>x==(some c0).getD 0)=none:=by
         rw[List.findIdx?_eq_none_iff];intro x hx;simp only[Option.getD_some,beq_eq_false_iff_ne];exact λe=>U (e▸hx)
        rw[this]
     .rw[n_ h5];by_cases R:(zM ka c).so=114
      .rw[i_ R];have hn:zp c=true:=ZG (by rw[R];decide);have two:∀{t t'},isT ta w t->isT tb r t'->okT ew t->okT er t'->∃p p' fw fr,t=.leaf c p/\t'=.leaf c p'/\ew c=some (.recd fw)/\er c=some (.recd fr):=λ{t t'} s z ho C=>by
        have a1:=(me s z ho C).trans b8;obtain⟨p,Xb,rfl,M⟩:=ZC s ho hX hn;obtain⟨p',Yb,rfl,a8,hs⟩:=io hn M a1;unfold zM at R;rw[i_ hn]at R;cases Xb with
        |enum l u=>rw[(K.A.enum c l u hn M).1]at R;exact absurd R D_
        |bytes k=>rw[(K.A.bytes c k hn M).1]at R;exact absurd R D_
        |recd fw=>
         cases Yb with
         |enum l u=>simp[yV]at hs
         |bytes k=>simp[yV]at hs
         |recd fr=>exact⟨p,p',fw,fr,rfl,rfl,M,a8⟩
       have yk:∀{t t'},isT ta w t->isT tb r t'->okT ew t->okT er t'->Y.kind=c:=λ{t t'} s z ho C=>by
        obtain⟨p,p',fw,fr,_,rfl,_⟩:=two s z ho C;rw[<- N,(xX z).1];rfl
       have da:zM ka c=ka c:=by unfold zM;rw[i_ hn]
       have e5:∀(es:List (Nat×Nat×Bool)) (n:Nat),(∀g∈es,g∈(zM kb Y.kind).fs)->SnP ew er ta tb w r n->SnP ew er ta tb w r (es.foldl (kV L F w (zM ka c).fs) n):=by
        intro es;induction es with
        |nil=>exact λn _ h=>h
        |cons g es ih=>
         intro n hg hs;rw[b2_];refine ih _ (λx hx=>hg x (List.mem_cons_of_mem _ hx)) ?_;have a0:=hg g (by simp);unfold kV;cases hi:jT (zM ka c).fs g.1 with
         |none=>
          dsimp only;by_cases hd:g.2.2=true
          .rw[i_ hd];exact hs
          .rw[n_ hd];refine hs.min ?_;obtain⟨m,H,I,J⟩:=hL w;refine⟨m,H,I,λt t' s z ho hw C=>(J t s ho hw).mono (λx hx=>?_)⟩;have a7:=yk s z ho C;obtain⟨p,p',fw,fr,rfl,rfl,U,a4⟩:=two s z ho C;rw[a7]at a0;unfold zM at a0 hi;rw[i_ hn]at a0 hi;obtain⟨q,hq⟩:=a5_ a0;obtain⟨_,b2,b3⟩:=K.B.recd c fr hn a4;have f5:=(ae_.1 hq).1;have d7:=af_ (show q<fr.length by omega);obtain⟨b4,b5,b6⟩:=b3 q _ g d7 hq;refine .lack (g:=fr[q]) (.inl ⟨rfl,rfl⟩) (je hn) U a4 hx (a0_ _) ?_ ?_
           .unfold jg;rw[<- tD K.A hn U,<- b4];exact hi
           .cases e8:fr[q].dflt with
            |none=>rfl
            |some v=>rw[e8]at b6;exact absurd b6 hd
         |some k=>
          dsimp only;refine hs.min ?_;have b9:=ZT hi;obtain⟨x,hx⟩:∃x,(zM ka c).fs[k]?=some x:=⟨_,af_ b9⟩;have f7:(zM ka c).fs.getD k (0,0,false)=x:=by rw[ap_,hx];rfl
          rw[f7];obtain⟨a,Q,a2,a3⟩:=hF x.2.1 g.2.1;obtain⟨ms,b1,b2,b3,b4⟩:=ZE hL b9 Q a2;refine⟨jnN (ms.set k a),Gv _,b4,λt t' s z ho hw C=>?_⟩;have a7:=yk s z ho C;obtain⟨p,p',fw,fr,rfl,rfl,U,a4⟩:=two s z ho C;rw[a7]at a0;unfold zM at a0;rw[da]at hi hx b1 b3;rw[i_ hn]at a0;obtain⟨q,hq⟩:=a5_ a0;obtain⟨_,c2,c3⟩:=K.B.recd c fr hn a4;obtain⟨_,d2,d3⟩:=K.A.recd c fw hn U;have f5:=(ae_.1 hq).1;have d7:=af_ (show q<fr.length by omega);obtain⟨c4,c5,c6⟩:=c3 q _ g d7 hq;have f8:=(ae_.1 hx).1;have a6:=af_ (show k<fw.length by omega);obtain⟨d4,d5,d6⟩:=d3 k _ x a6 hx;have b7:∀(i:Nat) (f:PF),fw[i]?=some f->okT ew f.ty/\vu f.ty:=λi f e=>⟨K.E c _ U f (aj_ e),(K.f c fw U).2 f (aj_ e)⟩;have f6:=a3 fw[k].ty fr[q].ty d5 c5 (b7 k _ a6).1 (b7 k _ a6).2 (K.E' c _ a4 _ (a0_ _));refine Kt (D:=λi d=>∀f,fw[i]?=some f->Dat ew d f.ty) M_ (λi m e=>?_) f6 (λds hl T d8=>?_)
          .have e9:=(ae_.1 e).1;have a9:=af_ (show i<fw.length by omega);have e2:=af_ (show i<(ka c).fs.length by omega);have:=(b3 i m _ e2 e).2 fw[i].ty (d3 i _ _ a9 e2).2.1 (b7 i _ a9).1 (b7 i _ a9).2;exact this.mono (λd hd f e=>by rw[a9]at e;cases e;exact hd)
          .have f2:ds.length=fw.length:=M_;have d9:=af_ (show k<ds.length by omega);have e7:Dat ew (.mk 114 0 noB [] ds) (.leaf c p):=.recd U (je hn) f2 (λi d t e e'=>by
            rw[aq_]at e'
            cases a5:fw[i]? with
            |none=>rw[a5]at e';cases e'
            |some f=>
             rw[a5]at e'
             cases e'
             by_cases e0:i=k
             .subst e0
              rw[a6]at a5
              cases a5
              exact(d8 d e).dat
             .exact T i d e e0 f a5)
           refine .field (g:=fr[q]) (h:=fw[k]) (i:=k) (.inl ⟨rfl,rfl⟩) (je hn) U a4 e7 (a0_ _) ?_ a6 d9 (d8 _ d9);unfold jg;rw[<- tD K.A hn U,<- c4];exact hi
       exact e5 _ 602 (λg hg=>hg) ⟨0,M_,rfl,λ_ _ _ _ _ _ _=>.inl rfl⟩
      .rw[n_ R];exact⟨0,M_,rfl,λ_ _ _ _ _ _ _=>.inl rfl⟩
section
variable {ew er:Nat->Option PB} {ta tb:List TR} {ka kb:Nat->KD} {L:Nat->Nat} {F:Nat->Nat->Nat} {w r:Nat}
def KP(ew er:Nat->Option PB)(ta tb:List TR)(F:Nat->Nat->Nat)(t t':PT)(n:Nat):Prop:=okT ew t/\okT er t'/\n<=301/\∃w r,isT ta w t/\isT tb r t'/\F w r=enc n
def Qk{ws:List PT}(h:isT ta w (.alts p ws)):∃e,jR ta e ws/\xl ka kb ta tb L F w r=yq 1 (ke (e.map λi=>F i r)):=by
 obtain⟨e,f,j⟩:=ja h;exact⟨e,j,by unfold xl;rw[f];dsimp only;rw[i_ rfl]⟩
def rQ(K:KK ew er ta tb ka kb){rs:List PT}(hx:isT ta w x)(i:okT ew x)(fx:x.isAlts=false)(hy:isT tb r (.alts p rs))(o:okT er (.alts p rs)):∃e,jR tb e rs/\xl ka kb ta tb L F w r=match xk ew er x rs 0 none with|none=>L w|some k=>F w (e.getD k 0):=by
 obtain⟨e,m,f⟩:=ja hy;refine⟨e,f,?_⟩;have j:=o;unfold okT at j;unfold xl;rw[m];dsimp only;rw[(xX hx).1,n_ (fX i fx),i_ rfl,wi K.A K.B i fx rs e 0 none 0 f j.2 (K.d r _ hy p rs rfl) (λh=>absurd rfl h)];cases xk ew er x rs 0 none<;>rfl
def wN(K:KK ew er ta tb ka kb){y:PT}(hx:isT ta w x)(e:okT ew x)(fx:x.isAlts=false)(hy:isT tb r y)(f:okT er y)(fy:y.isAlts=false):xl ka kb ta tb L F w r =
 if yW ew er x y=false then L w
 else if x.kind=91\/x.kind=123 then yq 1 (F ((ta.getD w ⟨0,[]⟩).subs.getD 0 0) ((tb.getD r ⟨0,[]⟩).subs.getD 0 0))
 else if (zM ka x.kind).so=101/\(zM kb y.kind).o<0/\∃c∈(zM ka x.kind).sb,c∉(zM kb y.kind).sb then 1
 else if (zM ka x.kind).so=114 then ug L F w (zM ka x.kind).fs (zM kb y.kind).fs
 else 602:=by
 unfold xl;dsimp only;rw[(xX hx).1,(xX hy).1,n_ (fX e fx),n_ (fX f fy),aS K.A K.B e f fx fy]
def YQ(h:a<=b)(hb:b<=602):yq 1 a<=yq 1 b:=by
 unfold yq;split
 .split
  .omega
  .omega
 .split
  .split
   .omega
   .split<;>omega
  .split
   .omega
   .split<;>omega
def Fs{n:Nat}{g:Nat×Nat×Bool}:kV L F w d n g<=n/\(∀k,jT d g.1=some k->kV L F w d n g<=kT (yq 1 (F (d.getD k (0,0,false)).2.1 g.2.1)) (((d.map λx=>x.2.1).eraseIdx k).map L))/\(jT d g.1=none->g.2.2=false->kV L F w d n g<=L w):=by
 unfold kV;cases h:jT d g.1 with
 |none=>
  dsimp only;refine⟨?_,λk e=>(by cases e),λ_ e=>(by rw[n_ (by simp[e])];omega)⟩;split<;>omega
 |some k=>
  dsimp only;refine⟨M_,λf e=>?_,λe=>(by cases e)⟩;cases e;omega
def eO:∀(es:List (Nat×Nat×Bool)) (n:Nat),es.foldl (kV L F w d) n<=n/\∀g∈es,(∀k,jT d g.1=some k->es.foldl (kV L F w d) n<=kT (yq 1 (F (d.getD k (0,0,false)).2.1 g.2.1)) (((d.map λx=>x.2.1).eraseIdx k).map L))/\(jT d g.1=none->g.2.2=false->es.foldl (kV L F w d) n<=L w)
 | [],n=>⟨l_,λg hg=>by simp at hg⟩
 |e::es,n=>by
  obtain⟨h1,f⟩:=eO es (kV L F w d n e);obtain⟨h,i,j⟩:=Fs (L:=L) (F:=F) (w:=w) (d:=d) (n:=n) (g:=e);rw[b2_];refine⟨ak_ h1 h,λg hg=>?_⟩;rcases ao_.1 hg with rfl|hg
  .exact⟨λk e=>ak_ h1 (i k e),λe e'=>ak_ h1 (j e e')⟩
  .exact f g hg
def eI(K:KK ew er ta tb ka kb){l:List Nat}(hl:SnL ew ta l)(hS:StL ta (rcK ka) l)(Z:∀w r,SnP ew er ta tb w r (F w r))(d2:∀w r,w<ta.length->r<tb.length->F w r<=xl ka kb ta tb (lnK l) F w r):ClP ew er (λt k=>∀d,Dat ew d t->kn k (ndT d)) (KP ew er ta tb F):=by
 have C:=Ye K.E (WE K.A) (λc h=>je h) hl hS;have e1:enc 1=1:=rfl;have st:∀{w r x y},isT ta w x->isT tb r y->F w r<=xl ka kb ta tb (lnK l) F w r:=λhx hy=>d2 _ _ (qp hx) (qp hy);have b7:∀{w x},isT ta w x->okT ew x->∃m,m<=301/\lnK l w=enc m/\KL ew ta l x m/\∀d,Dat ew d x->kn m (ndT d):=λ{w x} hx s=>by
  obtain⟨m,D,G,_⟩:=hl.sn w;have hk:KL ew ta l x m:=⟨s,D,w,hx,G⟩;exact⟨m,D,G,hk,λd hd=>C.all hd m hk⟩
 have a5:∀{x y r n},KP ew er ta tb F x y n->x.isAlts=false->Via ew er x y r->∃m,KP ew er ta tb F x r m/\le0 n m:=λ{x y r n} hk fx hv=>by
  rcases hv with⟨_,rfl⟩|⟨p,rs,k,rfl,hp,hr⟩
  .exact⟨n,hk,.refl n⟩
  .obtain⟨s,z,n3,w,q,hw,N,e⟩:=hk;obtain⟨H,J,Q⟩:=rQ (L:=lnK l) (F:=F) K hw s fx N z;have hs:=st hw N;rw[Q,hp,e]at hs;dsimp only at hs;obtain⟨g3,g4⟩:=qg J;have e2:=(ae_.1 hr).1;have I:=af_ (show k<H.length by omega);have ek:H.getD k 0=H[k]:=by rw[ap_,I];rfl
   rw[ek]at hs;obtain⟨m,D,G,_⟩:=Z w H[k];rw[G]at hs;unfold okT at z;exact⟨m,⟨s,(vp z.2 r (aj_ hr)).2,D,w,H[k],hw,g4 k _ r I hr,G⟩,jo n3 D hs⟩
 have same:∀{x y r:PT},okT er y->Via ew er x y r->r.isAlts=false:=λ{x y r} z hv=>by
  rcases hv with⟨h,rfl⟩|⟨p,rs,k,rfl,hp,hr⟩
  .exact h
  .unfold okT at z;exact(vp z.2 r (aj_ hr)).1
 have recd:∀{c p p' n fw fr},KP ew er ta tb F (.leaf c p) (.leaf c p') n->zu c=false->ew c=some (.recd fw)->er c=some (.recd fr)->zp c=true/\n<=301/\∃w,isT ta w (.leaf c p)/\enc n<=ug (lnK l) F w (ka c).fs (kb c).fs:=λ{c p p' n fw fr} hk hb hw hr=>by
  obtain⟨s,z,n3,w,q,h1,h2,e⟩:=hk;have Y:=s;unfold okT at Y;have hn:zp c=true:=by
   rcases Y with h|⟨h,_⟩
   .rw[hb]at h;cases h
   .exact h
  refine⟨hn,n3,w,h1,?_⟩;have hs:=st h1 h2;rw[e,wN K h1 s rfl h2 z rfl]at hs;have hm:yW ew er (.leaf c p) (.leaf c p')=true:=by
   rw[wh,n_ (by simp[hb]:¬zu c=true),hw,hr];simp[yV]
  have hc:65<=c/\c<=70:=by simpa[zp] using hn
  have b6:(zM ka c).so=114:=by unfold zM;rw[i_ hn];exact(K.A.recd c fw hn hw).1
  have T:(PT.leaf c p).kind=c:=rfl;have X:(PT.leaf c p').kind=c:=rfl;rw[T,X,n_ (by simp[hm]),n_ M_,n_ (by rw[b6];exact λh=>absurd h.1 D_),i_ b6]at hs;unfold zM at hs;rw[i_ hn,i_ hn]at hs;exact hs
 refine⟨λp ws y n hk w1 O=>?_,λx y n hk fx hv=>?_,λc p p' u u' y n hk hv=>?_,λc p p' y n lw lr ow o q hk hv hb hw hr N hd=>?_,λc p p' y n fw fr g i h hk hv hb hw hr hg hi hf=>?_,λc p p' y n fw fr g hk hv hb hw hr hg hi hf=>?_⟩
 .obtain⟨s,z,n3,w,r,hw,hr,e⟩:=hk;obtain⟨H,J,Q⟩:=Qk (ka:=ka) (kb:=kb) (tb:=tb) (L:=lnK l) (F:=F) (r:=r) hw;have hs:=st hw hr;rw[Q,e]at hs;obtain⟨g3,g4⟩:=qg J;obtain⟨i,hi⟩:=a5_ O;have a6:=(ae_.1 hi).1;have I:=af_ (show i<H.length by omega);obtain⟨m,D,G,_⟩:=Z H[i] r;have hp:=jY (a:=1) (b:=m) M_ D;rw[jH,e1]at hp;unfold okT at s;refine⟨m,⟨(vp s.2 w1 O).2,z,D,H[i],r,g4 i _ w1 I hi,hr,G⟩,jo n3 hp.2 (ak_ hs ?_)⟩;rw[<- hp.1];refine YQ ?_ (Qb D).1;rw[<- G];exact(@tQ (H.map λi=>F i r) 602).2 _ (ay_.2 ⟨H[i],a0_ _,rfl⟩)
 .obtain⟨s,z,n3,w,r,hw,hr,e⟩:=hk;obtain⟨m,D,G,m3,m4⟩:=b7 hw s;have hs:=st hw hr;rw[e]at hs;refine⟨m,m4,jo n3 D (ak_ hs ?_)⟩;rcases hv with⟨fy,hm⟩|⟨p,rs,rfl,hp⟩
  .rw[wN K hw s fx hr z fy,i_ hm,G];exact l_
  .obtain⟨H,J,Q⟩:=rQ (L:=lnK l) (F:=F) K hw s fx hr z;rw[Q,hp];dsimp only;rw[G];exact l_
 .obtain⟨n',M,R⟩:=a5 hk rfl hv;obtain⟨s,z,n3,w,r,hw,hr,e⟩:=M;have hs:=st hw hr;have hm:yW ew er (.wrap c p u) (.wrap c p' u')=true:=by simp[yW]
  rw[e,wN K hw s rfl hr z rfl,n_ (by simp[hm])]at hs;unfold okT at s z;have T:(PT.wrap c p u).kind=c:=rfl;rw[T,i_ s.1]at hs;obtain⟨j,J,Q⟩:=ja hw;obtain⟨j',b8,b9⟩:=ja hr;rw[J,b8]at hs;have hs':enc n'<=yq 1 (F j j'):=hs;obtain⟨m,D,G,_⟩:=Z j j';have hp:=jY (a:=1) (b:=m) M_ D;rw[jH,e1]at hp;rw[G,hp.1]at hs';exact⟨m,⟨s.2,z.2,D,j,j',Q,b9,G⟩,R.trans (jo n3 hp.2 hs')⟩
 .obtain⟨n',M,R⟩:=a5 hk rfl hv;obtain⟨s,z,n3,w,r,O,b5,e⟩:=M;have Y:=s;unfold okT at Y;have hn:zp c=true:=by
   rcases Y with h|⟨h,_⟩
   .rw[hb]at h;cases h
   .exact h
  have hs:=st O b5;have hm:yW ew er (.leaf c p) (.leaf c p')=true:=by
   rw[wh,n_ (by simp[hb]:¬zu c=true),hw,hr];simp[yV]
  have hc:65<=c/\c<=70:=by simpa[zp] using hn
  have T:(PT.leaf c p).kind=c:=rfl;have X:(PT.leaf c p').kind=c:=rfl;obtain⟨a1,a2,a3,a4⟩:=K.A.enum c lw ow hn hw;obtain⟨b1,b2,b3,b4⟩:=K.B.enum c lr o hn hr;have ho:o=none:=by
   cases o with
   |none=>rfl
   |some v=>
    obtain⟨u,pu⟩:=v;have d9:=b4 u pu rfl;exfalso;unfold ql at hd;split at hd
    .cases hd
    .dsimp only at hd;rw[List.findIdx?_eq_none_iff]at hd;have:=hd u d9;simp at this
  subst ho;have d7:(zM ka c).so=101/\(zM kb c).o<0/\∃x∈(zM ka c).sb,x∉(zM kb c).sb:=by
   unfold zM;rw[i_ hn,i_ hn];refine⟨a1,b3.2 rfl,(lw.map Prod.fst).getD q 0,?_,?_⟩
   .rw[a2,ap_,af_ (by simpa using N)];exact a0_ _
   .rw[b2];intro hx;unfold ql at hd;split at hd
    .cases hd
    .rename_i a7;rw[List.findIdx?_eq_none_iff]at a7;have:=a7 _ hx;simp at this
  rw[e,wN K O s rfl b5 z rfl,T,X,n_ (by simp[hm]),n_ M_,i_ d7]at hs;exact R.trans (jo n3 M_ hs)
 .obtain⟨n',M,R⟩:=a5 hk rfl hv;obtain⟨hn,n3,w,O,hs⟩:=recd M hb hw hr;obtain⟨_,b2,b3⟩:=K.B.recd c fr hn hr;obtain⟨_,a2,a3⟩:=K.A.recd c fw hn hw;obtain⟨j,I⟩:=a5_ hg;have d8:=(ae_.1 I).1;have hx:=af_ (show j<(kb c).fs.length by omega);obtain⟨c4,c5,c6⟩:=b3 j g _ I hx;have a0:jT (ka c).fs ((kb c).fs[j]).1=some i:=by
   unfold jT;rw[tD K.A hn hw,c4];exact hi
  have a6:=ZT a0;have hy:=af_ a6;have e0:(ka c).fs.getD i (0,0,false)=(ka c).fs[i]:=by rw[ap_,hy];rfl
  have U:=((eO (L:=lnK l) (F:=F) (w:=w) (d:=(ka c).fs) (kb c).fs 602).2 _ (a0_ (show j<(kb c).fs.length by omega))).1 i a0;rw[e0]at U;obtain⟨d4,d5,d6⟩:=a3 i h _ hf hy;obtain⟨a,e3,e4,_⟩:=Z ((ka c).fs[i]).2.1 ((kb c).fs[j]).2.1;obtain⟨ms,f1,f2,f3,f4⟩:=ZE hl.sn a6 e3 e4;rw[f4]at U;have a8:∀(q:Nat) (f:PF),fw[q]?=some f->okT ew f.ty:=λq f e=>K.E c _ hw f (aj_ e);refine⟨ms.set i a,by simp[f1,a2],λq f k e e'=>?_,R.trans (jo n3 (Gv _) (ak_ hs U))⟩;rw[bg_]at e';by_cases N:i=q
  .subst N;rw[i_ rfl,i_ M_]at e';cases e';rw[i_ rfl];exact⟨a8 i h hf,K.E' c _ hr g hg,e3,_,_,d5,c5,e4⟩
  .rw[n_ N]at e';rw[n_ (Ne.symm N)];have e5:=(ae_.1 e).1;have a9:=af_ (show q<(ka c).fs.length by omega);obtain⟨J,_⟩:=f3 q k _ a9 e';have hT:=(a3 q f _ e a9).2.1;exact λd hd=>C.all hd k ⟨a8 q f e,f2 k (aj_ e'),_,hT,J⟩
 .obtain⟨n',M,R⟩:=a5 hk rfl hv;have s:=M.1;obtain⟨hn,n3,w,O,hs⟩:=recd M hb hw hr;obtain⟨_,b2,b3⟩:=K.B.recd c fr hn hr;obtain⟨j,I⟩:=a5_ hg;have d8:=(ae_.1 I).1;have hx:=af_ (show j<(kb c).fs.length by omega);obtain⟨c4,c5,c6⟩:=b3 j g _ I hx;have a0:jT (ka c).fs ((kb c).fs[j]).1=none:=by
   unfold jT;rw[tD K.A hn hw,c4];exact hi
  have U:=((eO (L:=lnK l) (F:=F) (w:=w) (d:=(ka c).fs) (kb c).fs 602).2 _ (a0_ (show j<(kb c).fs.length by omega))).2 a0 (by rw[c6,hf];rfl);obtain⟨m,D,G,m3,m4⟩:=b7 O s;rw[G]at U;obtain⟨ks,T,X,k3⟩:=C.recd c p m fw m3 hb hw;exact⟨ks,T,λq f k e e' d hd=>C.all hd k (X q f k e e'),R.trans ((jo n3 D (ak_ hs U)).trans k3)⟩
end
def qP(ha:a<=602)(hb:b<=602)(w:World):Calls prog 23 #[I_ a,I_ b] w λe w'=>e=.returned (z_ (yq a b:Int))/\w'=w:=by
 obtain⟨s,f⟩:=y_ (λ(e:Ending) (w':World)=>e=.returned (z_ (yq a b:Int))/\w'=w);rw[<- f.o];by_cases h1:a=602
 .have i:((a:Int)==602)=true:=by simp;omega
  have hv:yq a b=602:=by unfold yq;rw[i_ (.inl h1)]
  go_in;go_wp2;try go_ret
  rw[f.o,hv];exact⟨rfl,rfl⟩
 .have i:((a:Int)==602)=false:=by simp;omega
  by_cases q:b=602
  .have j:((b:Int)==602)=true:=by simp;omega
   have hv:yq a b=602:=by unfold yq;rw[i_ (.inr q)]
   go_in;go_wp2;try go_ret
   rw[f.o,hv];exact⟨rfl,rfl⟩
  .have j:((b:Int)==602)=false:=by simp;omega
   by_cases h:301<a+b
   .have m:(301:Int)<(a:Int)+(b:Int):=M_;have hv:yq a b=301:=by unfold yq;rw[n_ M_,i_ h]
    go_in;go_wp2;try go_ret
    rw[f.o,hv];exact⟨rfl,rfl⟩
   .have m:¬(301:Int)<(a:Int)+(b:Int):=M_;have hv:(yq a b:Int)=(a:Int)+(b:Int):=by unfold yq;rw[n_ M_,n_ h];omega
    go_in;go_wp2;try go_ret
    rw[f.o,hv];exact⟨rfl,rfl⟩
def KFs(W:World)(P:Nat->Prop)(fv:Value)(fs:List (Nat×Nat×Bool)):Prop:=
 ∃xs,W.ownsRow 0 113 10 fv fs.length xs/\(∀g,fv.ownBlock=some g->P g)/\∀q x,fs[q]?=some x->xs[10*q]?=some (U_ x.1)/\xs[10*q+1]?=some (I_ x.2.1)/\xs[10*q+2]?=some (.bool x.2.2)
def KDv(W:World)(P:Nat->Prop)(d:KD)(so fv sv ov nv:Value):Prop:=
 so=.int .u8 d.so/\KFs W P fv d.fs/\(∃sb:BA,sv=.string sb/\d.sb=sb.data.toList.map UInt8.toNat/\(d.so=101->sb.size<=300))/\ov=z_ d.o/\nv=z_ d.n
def KFs.fr{W:World}{fs:List (Nat×Nat×Bool)}(h:KFs W P fv fs)(hf:Fr W W' S)(j:∀g,P g->¬S g):KFs W' P fv fs:=by
 obtain⟨xs,h1,f,i⟩:=h;exact⟨xs,zj h1 hf (λg e=>j g (f g e)),f,i⟩
def KDv.fr{W:World}{d:KD}{so sv ov nv:Value}(h:KDv W P d so fv sv ov nv)(hf:Fr W W' S)(e:∀g,P g->¬S g):KDv W' P d so fv sv ov nv:=⟨h.1,h.2.1.fr hf e,h.2.2⟩
structure ZK(W:World)(P:Nat->Prop)(bz:Nat)(ts:List TR)(kd:Nat->KD):Prop where
 zP:P bz
 z:∃tv zs,Blk W bz (tv::zs) 47/\pq W P tv ts/\∀k,k<6->∃so fv sv ov nv,(∀p,p<5->zs[5*k+p]?=[so,fv,sv,ov,nv][p]?)/\KDv W P (kd (65+k)) so fv sv ov nv
structure ZB(ts:List TR)(kd:Nat->KD):Prop where
 len:ts.length<=300
 subs:∀(k:Nat) (t:TR),ts[k]?=some t->∀j∈t.subs,j<ts.length
 one:∀(k:Nat) (t:TR),ts[k]?=some t->t.kind=91\/t.kind=123->∃j,t.subs=[j]
 kind:∀(k:Nat) (t:TR),ts[k]?=some t->t.kind<256
 sfew:∀(k:Nat) (t:TR),ts[k]?=some t->t.subs.length<=300
 flds:∀c x,x∈(kd c).fs->x.2.1<ts.length/\x.1<256
 few:∀c,(kd c).fs.length<=300
def ZK.fr{W:World}(h:ZK W P bz ts kd)(hf:Fr W W' S)(e:∀g,P g->¬S g):ZK W' P bz ts kd:=by
 refine⟨h.zP,?_⟩;obtain⟨tv,zs,a,b,c⟩:=h.z;refine⟨tv,zs,hf.bl a (e _ h.zP),b.fr hf e,λk hk=>?_⟩;obtain⟨so,fv,sv,ov,nv,c1,c2⟩:=c k hk;exact⟨so,fv,sv,ov,nv,c1,c2.fr hf e⟩
def ZK.type{W:World}(h:ZK W P bz ts kd){t:TR}(i:ts[k]?=some t):∃g cap e f,W.cell? ⟨bz,0,none⟩=some (S_ g ts.length cap)/\W.cell? ⟨g,k*2,none⟩=some (U_ t.kind)/\W.cell? ⟨g,k*2+1,none⟩=some (.slice e t.subs.length f)/\W.ownsRow 0 3 1 (.slice e t.subs.length f) t.subs.length (t.subs.map λ(n:Nat)=>Value.int .i64 (n:Int))/\∀x,(Value.slice e t.subs.length f).ownBlock=some x->P x:=by
 obtain⟨tv,zs,a,⟨xs,b1,b2,b3⟩,c⟩:=h.z;obtain⟨sv,c1,c2,c3,c4⟩:=b3 k t i;have hk:k<ts.length:=(ae_.1 i).1;obtain⟨g,cap,hv⟩:=zm b1 M_;obtain⟨e,f,rfl⟩:=zl c3;refine⟨g,cap,e,f,?_,zr b1 hv (by rw[bc_];exact c1),zr b1 hv (by rw[bc_];exact c2),c3,c4⟩;rw[a.cell 0,hv];rfl
def ZK.named{W:World}(h:ZK W P bz ts kd){q:Nat}(e:q<6):∃so fv sv ov nv,KDv W P (kd (65+q)) so fv sv ov nv/\W.cell? ⟨bz,1+q*5,none⟩=some so/\W.cell? ⟨bz,1+q*5+1,none⟩=some fv/\W.cell? ⟨bz,1+q*5+2,none⟩=some sv/\W.cell? ⟨bz,1+q*5+3,none⟩=some ov/\W.cell? ⟨bz,1+q*5+4,none⟩=some nv:=by
 obtain⟨tv,zs,a,_,c⟩:=h.z;obtain⟨so,fv,sv,ov,nv,c1,c2⟩:=c q e;have key:∀p,p<5->W.cell? ⟨bz,1+q*5+p,none⟩=[so,fv,sv,ov,nv][p]?:=λp hp=>by
  rw[a.cell,show 1+q*5+p=(5*q+p)+1 by omega,ab_];exact c1 p hp
 exact⟨so,fv,sv,ov,nv,c2,key 0 M_,key 1 M_,key 2 M_,key 3 M_,key 4 M_⟩
def pf(W:World)(P:Nat->Prop)(d:KD)(e:Ending)(w':World):Prop:=
 ∃fa fn fc sb,e=.returned (.agg #[.int .u8 d.so,.slice fa fn fc,.string sb,z_ d.o,z_ d.n])/\Fr W w' N_/\KDv w' P d (.int .u8 d.so) (.slice fa fn fc) (.string sb) (z_ d.o) (z_ d.n)
def kR{W:World}{t:TR}(Z:ZK W P bz ts kd)(y:ts[k]?=some t)(hk:t.kind<256):Calls prog 26 #[P_ bz,I_ k] W (pf W P (zM kd t.kind)):=by
 obtain⟨T,m⟩:=y_ (pf W P (zM kd t.kind));rw[<- m.o];obtain⟨g,cap,I,J,c0,c1,c2,_,_⟩:=Z.type y;have l0:=zQ c0;have l1:=zQ c1;have a8:=(ae_.1 y).1;have a9:(k:Int)<(ts.length:Int):=M_;obtain⟨c,hc⟩:=x_ t.kind;rw[hc]at c1 hk m;replace hc:=zy hc;obtain⟨w1,h⟩:=e_ ((W.alloc (.cells #[.int .u8 0,L_,.string ⟨#[]⟩,O_,O_] 44)).alloc (.cells #[U_ c,.slice I t.subs.length J] 75));have f:Fr W w1 N_:=by rw[h];exact((A_ W _).alloc _).alloc _
 have i:Blk w1 W.heap.size [.int .u8 0,L_,.string ⟨#[]⟩,O_,O_] 44:=by rw[h];exact(B_ W _ _).alloc _
 have z:Blk w1 (W.heap.size+1) [U_ c,.slice I t.subs.length J] 75:=by
  rw[h];have:=B_ (W.alloc (.cells #[.int .u8 0,L_,.string ⟨#[]⟩,O_,O_] 44)) #[U_ c,.slice I t.subs.length J] 75;rw[show(W.alloc (.cells #[.int .u8 0,L_,.string ⟨#[]⟩,O_,O_] 44)).heap.size=W.heap.size+1 by show(W.heap.push _).size=_;simp]at this;exact this
 have U:=Z.fr f u_;have d0:=z.c0;obtain⟨q0,q1,q2,q3,q4⟩:=i.d5;obtain⟨t0,t1,t2,t3,t4⟩:=i.t5;have Y:H_ (∀a b c d e,Fr W (((((w1.setCell ⟨W.heap.size,0,none⟩ a).setCell ⟨W.heap.size,1,none⟩ b).setCell ⟨W.heap.size,2,none⟩ c).setCell ⟨W.heap.size,3,none⟩ d).setCell ⟨W.heap.size,4,none⟩ e) N_):=zy (λa b c d e=>f.trans (J_ w1 W.heap.size a b c d e) (λx hx e=>a3_ _ (e▸hx)));have A:H_ (∀a b c d e,Blk (((((w1.setCell ⟨W.heap.size,0,none⟩ a).setCell ⟨W.heap.size,1,none⟩ b).setCell ⟨W.heap.size,2,none⟩ c).setCell ⟨W.heap.size,3,none⟩ d).setCell ⟨W.heap.size,4,none⟩ e) W.heap.size [a,b,c,d,e] 44):=zy (λa b c d e=>i.fi a b c d e);replace h:=zy h;replace y:=zy y;cases hn:zp c with
 |false=>
  have H:(decide ((65:Int)<=(c:Int))&&decide ((c:Int)<=70))=false:=by
   have:¬(65<=c/\c<=70):=by simpa[zp] using hn
   simp only[Bool.and_eq_false_iff,decide_eq_false_iff_not];omega
  have fin:H_ (∀V,Fr W V N_->T (.returned (.agg #[.int .u8 0,L_,.string ⟨#[]⟩,O_,O_])) V):=zy (λV s=>by
   rw[m.o]
   have:zM kd c=KD0:=by unfold zM;rw[n_ (by simp[hn])]
   rw[this]
   exact⟨none,0,0,⟨#[]⟩,rfl,s,rfl,⟨[],World.ownsRow_nil _ _ _ _,λg e=>by simp[Value.ownBlock]at e,λq x e=>by simp[KD0]at e⟩,⟨⟨#[]⟩,rfl,rfl,λ_=>(by show(0:Nat)<=300;omega)⟩,rfl,rfl⟩)
  go_in;go_upto_region 2 with fail;rw[<- h.o];go_wp2_with (go_at_call 35;apply(ya _ _ _ _).mono;rintro e w2 ⟨rfl,j⟩;rw[j,H]);have b8:=A.o (.int .u8 0) (L_) (.string ⟨#[]⟩) (O_) (O_);obtain⟨K,M,N,O,Q⟩:=b8.d5;refine bodyPost_ret (v:=.agg #[.int .u8 0,L_,.string ⟨#[]⟩,O_,O_]) (by simp[results,results26,go_sem,K,M,N,O,Q]) rfl ?_;exact fin.o _ (Y.o _ _ _ _ _)
 |true=>
  have a7:65<=c/\c<=70:=by simpa[zp] using hn
  have H:(decide ((65:Int)<=(c:Int))&&decide ((c:Int)<=70))=true:=by
   simp only[ax_,decide_eq_true_eq];omega
  obtain⟨q,u⟩:∃q,c=65+q:=⟨c-65,M_⟩;have a2:q<6:=M_;have b5:=pi q c u a2;obtain⟨so,fv,sv,ov,nv,hd,B,C,D,E,G⟩:=Z.named a2;rw[<- u]at hd;have a0:=hd;obtain⟨rfl,a4,⟨sb,rfl,a6,a5⟩,rfl,rfl⟩:=hd;obtain⟨xs,X,f2,f3⟩:=a4;obtain⟨fa,fc,rfl⟩:=zl X;replace B:=f.ke B;replace C:=f.ke C;replace D:=f.ke D;replace E:=f.ke E;replace G:=f.ke G;have a1:zM kd c=kd c:=by unfold zM;rw[i_ hn]
  have fin:H_ (∀V,Fr W V N_->T (.returned (.agg #[.int .u8 (kd c).so,.slice fa (kd c).fs.length fc,.string sb,z_ (kd c).o,z_ (kd c).n])) V):=zy (λV s=>by
   rw[m.o,a1]
   exact⟨fa,_,fc,sb,rfl,s,a0.fr s u_⟩)
  have b4:(q:Int)<6:=M_;have a3:=zy (A.o (.int .u8 (kd c).so) (.slice fa (kd c).fs.length fc) (.string sb) (z_ (kd c).o) (z_ (kd c).n));generalize (kd c).so=so at *;generalize (kd c).o=ov at *;generalize (kd c).n=nv at *;generalize (kd c).fs.length=fl at *;replace u:=zy u;go_in;go_upto_region 2 with fail;rw[<- h.o];go_wp2_with (go_at_call 35;apply(ya _ _ _ _).mono;rintro e w2 ⟨rfl,j⟩;rw[j,H]);refine tr_ 9 (λV=>f_ V (W.heap.size+1) 0 (U_ c)/\f_ V bz (1+q*5) (.int .u8 so)/\f_ V bz (1+q*5+1) (.slice fa fl fc)/\f_ V bz (1+q*5+2) (.string sb)/\f_ V bz (1+q*5+3) (z_ ov)/\f_ V bz (1+q*5+4) (z_ nv)) ?_;refine tz_ 0 ?_;refine tz_ 1 ?_;refine tz_ 2 ?_;refine tz_ 3 ?_;refine tz_ 4 ?_;refine tz_ 5 ?_;refine tz_ 6 ?_;refine tz_ 7 ?_;refine tz_ 8 ?_;refine t1_ 9 ⟨d0,B,C,D,E,G⟩ ?_;refine td_ ?_ _;obtain⟨K,M,N,O,Q⟩:=a3.o.d5;go_wp2;refine bodyPost_ret (v:=.agg #[.int .u8 so,.slice fa fl fc,.string sb,z_ ov,z_ nv]) (by simp[results,results26,go_sem,K,M,N,O,Q]) rfl ?_;exact fin.o _ (Y.o _ _ _ _ _).drew
def jf(skip:Int):Nat->List Nat->List Nat
 | _,[]=>[]
 |i,x::r=>if (i:Int)=skip then jf skip (i+1) r else x::jf skip (i+1) r
def lU:∀(l:List Nat) (i:Nat),jf (-1) i l=l
 | [],i=>rfl
 |x::r,i=>by unfold jf;rw[n_ M_,lU r]
def lB:∀(l:List Nat) (i k:Nat),k<i->jf (k:Int) i l=l
 | [],i,k,h=>rfl
 |x::r,i,k,h=>by unfold jf;rw[n_ M_,lB r _ k M_]
def su:∀(l:List Nat) (i k:Nat),jf ((i+k:Nat):Int) i l=l.eraseIdx k
 | [],i,k=>by simp[jf]
 |x::r,i,0=>by
  unfold jf;rw[i_ M_,lB r _ _ M_];rfl
 |x::r,i,k+1=>by
  unfold jf;rw[n_ M_,show i+(k+1)=(i+1)+k by omega,su r (i+1) k];rfl
def bk(W:World)(lv:Value)(l:List Nat):Prop:=W.ownsRow 0 3 1 lv l.length (l.map λ(n:Nat)=>Value.int .i64 (n:Int))/\∀n∈l,n<=602
def bk.fr{W:World}{l:List Nat}(h:bk W lv l)(hf:Fr W W' S)(e:∀g,lv.ownBlock=some g->¬S g):bk W' lv l:=⟨zj h.1 hf e,h.2⟩
def bk.at{W:World}{l:List Nat}(h:bk W lv l)(hk:k<l.length):∃g cap,lv=S_ g l.length cap/\W.cell? ⟨g,k,none⟩=some (z_ (lnK l k:Int))/\lnK l k<=602:=by
 obtain⟨g,cap,rfl⟩:=zm h.1 M_;have e:l[k]?=some l[k]:=af_ hk;have f:lnK l k=l[k]:=by unfold lnK;rw[ap_,e];rfl
 refine⟨g,cap,rfl,?_,?_⟩
 .rw[f];exact zr h.1 rfl (by rw[aq_,e];rfl)
 .rw[f];exact h.2 _ (a0_ _)
def KFs.at{W:World}{fs:List (Nat×Nat×Bool)}(h:KFs W P fv fs){q:Nat}{x:Nat×Nat×Bool}(e:fs[q]?=some x):∃g cap,fv=S_ g fs.length cap/\W.cell? ⟨g,q*10,none⟩=some (U_ x.1)/\W.cell? ⟨g,q*10+1,none⟩=some (I_ x.2.1)/\W.cell? ⟨g,q*10+2,none⟩=some (.bool x.2.2):=by
 obtain⟨xs,h1,o,m⟩:=h;have hl:=(ae_.1 e).1;obtain⟨g,cap,rfl⟩:=zm h1 M_;obtain⟨f,i,j⟩:=m q x e;rw[bc_]at f i j;exact⟨g,cap,rfl,zr h1 rfl f,zr h1 rfl i,zr h1 rfl j⟩
def sG:yq a b<=602:=by
 unfold yq;by_cases h:a=602\/b=602
 .rw[i_ h];omega
 .rw[n_ h];by_cases e:301<a+b
  .rw[i_ e];omega
  .rw[n_ e];omega
def mE{W:World}{so sv ov nv:Value}{l:List Nat}{d:KD}{skip:Int}{n:Nat}(hl:bk W lv l)(hd:KDv W P d so fv sv ov nv)(hf:∀x∈d.fs,x.2.1<l.length)(hn:n<=602)(h3:d.fs.length<=300):Calls prog 41 #[lv,.agg #[so,fv,sv,ov,nv],z_ skip,I_ n] W λe w'=>e=.returned (z_ (kT n ((jf skip 0 (d.fs.map λx=>x.2.1)).map (lnK l)):Int))/\Fr W w' N_:=by
 obtain⟨h,A⟩:∃x,x=kT n ((jf skip 0 (d.fs.map λx=>x.2.1)).map (lnK l)):=⟨_,rfl⟩;rw[<- A];obtain⟨K,z⟩:=y_ (λ(e:Ending) (w':World)=>e=.returned (I_ h)/\Fr W w' N_);rw[<- z.o];have E:=hd;obtain⟨rfl,Q,⟨sb,rfl,X,U⟩,rfl,rfl⟩:=hd;obtain⟨xs,D,M,N⟩:=Q;obtain⟨fa,fc,rfl⟩:=zl D;obtain⟨la,lc,rfl⟩:=zl hl.1;obtain⟨w1,q⟩:=e_ (W.alloc (.cells #[.int .u8 d.so,.slice fa d.fs.length fc,.string sb,z_ d.o,z_ d.n] 44));have s:Fr W w1 N_:=by rw[q];exact(A_ W _).alloc _
 have C:Blk w1 W.heap.size [.int .u8 d.so,.slice fa d.fs.length fc,.string sb,z_ d.o,z_ d.n] 44:=by rw[q];exact B_ W _ _
 have c1:=C.c1;have item:H_ (∀(i:Nat) (x:Nat×Nat×Bool),d.fs[i]?=some x->∃g gl,fa=some ⟨g,0,none⟩/\la=some ⟨gl,0,none⟩/\w1.cell? ⟨g,i*10+1,none⟩=some (I_ x.2.1)/\w1.cell? ⟨gl,x.2.1,none⟩=some (z_ (lnK l x.2.1:Int))/\lnK l x.2.1<=602/\x.2.1<l.length):=zy (λi x hi=>by
  obtain⟨g,cap,e,_,I,_⟩:=(E.fr s u_).2.1.at hi
  have hx:=hf x (aj_ hi)
  obtain⟨gl,Z,e',J,B⟩:=(hl.fr s u_).at hx
  cases e
  cases e'
  exact⟨g,gl,rfl,rfl,I,J,B,hx⟩)
 have start:H_ (kT n ((jf skip 0 ((d.fs.map λx=>x.2.1).drop 0)).map (lnK l))=h):=zy A.symm;have fin:H_ (K (.returned (I_ h)) w1):=zy (by rw[z.o];exact⟨rfl,s⟩);replace q:=zy q;clear E hl D M N s C hf A X U z;generalize d.so=dso at *;generalize d.o=dov at *;generalize d.n=dnv at *;go_in;go_upto_region 1 with fail;rw[<- q.o];go_wp2;go_loopg [3,9] (d.fs.length+1) (λmm v u V=>∃(i m:Nat),v=I_ m/\u=I_ i/\V=w1/\i<=d.fs.length/\d.fs.length+1-i<=mm/\m<=602/\H_ (kT m ((jf skip i ((d.fs.map λx=>x.2.1).drop i)).map (lnK l))=h));case atStart=>exact⟨0,n,rfl,rfl,rfl,al_ _,M_,hn,start⟩
 case round=>
  clear start;obtain⟨i,m,rfl,rfl,rfl,hi,a0,G,hs⟩:=hrel;by_cases j:i<d.fs.length
  .have T:(i:Int)<(d.fs.length:Int):=M_;obtain⟨x,hx⟩:∃x,d.fs[i]?=some x:=⟨_,af_ j⟩;obtain⟨g,gl,rfl,rfl,I,J,B,k4⟩:=item.o i x hx;have a1:(x.2.1:Int)<(l.length:Int):=M_;have y:(d.fs.map λx=>x.2.1).drop i=x.2.1::(d.fs.map λx=>x.2.1).drop (i+1):=by
    rw[ba_ (by simpa using j)]
    congr 1
    rw[List.getElem_map];have:=af_ j;rw[hx]at this;cases this;rfl
   by_cases f:(i:Int)=skip
   .have Y:((i:Int)==skip)=true:=by simp[f]
    have nx:H_ (kT m ((jf skip (i+1) ((d.fs.map λx=>x.2.1).drop (i+1))).map (lnK l))=h):=zy (by
     rw[<- hs.o,y]
     unfold jf
     rw[i_ f]
     cases (d.fs.map λx=>x.2.1).drop (i+1)<;>rfl)
    clear y hx hs;replace f:=zy f;go_wp2;go_roundg (d.fs.length+1-(i+1));case measure=>omega
    case rel=>exact⟨i+1,m,rfl,by simp,rfl,j,l_,G,nx⟩
   .have Y:((i:Int)==skip)=false:=by simp[f]
    have nx:H_ (kT (yq m (lnK l x.2.1)) ((jf skip (i+1) ((d.fs.map λx=>x.2.1).drop (i+1))).map (lnK l))=h):=zy (by
     rw[<- hs.o,y]
     conv=>rhs;unfold jf
     rw[n_ f]
     rfl)
    have O:=zy (qP G B wr);have hp:=@sG m (lnK l x.2.1);clear y hs;generalize lnK l x.2.1=lx at *;generalize yq m lx=px at *;generalize x.2.1=xn at *;clear hx;replace f:=zy f;go_wp2_with (go_at_call 23;apply O.o.mono;rintro e w2 ⟨rfl,H⟩;rw[H];clear H);go_roundg (d.fs.length+1-(i+1));case measure=>omega
    case rel=>exact⟨i+1,px,rfl,by simp,rfl,j,l_,hp,nx⟩
  .have T:¬((i:Int)<(d.fs.length:Int)):=M_;obtain rfl:i=d.fs.length:=M_;have hm:m=h:=by
    rw[<- hs.o,ca_ (by simp)];rfl
   subst hm;clear hs;go_wp2;try go_ret
   exact fin
def oa{W:World}{P:Nat->Prop}{bz k:Nat}{ts:List TR}{kd:Nat->KD}{lv:Value}{l:List Nat}(Z:ZK W P bz ts kd)(C:ZB ts kd)(hl:bk W lv l)(I:l.length=ts.length)(hk:k<ts.length):Calls prog 22 #[P_ bz,lv,I_ k] W λe w'=>e=.returned (z_ (xp ts (rcK kd) l k:Int))/\Fr W w' N_:=by
 obtain⟨t,f⟩:∃t,ts[k]?=some t:=⟨_,af_ hk⟩;obtain⟨K,G⟩:=y_ (λ(e:Ending) (w':World)=>e=.returned (z_ (xp ts (rcK kd) l k:Int))/\Fr W w' N_);rw[<- G.o];obtain⟨g,cap,T,sc,c0,c1,c2,O,_⟩:=Z.type f;have l0:=zQ c0;have l1:=zQ c1;have b4:(k:Int)<(ts.length:Int):=M_;have a5:=C.kind k t f;have b6:=C.sfew k t f;obtain⟨la,lc,rfl⟩:=zl hl.1;obtain⟨w1,s⟩:=e_ (W.alloc (.cells #[U_ t.kind,.slice T t.subs.length sc] 75));have q:Fr W w1 N_:=by rw[s];exact(A_ W _).alloc _
 have E:Blk w1 W.heap.size [U_ t.kind,.slice T t.subs.length sc] 75:=by rw[s];exact B_ W _ _
 have d0:=E.c0;have d1:=E.c1;have h:xp ts (rcK kd) l k=if t.kind=40 then yq 1 (ke (t.subs.map (lnK l))) else match rcK kd t.kind with|none=>1|some ns=>kT 1 (ns.map (lnK l)):=by
  unfold xp;rw[f];rfl
 replace s:=zy s;by_cases z:t.kind=40
 .have e4:((t.kind:Int)==40)=true:=by simp;omega
  rw[i_ z]at h;have item:H_ (∀(i j:Nat),t.subs[i]?=some j->∃g gl,T=some ⟨g,0,none⟩/\la=some ⟨gl,0,none⟩/\w1.cell? ⟨g,i,none⟩=some (I_ j)/\w1.cell? ⟨gl,j,none⟩=some (z_ (lnK l j:Int))/\lnK l j<=602/\j<l.length):=zy (λi j hi=>by
   have a9:=(ae_.1 hi).1
   have hj:=C.subs k t f j (aj_ hi)
   have o1:=zj O q u_
   obtain⟨g,cap,e⟩:=zm o1 M_
   obtain⟨gl,a8,e',k2,Q⟩:=(hl.fr q u_).at (k:=j) M_
   cases e
   cases e'
   exact⟨g,gl,rfl,rfl,zr o1 rfl (by rw[aq_,hi];rfl),k2,Q,M_⟩)
  have Y:H_ (∀m:Nat,m<=602->m=ke (t.subs.map (lnK l))->Calls prog 23 #[z_ 1,I_ m] w1 λe w'=>∃r:Nat,e=.returned (I_ r)/\w'=w1/\K (.returned (I_ r)) w1):=zy (λm hm e=>by
   apply(qP (a:=1) M_ hm w1).mono
   rintro e' B ⟨rfl,J⟩
   refine⟨_,rfl,J,?_⟩
   rw[G.o,h,<- e]
   exact⟨rfl,q⟩)
  have start:H_ (ke (t.subs.map (lnK l))=((t.subs.drop 0).map (lnK l)).foldl min 602):=zy rfl;replace f:=zy f;replace z:=zy z;replace I:=zy I;generalize t.kind=c at *;go_in;go_upto_region 2 with fail;rw[<- s.o];go_wp2;go_loopg [8,9] (t.subs.length+1) (λmm v u V=>∃(i m:Nat),v=I_ m/\u=I_ i/\V=w1/\i<=t.subs.length/\t.subs.length+1-i<=mm/\m<=602/\H_ (ke (t.subs.map (lnK l))=((t.subs.drop i).map (lnK l)).foldl min m));case atStart=>exact⟨0,602,rfl,rfl,rfl,al_ _,M_,M_,start⟩
  case round=>
   obtain⟨i,m,rfl,rfl,rfl,hi,b5,a1,hs⟩:=hrel;by_cases D:i<t.subs.length
   .have a7:(i:Int)<(t.subs.length:Int):=M_;obtain⟨x,hx⟩:∃x,t.subs[i]?=some x:=⟨_,af_ D⟩;obtain⟨g',gl,rfl,rfl,H,k2,Q,M⟩:=item.o i x hx;have N:(x:Int)<(l.length:Int):=M_;have nx:H_ (ke (t.subs.map (lnK l))=((t.subs.drop (i+1)).map (lnK l)).foldl min (min m (lnK l x))):=zy (by
     have:=af_ D
     rw[hx]at this
     cases this
     rw[hs.o,ba_ D]
     rfl)
    by_cases A:lnK l x<m
    .rw[Nat.min_eq_right M_]at nx;have y:(lnK l x:Int)<(m:Int):=M_;generalize lnK l x=lx at *;have y0:min (m:Int) (lx:Int)=lx:=Int.min_eq_right M_;go_wp2;go_roundg (t.subs.length+1-(i+1));case measure=>omega
     case rel=>exact⟨i+1,lx,rfl,by simp,rfl,D,l_,Q,nx⟩
    .rw[Nat.min_eq_left M_]at nx;have y:¬((lnK l x:Int)<(m:Int)):=M_;generalize lnK l x=lx at *;have y0:min (m:Int) (lx:Int)=m:=Int.min_eq_left M_;go_wp2;go_roundg (t.subs.length+1-(i+1));case measure=>omega
     case rel=>exact⟨i+1,m,rfl,by simp,rfl,D,l_,a1,nx⟩
   .have a7:¬((i:Int)<(t.subs.length:Int)):=M_;obtain rfl:i=t.subs.length:=M_;have hm:m=ke (t.subs.map (lnK l)):=by
     rw[hs.o,ca_ M_];rfl
    have a2:=zy (Y.o m a1 hm);replace hm:=zy hm;go_wp2_with (go_at_call 23;apply a2.o.mono;rintro e B ⟨rr,rfl,J,hP⟩;rw[J];replace hP:=zy hP);try go_ret
    exact hP
 .have e4:((t.kind:Int)==40)=false:=by simp;omega
  rw[n_ z]at h;have hD:=zy (kR (Z.fr q u_) f a5);have a0:rcK kd t.kind=if (zM kd t.kind).so=114 then some ((zM kd t.kind).fs.map λx=>x.2.1) else none:=rfl;rw[a0]at h;have a3:∀x∈(zM kd t.kind).fs,x.2.1<l.length:=λx hx=>by
   unfold zM at hx;split at hx
   .have:=(C.flds t.kind x hx).1;omega
   .simp[KD0]at hx
  have a4:(zM kd t.kind).fs.length<=300:=by
   unfold zM;split
   .exact C.few t.kind
   .simp[KD0]
  have a6:=zy (λV (A:Fr w1 V N_)=>hl.fr (q.trans A u_) u_);have U:=zy q;replace f:=zy f;replace z:=zy z;replace I:=zy I;replace h:=zy h;generalize t.kind=c at *;generalize zM kd c=d at *;by_cases h1:d.so=114
  .have e1:(d.so==114)=true:=by simp[h1]
   have M:H_ (∀V fv sv ov nv so,Fr w1 V N_->KDv V P d so fv sv ov nv->Calls prog 41 #[.slice la l.length lc,.agg #[so,fv,sv,ov,nv],z_ (-1),z_ 1] V λe w'=>∃r:Nat,e=.returned (I_ r)/\K (.returned (I_ r)) w'):=zy (λV fv sv ov nv so A hd=>by
    apply(mE (skip:=-1) (n:=1) (a6.o V A) hd a3 M_ a4).mono
    rintro e w' ⟨rfl,hf⟩
    refine⟨_,rfl,?_⟩
    rw[G.o,h.o,i_ h1,lU]
    exact⟨rfl,(U.o.trans A u_).trans hf u_⟩)
   replace h1:=zy h1;go_in;go_upto_region 2 with fail;rw[<- s.o];go_wp2_with (first
    |(go_at_call 26;apply hD.o.mono;rintro e B ⟨fa,X,fc,sb,rfl,y,H⟩;have Y:=(y.ke d0);obtain⟨Q,D⟩:=e_ (B.alloc (.cells #[.int .u8 d.so,.slice fa X fc,.string sb,z_ d.o,z_ d.n] 44));have J:Fr w1 Q N_:=(by rw[D];exact y.alloc _);have N:=zy (M.o Q _ _ _ _ _ J (by rw[D];exact H.fr ((A_ B N_).alloc _) u_));replace D:=zy D;generalize d.so=dso at *;generalize d.o=dov at *;generalize d.n=dnv at *)
    |(go_at_call 41;rw[<- D.o];apply N.o.mono;rintro e w4 ⟨rr,rfl,hP⟩;replace hP:=zy hP))
   try go_ret
   exact hP
  .have e1:(d.so==114)=false:=by simp[h1]
   have M:H_ (∀V,Fr w1 V N_->K (.returned (z_ 1)) V):=zy (λV A=>by
    rw[G.o,h.o,n_ h1]
    exact⟨rfl,U.o.trans A u_⟩)
   replace h1:=zy h1;go_in;go_upto_region 2 with fail;rw[<- s.o];go_wp2_with (go_at_call 26;apply hD.o.mono;rintro e B ⟨fa,X,fc,sb,rfl,y,H⟩;have N:=zy (λo=>M.o (B.alloc o) (y.alloc o));generalize d.so=dso at *;generalize d.o=dov at *;generalize d.n=dnv at *);try go_ret
   exact N.o _
structure LSt(W:World)(n g cap:Nat)(l:List Nat)(V:World):Prop where
 fr:Fr W V N_
 row:V.ownsRow W.heap.size 3 1 (S_ g n cap) n (l.map λ(x:Nat)=>Value.int .i64 (x:Int))
 len:l.length=n
 le:∀x∈l,x<=602
section
variable {W V V':World} {n g cap:Nat} {l:List Nat}
def LSt.ge(h:LSt W n g cap l V):W.heap.size<=g:=(h.row.lt g rfl).1
def LSt.lrow(h:LSt W n g cap l V):bk V (S_ g n cap) l:=⟨by rw[h.len];exact zS h.row,h.le⟩
def LSt.call(h:LSt W n g cap l V)(hf:Fr V V' N_):LSt W n g cap l V':=⟨h.fr.trans hf u_,zj h.row hf u_,h.len,h.le⟩
def LSt.cell(h:LSt W n g cap l V)(hk:k<n):V.cell? ⟨g,k,none⟩=some (z_ (lnK l k:Int))/\V.frozen? ⟨g,k,none⟩=false/\lnK l k<=602:=by
 obtain⟨g',i,e,h1,f⟩:=h.lrow.at (k:=k) (by rw[h.len];exact hk);cases e;exact⟨h1,h.row.frozenAt _,f⟩
def LSt.set(h:LSt W n g cap l V){x:Nat}(hx:x<=602):LSt W n g cap (l.set k x) (V.setCell ⟨g,k,none⟩ (I_ x)):=by
 have hg:=h.ge;refine⟨h.fr.trans (Y_ V ⟨g,k,none⟩ (I_ x)) (λy hy e=>?_),?_,by simp[h.len],λy hy=>?_⟩
 .have:y=g:=e;omega
 .have:=(h.row.stored k (I_ x)).1;rw[List.map_set];exact this
 .rcases cb_ hy with hy|rfl
  .exact h.le y hy
  .exact hx
end
def ZP{l:List Nat}{x j:Nat}(hk:k<l.length):lnK (l.set k x) j=if j=k then x else lnK l j:=by
 unfold lnK;rw[ap_,ap_,bg_];by_cases h:k=j
 .subst h;rw[i_ rfl,i_ hk,i_ rfl];rfl
 .rw[n_ h,n_ (Ne.symm h)]
def dJ:∀{l:List Nat}{k x:Nat},k<l.length->x<lnK l k->(l.set k x).sum<l.sum
 | [],k,x,h,_=>by simp at h
 |y::r,0,x,_,h=>by
  have:x<y:=h;simp only[am_,List.sum_cons];omega
 |y::r,k+1,x,hk,h=>by
  have:=dJ (l:=r) (k:=k) (x:=x) (by simpa using hk) h;simp only[an_,List.sum_cons];omega
def Bg(W:World)(ts:List TR)(kd:Nat->KD)(Inv:List Nat->Prop)(e:Ending)(w':World):Prop:=
 ∃g cap l,e=.returned (S_ g ts.length cap)/\LSt W ts.length g cap l w'/\Inv l/\∀k,k<ts.length->lnK l k<=xp ts (rcK kd) l k
def oo{W:World}{Inv:List Nat->Prop}(Z:ZK W P bz ts kd)(Q:ZB ts kd)(h0:Inv (List.replicate ts.length 602))(hs:∀l k,Inv l->l.length=ts.length->k<ts.length->xp ts (rcK kd) l k<lnK l k->Inv (l.set k (xp ts (rcK kd) l k)))(b6:0<ts.length):Calls prog 11 #[P_ bz] W (Bg W ts kd Inv):=by
 obtain⟨a4,N⟩:=y_ (Bg W ts kd Inv);rw[<- N.o];obtain⟨tv0,a0⟩:∃t,ts[0]?=some t:=⟨_,af_ b6⟩;obtain⟨gt,ct,sa,sc,c0,_,_,_,_⟩:=Z.type a0;have b8:=Q.len;obtain⟨ti,a5,a6,a7,a8⟩:=info_parts Qz;have call:H_ (∀V g cap l k,LSt W ts.length g cap l V->k<ts.length->Calls prog 22 #[P_ bz,S_ g ts.length cap,z_ ((k:Nat):Int)] V λe w'=>e=.returned (z_ (xp ts (rcK kd) l k:Int))/\LSt W ts.length g cap l w'):=zy (λV g cap l k z hk=>by
  apply(oa (Z.fr z.fr u_) Q z.lrow z.len hk).mono
  rintro e w' ⟨h1,h2⟩
  exact⟨h1,z.call h2⟩)
 replace hs:=zy hs;replace h0:=zy h0;go_in;go_wp2_with (at_make;refine wpList_make_full _ rfl _ _ 38 rfl W.heap.size 3 ti _ 1 dX a5 a6 a7 _ _ _ _ ts.length rfl rfl rfl rfl (by rw[a8];omega) (by unfold maxLen;omega) l_ ?_;intro w1 o1 T;obtain⟨a3,a2⟩:=e_ ((madeCells (Value.int IntKind.i64 0).cells (ts.length*1)).toList);rw[<- a2]at o1;have G:Fr W w1 N_:=(A_ W _).gw T (λk e _=>(by cases e));replace o1:=zy o1;replace G:=zy G);have start:H_ (∀j,j<0->a3[j]?=some (Value.int .i64 602)):=zy (λj q=>absurd q (bt_ j));go_loopg [4] (ts.length+1) (λmm v V=>∃(i:Nat) (xs:List Value),v=I_ i/\i<=ts.length/\ts.length+1-i<=mm/\H_ (Fr W V N_)/\H_ (V.ownsRow W.heap.size 3 1 (S_ W.heap.size ts.length ts.length) ts.length xs)/\H_ (∀j,j<i->xs[j]?=some (Value.int .i64 602)));case atStart=>exact⟨0,a3,rfl,al_ _,M_,G,o1,start⟩
 case round=>
  obtain⟨i,xs,rfl,hi,X,hf,ho,hx⟩:=hrel;have b7:xs.length=ts.length:=by have:=ho.o.1;omega
  by_cases h:i<ts.length
  .have J:(i:Int)<(ts.length:Int):=M_;have m:wr.cell? ⟨W.heap.size,i,none⟩=some xs[i]:=zr ho rfl (af_ M_);have fc:=ho.o.frozenAt i;have f:=zy (hf.o.trans (Y_ wr ⟨W.heap.size,i,none⟩ (z_ 602)) (λy hy e=>by
    have:y=W.heap.size:=e
    omega))
   have no:=zy (ho.o.stored i (z_ 602)).1;have nx:H_ (∀j,j<i+1->(xs.set i (Value.int .i64 602))[j]?=some (Value.int .i64 602)):=zy (λj q=>by
    rw[bg_]
    by_cases e:i=j
    .rw[i_ e,i_ M_]
    .rw[n_ e]
     exact hx.o j M_)
   generalize xs[i]=xi at *;go_wp2;go_roundg (ts.length+1-(i+1));case measure=>omega
   case rel=>exact⟨i+1,_,by simp,h,l_,f,no,nx⟩
  .have J:¬((i:Int)<(ts.length:Int)):=M_;obtain rfl:i=ts.length:=M_;have a1:xs=(List.replicate ts.length 602).map λ(x:Nat)=>Value.int .i64 (x:Int):=by
    apply List.ext_getElem?;intro j;by_cases q:j<ts.length
    .rw[hx.o j q,aq_,List.getElem?_replicate,i_ q];rfl
    .rw[a4_ M_,a4_ (by simp;omega)]
   have O:H_ (LSt W ts.length W.heap.size ts.length (List.replicate ts.length 602) wr):=zy ⟨hf,by rw[<- a1];exact ho,by simp,λx hx=>by rw[List.eq_of_mem_replicate hx];omega⟩;have Y:(List.replicate ts.length 602).sum<602*ts.length+1:=by simp;omega
   generalize List.replicate ts.length 602=l0 at *;go_wp2;go_loopg [5] (602*ts.length+1) (λmm v V=>∃(more:Bool) (l:List Nat),v=.bool more/\H_ (LSt W ts.length W.heap.size ts.length l V)/\H_ (Inv l)/\H_ (more=false->∀k,k<ts.length->lnK l k<=xp ts (rcK kd) l k)/\(more=true->l.sum<mm));case atStart=>exact⟨true,l0,rfl,O,h0,zy (λe=>by cases e),λ_=>Y⟩
   case round=>
    obtain⟨more,l,rfl,E,C,H,K⟩:=hrel;cases more
    .have fin:H_ (a4 (.returned (S_ W.heap.size ts.length ts.length)) wr):=zy (by
      rw[N.o]
      exact⟨_,_,l,rfl,E,C,H.o rfl⟩)
     go_wp2;try go_ret
     exact fin
    .have hm:=K rfl;go_wp2;go_loopg [5,6] (ts.length+1) (λmm v u V=>∃(i:Nat) (more:Bool) (f:List Nat),v=.bool more/\u=I_ i/\i<=ts.length/\ts.length+1-i<=mm/\H_ (LSt W ts.length W.heap.size ts.length f V)/\H_ (Inv f)/\H_ (more=false->∀j,j<i->lnK f j<=xp ts (rcK kd) f j)/\f.sum<=l.sum/\(more=true->f.sum<l.sum));case atStart=>exact⟨0,false,l,rfl,rfl,al_ _,M_,E,C,zy (λ_ j q=>absurd q (bt_ j)),l_,λe=>by cases e⟩
     case round=>
      obtain⟨i,more,f,rfl,rfl,hi,X,s,D,B,s2,M⟩:=hrel;by_cases h:i<ts.length
      .have J:(i:Int)<(ts.length:Int):=M_;have I:=zy (call.o _ _ _ _ i s h);obtain⟨x,A⟩:=e_ (xp ts (rcK kd) f i);rw[<- A]at I;replace A:=zy A;by_cases U:x<lnK f i
       .have b5:(x:Int)<(lnK f i:Int):=M_;have b4:i<f.length:=by have:=s.o.len;omega
        have nx:H_ (∀V,LSt W ts.length W.heap.size ts.length f V->LSt W ts.length W.heap.size ts.length (f.set i x) (V.setCell ⟨W.heap.size,i,none⟩ (I_ x))):=zy (λV z=>z.set (by have:=(s.o.cell h).2.2;omega));have nI:H_ (Inv (f.set i x)):=zy (by rw[A.o];exact hs.o f i D s.o.len h (by rw[<- A.o];exact U));have nS:=dJ b4 U;go_wp2_with (go_at_call 22;apply I.o.mono;rintro e w2 ⟨rfl,m⟩;obtain⟨q3,z3,-⟩:=m.cell h;have S4:=zy (nx.o _ m));go_roundg (ts.length+1-(i+1));case measure=>omega
        case rel=>exact⟨i+1,true,_,rfl,by simp,h,l_,S4,nI,zy (λe=>by cases e),M_,λ_=>M_⟩
       .have b5:¬((x:Int)<(lnK f i:Int)):=M_;have nE:H_ (more=false->∀j,j<i+1->lnK f j<=xp ts (rcK kd) f j):=zy (λe j q=>by
         by_cases a9:j=i
         .subst a9
          rw[<- A.o]
          omega
         .exact B.o e j M_)
        go_wp2_with (go_at_call 22;apply I.o.mono;rintro e w2 ⟨rfl,m⟩;obtain⟨q3,z3,-⟩:=m.cell h;replace m:=zy m);go_roundg (ts.length+1-(i+1));case measure=>omega
        case rel=>exact⟨i+1,more,_,rfl,by simp,h,l_,m,D,nE,s2,M⟩
      .have J:¬((i:Int)<(ts.length:Int)):=M_;obtain rfl:i=ts.length:=M_;go_wp2;go_roundg l.sum;case measure=>exact hm
       case rel=>exact⟨more,f,rfl,s,D,B,M⟩
end Go.Proofs.YtjkiencmjggakaaGreatDoor
