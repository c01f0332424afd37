import Derived.Test.YtjkiencmjggakaaGreatDoorW19
set_option maxHeartbeats 16000000
set_option maxRecDepth 100000
set_option linter.unusedVariables false
set_option linter.defProp false
set_option linter.unusedSimpArgs false
open Go.Proofs.Tryz
namespace Go.Proofs.YtjkiencmjggakaaGreatDoor
open Go.RowKit
variable {g g':Bool}{W W':World}{rv rv' d ux:Value}{n i m k p j q:Nat}{s:BA}{ew:Nat->Option PB}{t:PT}{uT:TypeId}
def kn(n m:Nat):Prop:=n≠0/\n<=m/\n<=301
def le0.to{v:Nat}(h:le0 n v)(k:kn v m):kn n m:=by unfold le0 at h;unfold kn at *;omega
def le0.one(h:le0 n 1)(k:0<m):kn n m:=by unfold le0 at h;unfold kn;omega
def JN:∀{ks:List Nat}{ds:List DT},ks.length=ds.length->(∀(i k:Nat) (d:DT),ks[i]?=some k->ds[i]?=some d->kn k (ndT d))->0∉ks/\ks.sum<=yc ds
 | [],[],_,_=>⟨by simp,by simp⟩
 | [],_::_,h,_=>by simp at h
 | _::_,[],h,_=>by simp at h
 |k::ks,d::ds,hl,h=>by
  obtain⟨h1,a⟩:=JN (ks:=ks) (ds:=ds) (by simpa using hl) (λi k d e e'=>h (i+1) k d (by simpa using e) (by simpa using e'));have h0:=h 0 k d rfl rfl;unfold kn at h0;simp only[ao_,not_or,List.sum_cons,yc];exact⟨⟨λe=>h0.1 e.symm,h1⟩,M_⟩
def uV{ks:List Nat}{ds:List DT}(hl:ks.length=ds.length)(h:∀(i k:Nat) (d:DT),ks[i]?=some k->ds[i]?=some d->kn k (ndT d)):kn (jnN ks) (1+yc ds):=by
 obtain⟨h1,a⟩:=JN hl h;unfold jnN kn;rw[n_ h1];split<;>omega
def ZW{d:DT}:∀{ds:List DT},d∈ds->ndT d<=yc ds
 |e::r,h=>by
  simp only[yc];rcases ao_.1 h with rfl|h
  .omega
  .have:=ZW h;omega
def DT.subs:DT->List DT | .mk _ _ _ _ ds=>ds
def jX(d:DT):ndT d=1+yc d.subs:=by obtain⟨k,n,tx,ks,ds⟩:=d;unfold ndT;rfl
def tB{d d1:DT}(h:kn k (ndT d1))(hd:d1∈d.subs):kn (jnN [k]) (ndT d):=by
 have:=uV (ks:=[k]) (ds:=[d1]) rfl (λi f a e e'=>by
  cases i with
  |zero=>simp at e e';subst e e';exact h
  |succ i=>simp at e)
 have b:=ZW hd;have c:=jX d;unfold kn at *;simp only[yc]at this;omega
structure ClT(ew:Nat->Option PB)(K:PT->Nat->Prop):Prop where
 one:∀t n,K t n->t.isAlts=false->(∀c p fs,t=.leaf c p->zu c=false->ew c≠some (.recd fs))->le0 n 1
 recd:∀c p n fs,K (.leaf c p) n->zu c=false->ew c=some (.recd fs)->∃ks:List Nat,ks.length=fs.length/\(∀(q:Nat) (f:PF) (k:Nat),fs[q]?=some f->ks[q]?=some k->K f.ty k)/\le0 n (jnN ks)
 alts:∀p l n,K (.alts p l) n->∀t∈l,∃k,K t k/\le0 n (jnN [k])
def ClT.all{K:PT->Nat->Prop}(C:ClT ew K){d:DT}(h:Dat ew d t):∀n,K t n->kn n (ndT d):=by
 have f:∀d:DT,0<ndT d:=λd=>by rw[jX];omega
 have a:∀{c p:Nat},zu c=true->∀n,K (.leaf c p) n->∀d,kn n (ndT d):=λ{c p} hb n hk d=>(C.one _ n hk rfl (λl p' fs e o=>by cases e;rw[hb]at o;cases o)).one (f d);have r:∀{c p:Nat} {X:PB},ew c=some X->(∀fs,X≠.recd fs)->∀n,K (.leaf c p) n->∀d,kn n (ndT d):=λ{c p X} hx hX n hk d=>(C.one _ n hk rfl (λl p' fs e _ he=>by cases e;rw[hx]at he;cases he;exact hX _ rfl)).one (f d);have wr:∀{c p:Nat} {u:PT},∀n,K (.wrap c p u) n->∀d,kn n (ndT d):=λ{c p u} n hk d=>(C.one _ n hk rfl (λl p' fs e=>by cases e)).one (f d);induction h with
 |null=>exact λn hk=>a rfl n hk _
 |bool=>exact λn hk=>a rfl n hk _
 |num=>exact λn hk=>a rfl n hk _
 |long=>exact λn hk=>a rfl n hk _
 |text=>exact λn hk=>a rfl n hk _
 |bytes he hb=>exact λn hk=>r he (λ_ e=>by cases e) n hk _
 |sym he hb=>exact λn hk=>r he (λ_ e=>by cases e) n hk _
 |list=>exact λn hk=>wr n hk _
 |map=>exact λn hk=>wr n hk _
 |recd he hb hl h ih=>
  rename_i c p fs ds;intro n hk;obtain⟨ks,h1,b,v⟩:=C.recd c p n fs hk hb he;refine v.to ?_;rw[jX];exact uV (ds:=ds) M_ (λi k d e e'=>by
   have hi:i<fs.length:=by have:=(ae_.1 e).1;omega
   have hf:=af_ hi
   exact ih i d fs[i].ty e' (by rw[aq_,hf];rfl) k (b i _ k hf e))
 |alts hn hl h ih=>
  intro n hk;obtain⟨k,h1,b⟩:=C.alts _ _ n hk _ (aj_ hl);exact b.to (tB (ih k h1) (by simp[DT.subs]))
def Via(ew er:Nat->Option PB)(x y r:PT):Prop:=(y.isAlts=false/\r=y)\/∃p rs k,y=.alts p rs/\xk ew er x rs 0 none=some k/\rs[k]?=some r
def Nev(ew er:Nat->Option PB)(x y:PT):Prop:=(y.isAlts=false/\yW ew er x y=false)\/∃p rs,y=.alts p rs/\xk ew er x rs 0 none=none
inductive Un (ew er:Nat->Option PB):PT->PT->DT->Prop
 |alts0 {p n:Nat} {ws:List PT} {w1 y:PT} {d1:DT} (hn:n<=9223372036854775807) (hw:ws[n]?=some w1) (h:Un ew er w1 y d1):Un ew er (.alts p ws) y (.mk 40 (n:Int) noB [] [d1])
 |never {x y:PT} {d:DT} (hx:x.isAlts=false) (hv:Nev ew er x y) (hd:Dat ew d x):Un ew er x y d
 |items {c p p':Nat} {u u' y:PT} {d d1:DT} (hv:Via ew er (.wrap c p u) y (.wrap c p' u')) (hd:Dat ew d (.wrap c p u)) (hm:d1∈d.subs) (h:Un ew er u u' d1):Un ew er (.wrap c p u) y d
 |sym {c p p' n:Nat} {y:PT} {lw lr:List (Nat×Nat)} {ow o:Option (Nat×Nat)} (hv:Via ew er (.leaf c p) y (.leaf c p')) (hb:zu c=false) (hw:ew c=some (.enum lw ow)) (hr:er c=some (.enum lr o)) (hn:n<lw.length) (h:ql lr o ((lw.map Prod.fst).getD n 0)=none):Un ew er (.leaf c p) y (.mk 101 (n:Int) noB [] [])
 |field {c p p' i:Nat} {y:PT} {fw fr:List PF} {g h:PF} {ds:List DT} {d1:DT} (hv:Via ew er (.leaf c p) y (.leaf c p')) (hb:zu c=false) (hw:ew c=some (.recd fw)) (hr:er c=some (.recd fr)) (hd:Dat ew (.mk 114 0 noB [] ds) (.leaf c p)) (hg:g∈fr) (hi:jg fw g.letter=some i) (hf:fw[i]?=some h) (he:ds[i]?=some d1) (hu:Un ew er h.ty g.ty d1):Un ew er (.leaf c p) y (.mk 114 0 noB [] ds)
 |lack {c p p':Nat} {y:PT} {fw fr:List PF} {g:PF} {d:DT} (hv:Via ew er (.leaf c p) y (.leaf c p')) (hb:zu c=false) (hw:ew c=some (.recd fw)) (hr:er c=some (.recd fr)) (hd:Dat ew d (.leaf c p)) (hg:g∈fr) (hi:jg fw g.letter=none) (hf:g.dflt=none):Un ew er (.leaf c p) y d
def Un.dat{er:Nat->Option PB}{x y:PT}{d:DT}(h:Un ew er x y d):Dat ew d x:=by
 induction h with
 |alts0 hn hw h ih=>exact .alts hn hw ih
 |never hx hv hd=>exact hd
 |items hv hd=>exact hd
 |sym hv hb hw hr hn h=>exact .sym hw hb hn
 |field hv hb hw hr hd=>exact hd
 |lack hv hb hw hr hd=>exact hd
structure ClP(ew er:Nat->Option PB)(L:PT->Nat->Prop)(K:PT->PT->Nat->Prop):Prop where
 alts0:∀p ws y n,K (.alts p ws) y n->∀w1∈ws,∃k,K w1 y k/\le0 n (jnN [k])
 never:∀x y n,K x y n->x.isAlts=false->Nev ew er x y->∃k,L x k/\le0 n k
 items:∀c p p' u u' y n,K (.wrap c p u) y n->Via ew er (.wrap c p u) y (.wrap c p' u')->∃k,K u u' k/\le0 n (jnN [k])
 sym:∀c p p' y n lw lr ow o q,K (.leaf c p) y n->Via ew er (.leaf c p) y (.leaf c p')->zu c=false->ew c=some (.enum lw ow)->er c=some (.enum lr o)->q<lw.length->ql lr o ((lw.map Prod.fst).getD q 0)=none->le0 n 1
 field:∀c p p' y n fw fr g i h,K (.leaf c p) y n->Via ew er (.leaf c p) y (.leaf c p')->zu c=false->ew c=some (.recd fw)->er c=some (.recd fr)->g∈fr->jg fw g.letter=some i->fw[i]?=some h->∃(ks:List Nat),ks.length=fw.length/\(∀(q:Nat) (f:PF) (k:Nat),fw[q]?=some f->ks[q]?=some k->if q=i then K h.ty g.ty k else L f.ty k)/\le0 n (jnN ks)
 lack:∀c p p' y n fw fr g,K (.leaf c p) y n->Via ew er (.leaf c p) y (.leaf c p')->zu c=false->ew c=some (.recd fw)->er c=some (.recd fr)->g∈fr->jg fw g.letter=none->g.dflt=none->∃(ks:List Nat),ks.length=fw.length/\(∀(q:Nat) (f:PF) (k:Nat),fw[q]?=some f->ks[q]?=some k->L f.ty k)/\le0 n (jnN ks)
def Zs{c:Nat}{fw:List PF}{d:DT}(hw:ew c=some (.recd fw))(hb:zu c=false)(hd:Dat ew d (.leaf c p)):∃ds,d=.mk 114 0 noB [] ds/\ds.length=fw.length/\∀(i:Nat) (d:DT) (f:PF),ds[i]?=some d->fw[i]?=some f->Dat ew d f.ty:=by
 have nb:=WK hb;cases hd with
 |null=>exact absurd rfl nb.1
 |bool=>exact absurd rfl nb.2.1
 |num=>exact absurd rfl nb.2.2.1
 |long=>exact absurd rfl nb.2.2.2.1
 |text=>exact absurd rfl nb.2.2.2.2
 |bytes he=>rw[hw]at he;cases he
 |sym he=>rw[hw]at he;cases he
 |recd he hb hl h=>
  rw[hw]at he;cases he;exact⟨_,rfl,hl,λi d f e e'=>h i d f.ty e (by rw[aq_,e'];rfl)⟩
def ClP.all{er:Nat->Option PB}{L:PT->Nat->Prop}{K:PT->PT->Nat->Prop}(C:ClP ew er L K)(f:∀t n,L t n->∀d,Dat ew d t->kn n (ndT d)){x y:PT}{d:DT}(h:Un ew er x y d):∀n,K x y n->kn n (ndT d):=by
 induction h with
 |alts0 hn hw h ih=>
  intro n hk;obtain⟨k,h1,a⟩:=C.alts0 _ _ _ n hk _ (aj_ hw);exact a.to (tB (ih k h1) (by simp[DT.subs]))
 |never hx hv hd=>
  intro n hk;obtain⟨k,h1,a⟩:=C.never _ _ n hk hx hv;exact a.to (f _ k h1 _ hd)
 |items hv hd hm h ih=>
  intro n hk;obtain⟨k,h1,a⟩:=C.items _ _ _ _ _ _ n hk hv;exact a.to (tB (ih k h1) hm)
 |sym hv hb hw hr hn h=>
  intro n hk;exact(C.sym _ _ _ _ n _ _ _ _ _ hk hv hb hw hr hn h).one (by rw[jX];omega)
 |field hv hb hw hr hd hg hi hf he hu ih=>
  rename_i ds d1;intro n hk;obtain⟨ks,h1,a,c⟩:=C.field _ _ _ _ n _ _ _ _ _ hk hv hb hw hr hg hi hf;obtain⟨ds',e,hl,l⟩:=Zs hw hb hd;cases e;refine c.to ?_;rw[jX];exact uV (ds:=ds) M_ (λq k d e e'=>by
   have o:q<_:=(ae_.1 e).1
   have b:=af_ (show q<_ from h1▸o)
   have:=a q _ k b e
   split at this
   .rename_i u
    subst u
    have r:ds[q]?=some d:=e'
    rw[he]at r
    cases r
    exact ih k this
   .exact f _ k this _ (l q d _ e' b))
 |lack hv hb hw hr hd hg hi hf=>
  intro n hk;obtain⟨ks,h1,a,c⟩:=C.lack _ _ _ _ n _ _ _ hk hv hb hw hr hg hi hf;obtain⟨ds',rfl,hl,l⟩:=Zs hw hb hd;refine c.to ?_;rw[jX];exact uV (ds:=ds') M_ (λq k d e e'=>by
   have o:q<_:=(ae_.1 e).1
   have b:=af_ (show q<_ from h1▸o)
   exact f _ k (a q _ k b e) _ (l q d _ e' b))
def nd3(d:DT):Nat:=if 300<ndT d then 301 else ndT d
def Lo(D:DT->Prop)(n:Nat):Prop:=n=0\/∃d,D d/\nd3 d=n
def JT:∀{ds:List DT}{ks:List Nat},ks=ds.map nd3->0∉ks/\(300<1+ks.sum↔300<1+yc ds)/\(yc ds<=300->ks.sum=yc ds)
 | [],_,rfl=>⟨by simp,by simp[yc],by simp[yc]⟩
 |d::ds,_,rfl=>by
  obtain⟨h1,a,b⟩:=JT (ds:=ds) rfl;have hd:0<ndT d:=by rw[jX];omega
  have hs:(∀k∈ds.map nd3,True):=λ_ _=>trivial;have c:(ds.map nd3).sum<=yc ds:=by
   clear h1 a b hs hd;induction ds with
   |nil=>simp[yc]
   |cons e r ih=>
    simp only[aw_,List.sum_cons,yc];have:nd3 e<=ndT e:=by unfold nd3;split<;>omega
    omega
  simp only[aw_,ao_,not_or,List.sum_cons,yc];unfold nd3 at *;refine⟨⟨?_,h1⟩,?_,?_⟩
  .split<;>omega
  .split<;>omega
  .split<;>omega
def mB{ds:List DT}{n:Int}{x:BA}{ks:List BA}:jnN (ds.map nd3)=nd3 (.mk k n x ks ds):=by
 obtain⟨h1,a,b⟩:=JT (ds:=ds) rfl;unfold jnN;rw[n_ h1];show _=if 300<ndT (.mk k n x ks ds) then _ else ndT (.mk k n x ks ds);rw[jX];show _=if 300<1+yc ds then _ else 1+yc ds;by_cases h:300<1+yc ds
 .rw[i_ h,i_ (a.2 h)]
 .rw[n_ h,n_ (λe=>h (a.1 e)),b M_]
def Lo.uniq{D:DT->Prop}(hn:Lo D n)(o:∀d,D d->kn n (ndT d))(hm:Lo D m)(l:∀d,D d->kn m (ndT d)):n=m:=by
 unfold kn at *;rcases hn with rfl|⟨d,h1,h⟩
 .rcases hm with rfl|⟨e,c,f⟩
  .rfl
  .exact absurd rfl (o e c).1
 .rcases hm with rfl|⟨e,c,f⟩
  .exact absurd rfl (l d h1).1
  .have a:=l d h1;have b:=o e c;unfold nd3 at h f;split at h<;>split at f<;>omega
def kM(s:BA)(t:PT):Prop:=∃j,pT s t.place=.ok (t,j)
def wG(h:pT s i=.ok (t,j)):kM s t:=⟨j,by rw[sR h];exact h⟩
def kM.wrap{c:Nat}(h:kM s (.wrap c p t)):kM s t:=by
 obtain⟨j,h⟩:=h;rw[kP]at h;unfold vP at h;split at h
 .cases h
 .split at h
  .split at h
   .cases h
   .rename_i hp;split at h
    .simp only[ag_,ad_,PT.wrap.injEq]at h;obtain⟨⟨_,_,rfl⟩,_⟩:=h;exact wG hp
    .cases h
  .split at h
   .split at h
    .cases h
    .split at h<;>cases h
   .split at h<;>cases h
def Yk:∀(l:List PT) (i j:Nat),i<=s.size->pA s i=.ok (l,j)->∀t∈l,kM s t
 | [],i,j,hi,h,t,a=>by simp at a
 |x::l,i,j,hi,h,t,a=>by
  rw[WO s i hi]at h;unfold gq at h;split at h
  .cases h
  .rename_i e c hp;split at h
   .rename_i hc;have hl:=zc (s:=s) (i:=c) M_;split at h
    .cases h
    .rename_i ts k b;simp only[ag_,ad_,List.cons.injEq]at h;obtain⟨⟨rfl,rfl⟩,rfl⟩:=h;rcases ao_.1 a with rfl|a
     .exact wG hp
     .exact Yk _ _ _ M_ b t a
   .simp only[ag_,ad_,List.cons.injEq]at h;obtain⟨⟨rfl,rfl⟩,rfl⟩:=h;simp only[a1_]at a;subst a;exact wG hp
def kM.alts{l:List PT}(h:kM s (.alts p l)):∀t∈l,kM s t:=by
 obtain⟨j,h⟩:=h;rw[kP]at h;unfold vP at h;split at h
 .cases h
 .split at h
  .split at h
   .cases h
   .split at h<;>cases h
  .split at h
   .rename_i hb;have hl:=zc (s:=s) (i:=PT.place (.alts p l)) M_;split at h
    .cases h
    .rename_i ts k hp;split at h
     .simp only[ag_,ad_,PT.alts.injEq]at h;obtain⟨⟨_,rfl⟩,_⟩:=h;exact Yk _ _ _ M_ hp
     .cases h
   .split at h<;>cases h
def rV:∀(n i:Nat) (l:List PF) (j:Nat),yK s n i=.ok (l,j)->∀f∈l,kM s f.ty
 | 0,i,l,j,h=>by simp[yK]at h
 |n+1,i,l,j,h=>by
  have one:∀f j,zH s i=.ok (f,j)->kM s f.ty:=λf j h=>by
   unfold zH at h;split at h
   .split at h
    .split at h
     .cases h
     .rename_i hp;split at h
      .split at h
       .cases h
       .simp only[ag_,ad_]at h;obtain⟨rfl,_⟩:=h;exact wG hp
      .simp only[ag_,ad_]at h;obtain⟨rfl,_⟩:=h;exact wG hp
    .cases h
   .cases h
  unfold yK at h;split at h
  .cases h
  .rename_i b c hp;split at h
   .simp only[ag_,ad_]at h;obtain⟨rfl,_⟩:=h;intro f hf;simp only[a1_]at hf;subst hf;exact one _ _ hp
   .split at h
    .split at h
     .cases h
     .rename_i fs k a;simp only[ag_,ad_]at h;obtain⟨rfl,_⟩:=h;intro f hf;rcases ao_.1 hf with rfl|hf
      .exact one _ _ hp
      .exact rV n _ _ _ a f hf
    .cases h
def Zn{fs:List PF}(h:yZ s p=.ok (.recd fs,j)):∀f∈fs,kM s f.ty:=by
 unfold yZ at h;split at h
 .split at h
  .cases h
  .rename_i ds k hp;simp only[ag_,ad_,PB.recd.injEq]at h;obtain⟨rfl,_⟩:=h;unfold yp at hp;split at hp
   .split at hp
    .simp only[ag_,ad_]at hp;obtain⟨rfl,_⟩:=hp;intro f hf;simp at hf
    .exact rV _ _ _ _ hp
   .cases hp
 .split at h
  .split at h
   .cases h
   .cases h
  .split at h
   .split at h<;>cases h
   .cases h
def cr{X:PB}(h:kM s t)(k:yZ s t.place=.ok (X,j)):False:=by
 obtain⟨i,h⟩:=h;have h1:bt s t.place=114\/bt s t.place=101\/bt s t.place=102:=by
  unfold yZ at k;split at k
  .exact .inl ‹_›
  .split at k
   .exact .inr (.inl ‹_›)
   .split at k
    .exact .inr (.inr ‹_›)
    .cases k
 rw[kP]at h;unfold vP at h;generalize bt s t.place=b at *;rcases h1 with rfl|rfl|rfl;all_goals
  simp[zu,zp]at h
def Fr.ke{w w':World}(h:Fr w w' N_){a:Addr}{v:Value}(hc:w.cell? a=some v):w'.cell? a=some v:=(World.cell?_of_block (h.block a.block (World.block_lt_of_cell? w a hc) id)).trans hc
def Fr.keepF{w w':World}(h:Fr w w' N_){a:Addr}{v:Value}(hc:w.cell? a=some v)(hz:w.frozen? a=false):w'.frozen? a=false:=(World.frozen?_of_block (h.block a.block (World.block_lt_of_cell? w a hc) id)).trans hz
structure TP(α ρ:Type) where
 RI:World->ρ->Prop
 RS:ρ->Nat->Prop
 SV:World->(Nat->Prop)->α->Nat->Value->Prop
 QV:World->α->List Value->Prop
 Cl:List (Rw α)->α->Nat->Prop
structure TL where
 fb:Nat
 tb:Nat
 mb:Nat
 kf:Value
 ff:Value
structure TP.OK{α ρ:Type}(P:TP α ρ)(I:TI α)(L:TL):Prop where
 rs:∀W r x,P.RI W r->P.RS r x->L.fb<x/\x<W.heap.size
 rfr:∀W W' r rv g T,P.RI W r->TbW I L.fb L.tb L.mb L.kf L.ff W rv g T->Fr W W' (TbS L.tb L.mb rv)->P.RI W' r
 rnew:∀W W' r,P.RI W r->Fr W W' N_->P.RI W' r
 sv:∀W W' S S' a n d,P.SV W (λx=>¬S x) a n d->Stp W W' S S'->P.SV W' (λx=>¬S' x) a n d
 qv:∀W W' S a v,P.QV W a v->Fr W W' S->(∀x,S x->L.fb<x)->P.QV W' a v
 mono:Vl P.Cl
 z:∀W J a,P.SV W J a 0 .nilIface
 put:∀W W' r q cs,L.fb<q->P.RI W r->Blk W q cs 88->Fr W W' (λx=>x=q)->P.RI W' r
 svp:∀W W' J a n d q cs,P.SV W J a n d->Blk W q cs 88->Fr W W' (λx=>x=q)->P.SV W' J a n d
 tt:I.TT≠88/\I.RT≠88
section
variable {α ρ:Type} {P:TP α ρ} {I:TI α} {L:TL}
def TSS(P:TP α ρ)(L:TL)(rv:Value)(r:ρ)(x:Nat):Prop:=TbS L.tb L.mb rv x\/P.RS r x
structure TbI(P:TP α ρ)(I:TI α)(L:TL)(W:World)(r:ρ)(rv:Value)(g:Bool)(T:List (Rw α)):Prop where
 i:P.RI W r
 t:TbW I L.fb L.tb L.mb L.kf L.ff W rv g T
 v:∀x∈T,P.SV W (λy=>¬TSS P L rv r y) x.a x.n x.d/\P.QV W x.a x.v
def yi(P:TP α ρ)(I:TI α)(L:TL)(W:World)(r:ρ)(rv:Value)(g:Bool)(T:List (Rw α))(a:α)(e:Ending)(W':World):Prop:=
 ∃r' rv' g' T' n d,e=.returned (.agg #[z_ ((n:Nat):Int),d])/\n<=301/\IfV d/\TbI P I L W' r' rv' g' T'/\Stp W W' (TSS P L rv r) (TSS P L rv' r')/\Grw P.Cl T T' g g'/\P.Cl T' a n/\P.SV W' (λy=>¬TSS P L rv' r' y) a n d
def vN(P:TP α ρ)(I:TI α)(L:TL)(W:World)(r:ρ)(rv:Value)(g:Bool)(T:List (Rw α))(a:α)(e:Ending)(W':World):Prop:=
 ∃r' rv' g' T' x,e=.returned (.agg #[z_ ((x.n:Nat):Int),x.d])/\x∈T'/\x.a=a/\TbI P I L W' r' rv' g' T'/\Stp W W' (TSS P L rv r) (TSS P L rv' r')/\Grw P.Cl T T' g g'
def lW(P:TP α ρ)(I:TI α)(L:TL)(W:World)(r:ρ)(rv:Value)(g:Bool)(T:List (Rw α))(a:α)(e:Ending)(W':World):Prop:=
 ∃x,e=.returned (.agg #[z_ ((x.n:Nat):Int),x.d])/\x∈T/\x.a=a/\TbI P I L W' r rv g T/\Stp W W' (TSS P L rv r) (TSS P L rv r)
def lW.post{r:ρ}{T:List (Rw α)}{a:α}{e:Ending}(h:lW P I L W r rv g T a e W'):vN P I L W r rv g T a e W':=by
 obtain⟨x,h1,b,c,f,l⟩:=h;exact⟨r,rv,g,T,x,h1,b,c,f,l,Grw.refl _ _⟩
def Lk(Cl:List (Rw α)->α->Nat->Prop)(T T':List (Rw α))(g g':Bool)(i:Nat):Prop:=
 ∃R,(g=true->g'=true)/\((T'=T++R/\(g'=true->g=true\/R≠[])/\(g'=false->(∀r∈R,Stb Cl T' r)/\∀r,T[i]?=some r->Stb Cl T' r))\/
  (g'=true/\∃r n d,T[i]?=some r/\btr n r.n=true/\n<=301/\T'=(T++R).set i ⟨r.a,r.v,n,d⟩))
def uq(P:TP α ρ)(I:TI α)(L:TL)(W:World)(r:ρ)(rv:Value)(g:Bool)(T:List (Rw α))(i:Nat)(e:Ending)(W':World):Prop:=
 ∃r' rv' g' T',e=.returned (.tuple #[])/\TbI P I L W' r' rv' g' T'/\Stp W W' (TSS P L rv r) (TSS P L rv' r')/\Lk P.Cl T T' g g' i
def TbI.new(a:P.OK I L){r:ρ}{T:List (Rw α)}(h:TbI P I L W r rv g T)(hf:Fr W W' N_):TbI P I L W' r rv g T:=
 ⟨a.rnew _ _ _ h.i hf,h.t.new hf,λx hx=>⟨a.sv _ _ _ _ _ _ _ (h.v x hx).1 (E_ hf (λ_ h=>h)),a.qv _ _ _ _ _ (h.v x hx).2 hf (λ_ f=>f.elim)⟩⟩
def TbI.li(a:P.OK I L){r:ρ}{T:List (Rw α)}(h:TbI P I L W r rv g T){x:Nat}(hx:TSS P L rv r x):L.fb<x/\x<W.heap.size:=by
 rcases hx with hx|hx
 .exact h.t.li hx
 .exact a.rs _ _ _ h.i hx
def TbI.turn(b:P.OK I L){r:ρ}{T T':List (Rw α)}(h:TbI P I L W r rv g T)(hf:Stp W W' (TbS L.tb L.mb rv) (TbS L.tb L.mb rv'))(f:TbW I L.fb L.tb L.mb L.kf L.ff W' rv' g' T')(c:∀x∈T',x∈T\/(P.SV W' (λy=>¬TSS P L rv' r y) x.a x.n x.d/\P.QV W' x.a x.v)):TbI P I L W' r rv' g' T'/\Stp W W' (TSS P L rv r) (TSS P L rv' r):=by
 have hs:Stp W W' (TSS P L rv r) (TSS P L rv' r):=⟨hf.1.mono (λ_ _ e=>.inl e),λx hx e=>e.imp (hf.2 x hx) id⟩;refine⟨⟨b.rfr _ _ _ _ _ _ h.i h.t hf.1,f,λx hx=>?_⟩,hs⟩;rcases c x hx with hx|hx
 .exact⟨b.sv _ _ _ _ _ _ _ (h.v x hx).1 hs,b.qv _ _ _ _ _ (h.v x hx).2 hs.1 (λy hy=>(h.li b hy).1)⟩
 .exact hx
def TbI.put(a:P.OK I L){r:ρ}{T:List (Rw α)}{cs:List Value}(h:TbI P I L W r rv g T)(b:L.fb<q)(hb:Blk W q cs 88)(hf:Fr W W' (λx=>x=q)):TbI P I L W' r rv g T:=
 ⟨a.put _ _ _ _ _ b h.i hb hf,h.t.fr hf (λ_ hx e=>h.t.other (x:=q) hb (Ne.symm a.tt.1) (Ne.symm a.tt.2) (e▸hx)),λx hx=>⟨a.svp _ _ _ _ _ _ _ _ (h.v x hx).1 hb hf,a.qv _ _ _ _ _ (h.v x hx).2 hf (λ_ e=>e▸b)⟩⟩
def LkM(P:TP α ρ)(I:TI α)(L:TL)(W:World)(r:ρ)(rv:Value)(g:Bool)(T:List (Rw α))(a:α)(q:Nat)(r':ρ)(rv':Value)(g':Bool)(T':List (Rw α))(n:Nat)(d:Value)(V:World):Prop:=
 n<=301/\IfV d/\TbI P I L V r' rv' g' T'/\Stp W V (TSS P L rv r) (TSS P L rv' r')/\Grw P.Cl T T' g g'/\P.Cl T' a n/\P.SV V (λy=>¬TSS P L rv' r' y) a n d/\Blk V q [I_ n,d] 88/\W.heap.size<=q/\L.fb<q
def LkM.new(c:P.OK I L){b V:World}{r r':ρ}{T T':List (Rw α)}{a:α}(h:TbI P I L W r rv g T)(hf:Fr W b N_)(hn:n<=301)(hd:IfV d)(f:TbI P I L V r' rv' g' T')(hs:Stp b V (TSS P L rv r) (TSS P L rv' r'))(hg:Grw P.Cl T T' g g')(hc:P.Cl T' a n)(hv:P.SV V (λy=>¬TSS P L rv' r' y) a n d)(hb:Blk V q [I_ n,d] 88)(e:W.heap.size<=q):LkM P I L W r rv g T a q r' rv' g' T' n d V:=
 ⟨hn,hd,f,(E_ hf (λ_ h=>h)).trans hs,hg,hc,hv,hb,e,by have:=(h.li c (x:=L.tb) (.inl (.inl rfl)));omega⟩
def LkM.of(c:P.OK I L){f V:World}{r r':ρ}{T T':List (Rw α)}{a:α}(h:TbI P I L W r rv g T)(hf:Fr W f N_)(hn:n<=301)(hd:IfV d)(v:TbI P I L V r' rv' g' T')(hs:Stp f V (TSS P L rv r) (TSS P L rv' r'))(hg:Grw P.Cl T T' g g')(hc:P.Cl T' a n)(hv:P.SV V (λy=>¬TSS P L rv' r' y) a n d)(hb:Blk V q [O_,.nilIface] 88)(u:W.heap.size<=q):LkM P I L W r rv g T a q r' rv' g' T' n d ((V.setCell ⟨q,0,none⟩ (I_ n)).setCell ⟨q,1,none⟩ d):=by
 have b:=V_ V q 0 1 (I_ n) d;have l:L.fb<q:=by
  have:=(h.t.li (x:=L.tb) (.inl rfl));omega
 have o:Stp W V (TSS P L rv r) (TSS P L rv' r'):=(E_ hf (λ_ h=>h)).trans hs;exact⟨hn,hd,v.put c l hb b,⟨o.1.trans b (λx hx e=>M_),o.2⟩,hg,hc,c.svp _ _ _ _ _ _ _ _ hv hb b,(hb.set 0 _).set 1 _,u,l⟩
def FOK(P:TP α ρ)(I:TI α)(L:TL)(fn:FuncId)(fa:Value)(A:List Value->Value)(m:Nat):Prop:=
 ∀W r rv g T a v,TbI P I L W r rv g T->I.Q a->P.QV W a v->I.N<=T.length+m->Calls prog fn #[fa,A v] W (yi P I L W r rv g T a)
def KOK(P:TP α ρ)(I:TI α)(L:TL)(fn:FuncId)(A:List Value->Value)(m:Nat):Prop:=
 ∀W r rv g T a v,TbI P I L W r rv g T->I.Q a->P.QV W a v->I.N<=T.length+m->Calls prog fn #[P_ L.tb,A v] W (vN P I L W r rv g T a)
def Lk.grw{Cl:List (Rw α)->α->Nat->Prop}{T T':List (Rw α)}{x:Rw α}(h:Lk Cl (T++[x]) T' g g' T.length):Grw Cl T T' g g'/\∃y,T'[T.length]?=some y/\y.a=x.a:=by
 obtain⟨R,h1,b|⟨b,r,n,d,hr,hb,hn,rfl⟩⟩:=h
 .obtain⟨rfl,l,c⟩:=b;refine⟨⟨[x]++R,by simp,h1,λ_=>.inr (by simp),λe r hr=>?_⟩,x,by simp,rfl⟩;rcases a2_.1 hr with hr|hr
  .simp only[a1_]at hr;subst hr;exact(c e).2 r (by simp)
  .exact(c e).1 r hr
 .have f:r=x:=by simpa using hr.symm
  subst f;refine⟨⟨[⟨r.a,r.v,n,d⟩]++R,?_,h1,λ_=>.inr (by simp),λe=>by rw[b]at e;cases e⟩,⟨r.a,r.v,n,d⟩,?_,rfl⟩
  .rw[by_,List.set_append_right _ _ l_,Nat.sub_self];rfl
  .rw[bg_,i_ rfl,i_ (by simp)]
def Gd(Cl:List (Rw α)->α->Nat->Prop)(T:List (Rw α)):Prop:=∀r∈T,Stb Cl T r
def uy(P:TP α ρ)(I:TI α)(L:TL)(W:World)(r:ρ)(rv:Value)(a:α)(e:Ending)(W':World):Prop:=
 ∃r' rv' T' x,e=.returned (.agg #[z_ ((x.n:Nat):Int),x.d])/\x∈T'/\x.a=a/\TbI P I L W' r' rv' false T'/\Stp W W' (TSS P L rv r) (TSS P L rv' r')/\Gd P.Cl T'
structure kW(P:TP α ρ)(I:TI α)(L:TL)(W:World)(r:ρ)(rv:Value)(a:α)(V:World)(r':ρ)(rv':Value)(g':Bool)(T':List (Rw α)):Prop where
 i:TbI P I L V r' rv' g' T'
 s:Stp W V (TSS P L rv r) (TSS P L rv' r')
 a:a∈T'.map Rw.a
 b:Blk V W.heap.size [O_,.nilIface] 88
 n:¬TSS P L rv' r' W.heap.size
def SIn(Cl:List (Rw α)->α->Nat->Prop)(N n j f:Nat)(g:Bool)(T:List (Rw α)):Prop:=
 n<=T.length/\phi N T<=f/\(g=true->phi N T<f)/\(g=false->∀i x,T[i]?=some x->(i<j\/n<=i)->Stb Cl T x)
def Pn{T:List (Rw α)}{r:Rw α}(hr:T[i]?=some r):(T.set i ⟨r.a,r.v,n,d⟩).map Rw.a=T.map Rw.a:=by
 rw[List.map_set];apply List.ext_getElem?;intro k;rw[bg_];split
 .rename_i e;subst e;have hi:=(ae_.1 hr).1;rw[aq_,hr];simp[hi]
 .rfl
def Lk.mem{Cl:List (Rw α)->α->Nat->Prop}{T T':List (Rw α)}{a:α}(h:Lk Cl T T' g g' i)(ha:a∈T.map Rw.a):a∈T'.map Rw.a:=by
 obtain⟨R,_,⟨rfl,_⟩|⟨_,r,n,d,hr,_,_,rfl⟩⟩:=h
 .rw[bj_];exact bu_ _ ha
 .rw[Pn (by rw[ar_ (ae_.1 hr).1];exact hr),bj_];exact bu_ _ ha
def SIn.step{Cl:List (Rw α)->α->Nat->Prop}(M:Vl Cl){N f:Nat}{T T':List (Rw α)}(h:SIn Cl N n j f g T)(hl:Lk Cl T T' g g' j)(b:T'.length<=N)(z:∀r∈T,r.n<=301)(c:∀r∈T',r.n<=301):SIn Cl N n (j+1) f g' T':=by
 obtain⟨h1,F,u,w⟩:=h;obtain⟨R,D,⟨rfl,E,l⟩|⟨rfl,r,m,d,hr,hb,hm,rfl⟩⟩:=hl
 .have hp:=sP (T:=T) (R:=R) b (λr hr=>c r (b1_ _ hr));refine⟨by rw[ai_];omega,M_,λe=>?_,λe i x hx hi=>?_⟩
  .rcases E e with e|e
   .have:=u e;omega
   .have:R.length≠0:=λe'=>e (List.length_eq_zero_iff.1 e');omega
  .have o:g=false:=by
    cases g with
    |false=>rfl
    |true=>rw[D rfl]at e;cases e
   by_cases B:i<T.length
   .rw[ar_ B]at hx;by_cases y:i=j
    .subst y;exact(l e).2 x hx
    .exact(w o i x hx M_).more M R
   .rw[as_ M_]at hx;exact(l e).1 x (aj_ hx)
 .have A:=(ae_.1 hr).1;have C:(T++R)[j]?=some r:=by rw[ar_ A];exact hr
  rw[bh_]at b;have hp:=KQ (N:=N) (r':=⟨r.a,r.v,m,d⟩) C (z r (aj_ hr)) hb hm;have y:∀x∈R,x.n<=301:=λx hx=>by
   obtain⟨i,hi⟩:=a5_ hx;refine c x (aj_ (i:=T.length+i) ?_);rw[bg_,n_ M_,as_ M_,show T.length+i-T.length=i by omega];exact hi
  have G:=sP (T:=T) (R:=R) b y;exact⟨by rw[bh_,ai_];omega,M_,λ_=>M_,λe=>by cases e⟩
end
@[reducible] def ID {α:Type}(kv:α->Value) (Q:α->Prop) (num:α->Nat) (N:Nat):TI α:=⟨197,260,3,1,kv,Q,num,N⟩
section
variable {α ρ:Type} {P:TP α ρ} {kv:α->Value} {Q:α->Prop} {num:α->Nat} {N fb tb mb:Nat} {kf:Value} {fn:FuncId} {fa:Value}
def TbI.cellsD{r:ρ}{T:List (Rw α)}{L:TL}(h:TbI P (ID kv Q num N) L W r rv g T){x:Rw α}(hx:T[i]?=some x):∃b cap u,rv=S_ b T.length cap/\x.v=[u]/\W.cell? ⟨b,i*3,none⟩=some u/\W.cell? ⟨b,i*3+1,none⟩=some (I_ x.n)/\W.cell? ⟨b,i*3+1+1,none⟩=some x.d/\W.frozen? ⟨b,i*3+1,none⟩=false/\W.frozen? ⟨b,i*3+1+1,none⟩=false:=by
 obtain⟨b,cap,e,h1⟩:=h.t.cell hx;have hl:x.v.length=1:=(h.t.q x (aj_ hx)).2.1;obtain⟨u,hu⟩:=List.length_eq_one_iff.1 hl;have f:=h1 0 (by show 0<1+2;omega);have a:=h1 1 (by show 1<1+2;omega);have c:=h1 2 (by show 2<1+2;omega);simp only[Rw.cells,hu]at f a c;exact⟨b,cap,u,e,hu,f.1,a.1,c.1,a.2,c.2⟩
def cd:∀W x,(method 525 88 x "Betters").run prog W=.ok (136,x) W:=by intro W x;kernel_rfl
def Gx{r:ρ}{T:List (Rw α)}{x:Rw α}(J:(ID kv Q num N).OK)(l:P.OK (ID kv Q num N) ⟨fb,tb,mb,kf,.func (.func fn) #[fa] #[]⟩)(hB:∀(w:World) (n m:Nat) (dv kv:Value),Calls prog 136 #[.agg #[I_ n,dv],.agg #[I_ m,kv]] w λe w'=>e=.returned (.bool (btr n m))/\Fr w w' N_)(a8:∀a2 W,(callFunc fn a2).run prog W=.ok (.enter fn a2) W)(h:TbI P (ID kv Q num N) ⟨fb,tb,mb,kf,.func (.func fn) #[fa] #[]⟩ W r rv g T)(hx:T[i]?=some x)(F:∀W' u,Fr W W' N_->x.v=[u]->Calls prog fn #[fa,u] W' (yi P (ID kv Q num N) ⟨fb,tb,mb,kf,.func (.func fn) #[fa] #[]⟩ W' r rv g T x.a)):Calls prog 113 #[P_ tb,I_ i] W (uq P (ID kv Q num N) ⟨fb,tb,mb,kf,.func (.func fn) #[fa] #[]⟩ W r rv g T i):=by
 obtain⟨a1,O⟩:=y_ (uq P (ID kv Q num N) ⟨fb,tb,mb,kf,.func (.func fn) #[fa] #[]⟩ W r rv g T i);rw[<- O.o];obtain⟨b,cap,u,rfl,hu,Y,e1,e2,-,-⟩:=h.cellsD hx;have hi:=(ae_.1 hx).1;have b4:(i:Int)<(T.length:Int):=M_;have c1:=h.t.b.c1;have c2:=h.t.b.c2;have Z:=zy (λW' hW=>F W' u hW hu);replace h:=zy h;replace hx:=zy hx;replace hB:=zy hB;go_in;go_upto_region 0 with fail;go_cut [4] (λv V=>∃q r' rv' g' T' n d,v=P_ q/\H_ (LkM P (ID kv Q num N) ⟨fb,tb,mb,kf,.func (.func fn) #[fa] #[]⟩ W r (S_ b T.length cap) g T x.a q r' rv' g' T' n d V));case first=>
  refine tr_ 12 (λV=>f_ V tb 1 (.func (.func fn) #[fa] #[])/\f_ V tb 2 (S_ b T.length cap)/\f_ V b (i*3) u) ?_;refine tB_ 0 [1,2,3,12] ?_;refine tB_ 1 [2,3,12] ?_;refine tB_ 2 [3,12] ?_;refine tB_ 3 [12] ?_;refine tB_ 4 [5,6,7,9,10,11,12] ?_;refine tB_ 5 [6,7,9,10,11,12] ?_;refine tB_ 6 [7,9,10,11,12] ?_;refine tB_ 7 [9,10,11,12] ?_;refine tB_ 8 [9,10,11,12] ?_;refine tB_ 9 [10,11,12] ?_;refine tB_ 10 [11,12] ?_;refine tB_ 11 [12] ?_;refine jp 12 13 rfl rfl K_ (λ_=>⟨c1,c2,Y⟩) (λK A=>?_) (λK A=>?_)
  .go_simp;apply(Z.o _ (A_ W _).drew).mono;rintro e w1 ⟨r',rv',g',T',n,d,rfl,hn,hd,c,hs,hg,hc,hv⟩;refine A _ _ ?_;have sD:=λW a m=>run_store prog W a d m hd.one;have f:=(A_ w1 N_).alloc (.cells #[I_ n,d] 88);have fin:=zy (LkM.new l h (A_ W _).drew hn hd (c.new l f) (hs.trans (E_ f (λ_ h=>h))) hg hc (l.sv _ _ _ _ _ _ _ hv (E_ f (λ_ h=>h))) (B_ w1 #[I_ n,d] 88) hs.1.size);refine t0_ 13 ?_;refine t0_ 14 ?_;refine td_ ?_ _;go_wp2;go_meet;exact⟨_,_,_,_,_,_,_,rfl,fin⟩
  .go_simp;refine A _ _ ?_;have B:=(A_ W N_).alloc (.cells #[O_,.nilIface] 88);have B0:=B_ W #[O_,.nilIface] 88;have D:=((h.o.t.new B).b.cell 1);have E:=((h.o.t.new B).b.cell 2);have f0:(W.alloc (.cells #[O_,.nilIface] 88)).cell? ⟨b,i*3,none⟩=some u:=by
    have:=B.block b (h.o.t.li (x:=b) (.inr (.inr rfl))).2 id;rw[World.cell?_of_block this];exact Y
   simp only[aa_,ab_]at D E;refine zw 12 rfl K_ (λ_=>⟨D,E,f0⟩) (λK A=>?_);go_simp;apply(Z.o _ B.drew).mono;rintro e w1 ⟨r',rv',g',T',n,d,rfl,hn,hd,c,hs,hg,hc,hv⟩;refine A _ _ ?_;have sD:=λW a m=>run_store prog W a d m hd.one;have C:Blk w1 W.heap.size [O_,.nilIface] 88:=hs.1.bl B0.drew (λe=>absurd (h.o.li l e).2 (a3_ _));have fin:=zy (LkM.of l h B.drew hn hd c hs hg hc hv C l_);have k0:=C.c0;have k1:=C.c1;have t0:=C.th 0;have t1:=C.th 1;refine t0_ 14 ?_;refine td_ ?_ _;go_wp2;go_meet;exact⟨_,_,_,_,_,_,_,rfl,fin⟩
 case rest=>
  obtain⟨q,r',rv',g',T',n,d,rfl,hM⟩:=hcut;obtain⟨hn,hd,c,hs,hg,hc,hv,hb,hq,a9⟩:=hM.o;obtain⟨R,rfl,g1,g2,g3⟩:=hg;have H:(T++R)[i]?=some x:=by rw[ar_ hi];exact hx
  obtain⟨z,X,u',rfl,hu,a0,S,U,D,E⟩:=c.cellsD H;have b5:(i:Int)<((T++R).length:Int):=by rw[ai_];omega
  have a6:=((c.t.q x (aj_ H)).2.2.2).one;have c2:=c.t.b.c2;have t4:=c.t.b.th 4;have c4:=c.t.b.c4;have q0:=hb.c0;have q1:=hb.c1;have s1:=λW a m=>run_store prog W a d m hd.one;have a7:=cd;have a5:z≠tb:=λe=>(c.t.apart J).2.1 (by rw[e];rfl);have b6:=Ne.symm a5;have no:H_ (∀V,Fr wc V N_->btr n x.n=false->a1 (.returned (.tuple #[])) V):=zy (λV G e=>by
   rw[O.o]
   exact⟨r',_,g',T++R,rfl,c.new l G,hs.trans (E_ G (λ_ h=>h)),R,g1,.inl ⟨rfl,g2,λe'=>⟨g3 e',λy hy=>by rw[hx.o]at hy;cases hy;exact⟨n,hc,e⟩⟩⟩⟩)
  have yes:H_ (∀V,Fr wc V N_->btr n x.n=true->a1 (.returned (.tuple #[])) (((V.setCell ⟨z,i*3+1,none⟩ (I_ n)).setCell ⟨z,i*3+1+1,none⟩ d).setCell ⟨tb,4,none⟩ (.bool true)).drew):=zy (λV G e=>by
   have h1:=c.new l G
   have h2:=((h1.t.set J H hn hd).flag J true).new (A_ _ _).drew
   have F:Fr V (((V.setCell ⟨z,i*3+1,none⟩ (I_ n)).setCell ⟨z,i*3+1+1,none⟩ d).setCell ⟨tb,4,none⟩ (.bool true)).drew (TbS tb mb (S_ z (T++R).length X)):=(((V_ V z _ _ _ _).mono (λx _ e=>.inr (.inr (by rw[e];rfl)))).setCell _ _ (λ_=>.inl rfl)).drew
   have h3:=h1.turn l (rv':=S_ z (T++R).length X) ⟨F,λ_ _ h=>h⟩ h2 (λy hy=>by
    rcases cb_ hy with hy|rfl
    .exact .inl hy
    .refine .inr ⟨l.sv _ _ _ _ _ _ _ (l.sv _ _ _ _ _ _ _ hv (E_ G (λ_ h=>h))) ⟨F.mono (λ_ _ e=>.inl e),λ_ _ h=>h⟩,?_⟩
     exact l.qv _ _ _ _ _ (h1.v x (aj_ H)).2 F (λy hy=>(h1.t.li hy).1))
   rw[O.o]
   exact⟨r',_,true,_,rfl,h3.1,(hs.trans (E_ G (λ_ h=>h))).trans h3.2,R,λ_=>rfl,.inr ⟨rfl,x,n,d,hx,e,hn,rfl⟩⟩)
  generalize x.n=xn at *;generalize x.d=xd at *;generalize (T++R).length=M at *;go_wp2;refine tr_ 10 (λV=>f_ V tb 2 (S_ z M X)/\f_ V q 0 (I_ n)/\f_ V q 1 d/\f_ V z (i*3+1) (I_ xn)/\f_ V z (i*3+1+1) xd) ?_;refine tB_ 0 [1,10] ?_;refine tB_ 1 [10] ?_;refine tB_ 2 [3,4,5,7,8,9,10] ?_;refine tB_ 3 [4,5,7,8,9,10] ?_;refine tB_ 4 [5,7,8,9,10] ?_;refine tB_ 5 [7,8,9,10] ?_;refine tB_ 6 [7,8,9,10] ?_;refine tB_ 7 [8,9,10] ?_;refine tB_ 8 [9,10] ?_;refine tB_ 9 [10] ?_;refine zw 10 rfl K_ (λ_=>⟨c2,q0,q1,S,U⟩) (λK A=>?_);go_simp;apply(hB.o _ n xn d xd).mono;rintro e w2 ⟨rfl,a4⟩;refine A _ _ ?_;have f:Fr wc w2 N_:=(A_ wc _).drew.trans a4 u_;have x1:=f.keepF S D;have x2:=f.keepF U E;have x3:=f.keepF c4 t4;have k2:=f.ke c2;have k4:=f.ke c4;have p0:=f.ke q0;have p1:=f.ke q1;replace S:=f.ke S;replace U:=f.ke U;replace f:=zy f;refine td_ ?_ _;cases a3:btr n xn
  .go_wp2;go_end0;exact no.o _ f a3
  .go_wp2;refine tr_ 8 (λV=>f_ V tb 2 (S_ z M X)/\f_ V q 0 (I_ n)/\f_ V q 1 d) ?_;refine tz_ 0 ?_;refine tz_ 1 ?_;refine tz_ 2 ?_;refine tz_ 3 ?_;refine tz_ 4 ?_;refine tz_ 5 ?_;refine tB_ 6 [7,8] ?_;refine tz_ 7 ?_;refine t1_ 8 ⟨k2,p0,p1⟩ ?_;refine td_ ?_ _;go_wp2;go_end0;exact yes.o _ f a3
end
def qz:Tryz.prog.underlying 3=some (.int .i64):=K_
def eS:Tryz.prog.underlying 194=some (.map 3 3):=K_
def Km:Tryz.prog.underlying 195=some (.slice 260):=K_
def Fh:(Tryz.prog.info? 260).map (λi=>(i.zero,i.size,i.bytes))=some (some (.agg #[.nilIface,O_,.nilIface]),3,40):=K_
def Vt(w:World):(zeroValue 3).run prog w=.ok (O_) w:=by kernel_rfl
section
variable {α ρ:Type} {P:TP α ρ} {kv:α->Value} {Q:α->Prop} {num:α->Nat} {N fb tb mb:Nat} {fn:FuncId} {fa:Value}
def od{r:ρ}{T:List (Rw α)}{x:Rw α}(H:(ID kv Q num N).OK)(B:P.OK (ID kv Q num N) ⟨fb,tb,mb,.func (.methodOf 53 "Place") #[] #[],.func (.func fn) #[fa] #[]⟩)(h:TbI P (ID kv Q num N) ⟨fb,tb,mb,.func (.methodOf 53 "Place") #[] #[],.func (.func fn) #[fa] #[]⟩ W r rv g T)(hx:T[i]?=some x)(hk:kv x.a=I_ k)(O:keyOf prog 3 (I_ k)=some (.int .i64 (k:Int)))(hm:∀W,(method 525 uT ux "Place").run prog W=.ok (70,I_ k) W):Calls prog 78 #[P_ tb,.iface uT ux] W (lW P (ID kv Q num N) ⟨fb,tb,mb,.func (.methodOf 53 "Place") #[] #[],.func (.func fn) #[fa] #[]⟩ W r rv g T x.a):=by
 obtain⟨X,C⟩:=y_ (lW P (ID kv Q num N) ⟨fb,tb,mb,.func (.methodOf 53 "Place") #[] #[],.func (.func fn) #[fa] #[]⟩ W r rv g T x.a)
 rw[<- C.o];have w:=aj_ hx;obtain⟨w1,l⟩:=e_ (W.alloc (.cells #[O_,.nilIface] 88));have z:Fr W w1 N_:=by rw[l];exact(A_ W _).alloc _
 have f:Blk w1 W.heap.size [O_,.nilIface] 88:=by rw[l];exact B_ W _ _
 have h1:=h.new B z;obtain⟨D,E,J⟩:=h1.t.map;obtain⟨Z,G⟩:=(J x.a _ (h.t.q x w).1 (show keyOf prog 3 (kv x.a)=_ by rw[hk];exact O)).1 i x hx rfl;obtain⟨b,cap,u,rfl,hu,Y,e1,e2,-,-⟩:=h1.cellsD hx;have hi:=(ae_.1 hx).1;have a0:(i:Int)<(T.length:Int):=M_;have c0:=h1.t.b.c0;have c2:=h1.t.b.c2;have c3:=h1.t.b.c3;have q0:=f.c0;have q1:=f.c1;have t0:=f.th 0;have t1:=f.th 1;have U:=((h.t.q x w).2.2.2);have s1:=λW a m=>run_store prog W a x.d m U.one;have F:=V_ w1 W.heap.size 0 1 (I_ x.n) x.d;have A:Blk ((w1.setCell ⟨W.heap.size,0,none⟩ (I_ x.n)).setCell ⟨W.heap.size,1,none⟩ x.d) W.heap.size [I_ x.n,x.d] 88:=(f.set 0 _).set 1 _;have r0:=A.c0;have r1:=A.c1;have fin:H_ (X (.returned (.agg #[I_ x.n,x.d])) ((w1.setCell ⟨W.heap.size,0,none⟩ (I_ x.n)).setCell ⟨W.heap.size,1,none⟩ x.d)):=zy (by
  rw[C.o]
  have a1:fb<tb/\tb<W.heap.size:=(h.t.li (x:=tb) (.inl rfl))
  exact⟨x,rfl,w,rfl,h1.put B (by show fb<_;omega) f F,⟨(z.mono v_).trans F (λy hy e=>M_),λ_ _ e=>e⟩⟩)
 have K:=H.keyed;generalize x.n=xn at *;generalize x.d=xd at *;generalize T.length=M at *;replace l:=zy l;replace G:=zy G;replace E:=zy E;go_in;go_upto_region 1 with fail;rw[<- l.o];go_wp2_with (first
  |(go_at_call 70;apply(yR (k:Int) _).mono;rintro e w2 ⟨rfl,S⟩;rw[S])
  |(at_lookup;refine wpList_lookup_own_ok_int _ rfl _ _ 194 rfl 3 3 .i64 K eS qz (Vt _) mb M D rfl E _ _ rfl O ?_;intro c hc a2;rw[G.o]at hc;simp only[DataW.lit.injEq,Lit.int.injEq,true_and]at hc;subst hc;rw[Z]))
 refine bodyPost_ret (v:=.agg #[I_ xn,xd]) (by simp[results,results78,go_sem,r0,r1]) rfl ?_;exact fin
def oe{r:ρ}{T:List (Rw α)}{a:α}(Y:(ID kv Q num N).OK)(B:P.OK (ID kv Q num N) ⟨fb,tb,mb,.func (.methodOf 53 "Place") #[] #[],.func (.func fn) #[fa] #[]⟩)(h:TbI P (ID kv Q num N) ⟨fb,tb,mb,.func (.methodOf 53 "Place") #[] #[],.func (.func fn) #[fa] #[]⟩ W r rv g T)(ha:Q a)(hq:P.QV W a [.iface uT ux])(hx:∀x∈T,x.a≠a)(hk:kv a=I_ k)(a3:keyOf prog 3 (I_ k)=some (.int .i64 (k:Int)))(hm:∀W,(method 525 uT ux "Place").run prog W=.ok (70,I_ k) W)(hT:T.length<=1000000)(Z:∀V b8,TbI P (ID kv Q num N) ⟨fb,tb,mb,.func (.methodOf 53 "Place") #[] #[],.func (.func fn) #[fa] #[]⟩ V r b8 g (T++[⟨a,[.iface uT ux],0,.nilIface⟩])->Calls prog 113 #[P_ tb,I_ T.length] V (uq P (ID kv Q num N) ⟨fb,tb,mb,.func (.methodOf 53 "Place") #[] #[],.func (.func fn) #[fa] #[]⟩ V r b8 g (T++[⟨a,[.iface uT ux],0,.nilIface⟩]) T.length)):Calls prog 78 #[P_ tb,.iface uT ux] W (vN P (ID kv Q num N) ⟨fb,tb,mb,.func (.methodOf 53 "Place") #[] #[],.func (.func fn) #[fa] #[]⟩ W r rv g T a):=by
 obtain⟨b9,Q_⟩:=y_ (vN P (ID kv Q num N) ⟨fb,tb,mb,.func (.methodOf 53 "Place") #[] #[],.func (.func fn) #[fa] #[]⟩ W r rv g T a)
 rw[<- Q_.o];obtain⟨w1,X⟩:=e_ (W.alloc (.cells #[O_,.nilIface] 88));have H:Fr W w1 N_:=by rw[X];exact(A_ W _).alloc _
 have B1:Blk w1 W.heap.size [O_,.nilIface] 88:=by rw[X];exact B_ W _ _
 have h1:=h.new B H;obtain⟨D,O,a1⟩:=h1.t.map;have a2:keyOf prog 3 (kv a)=some (.int .i64 (k:Int)):=by rw[hk];exact a3
 have hh:=(a1 a _ ha a2).2 hx
 have a5:∀x,TSS P ⟨fb,tb,mb,.func (.methodOf 53 "Place") #[] #[],.func (.func fn) #[fa] #[]⟩ rv r x->fb<x/\x<W.heap.size:=λx e=>h.li B e
 have e3:fb<tb/\tb<W.heap.size:=a5 tb (.inl (.inl rfl));obtain⟨a0,a7,a8⟩:=h1.t.apart Y;have a6:w1.ownsRow (fb+1) 260 3 rv T.length (T.flatMap Rw.cells):=h1.t.row;have hb:=h1.t.b;obtain⟨w,rc,rfl⟩:=zl a6;have c0:=hb.c0;have c2:=hb.c2;have c3:=hb.c3;obtain⟨ti,d8,d9,e0,e2⟩:=info_parts Fh;have push:H_ (∀l u A,l.ownsMap prog 3 (plainElem prog 3) mb (T.length+1) (D.put (.int .i64 (k:Int)) (.lit (.int .i64 (T.length:Int))))->w1.grownBy l (some mb)->(l.alloc (.cells #[.iface uT ux,O_,.nilIface] 260)).grownBy u (Value.slice w T.length rc).ownBlock->u.ownsRow (fb+1) 260 3 A (T.length+1) (T.flatMap Rw.cells++[.iface uT ux,O_,.nilIface])->(A.ownBlock=(Value.slice w T.length rc).ownBlock\/A.ownBlock=some (l.alloc (.cells #[.iface uT ux,O_,.nilIface] 260)).heap.size)->
  TbI P (ID kv Q num N) ⟨fb,tb,mb,.func (.methodOf 53 "Place") #[] #[],.func (.func fn) #[fa] #[]⟩ (u.setCell ⟨tb,2,none⟩ A) r A g (T++[⟨a,[.iface uT ux],0,.nilIface⟩])/\Stp W (u.setCell ⟨tb,2,none⟩ A) (TSS P ⟨fb,tb,mb,.func (.methodOf 53 "Place") #[] #[],.func (.func fn) #[fa] #[]⟩ (.slice w T.length rc) r) (TSS P ⟨fb,tb,mb,.func (.methodOf 53 "Place") #[] #[],.func (.func fn) #[fa] #[]⟩ A r)/\Blk (u.setCell ⟨tb,2,none⟩ A) W.heap.size [O_,.nilIface] 88/\¬TSS P ⟨fb,tb,mb,.func (.methodOf 53 "Place") #[] #[],.func (.func fn) #[fa] #[]⟩ A r W.heap.size):=zy (λl u A F C k3 k4 k5=>by
  obtain⟨p1,p2⟩:=h1.t.push Y (r:=⟨a,[.iface uT ux],0,.nilIface⟩) ⟨ha,rfl,by show(0:Nat)<=301;omega,.inl rfl⟩ hx a2 a1 O.isMap F C ((A_ l _).alloc _) k3 k4 (k5.imp id (λe=>⟨_,e,l_⟩))
  have p3:=h1.turn B p2 p1 (λy hy=>by
   rcases a2_.1 hy with hy|hy
   .exact .inl hy
   .simp only[a1_]at hy
    subst hy
    exact .inr ⟨B.z _ _ _,B.qv _ _ _ _ _ (B.qv _ _ _ _ _ hq H (λ_ f=>f.elim)) p2.1 (λy hy=>(h1.t.li hy).1)⟩)
  have p4:=p3.2.1.bl B1 (λe=>absurd (a5 _ e).2 (a3_ _))
  exact⟨p3.1,(E_ H (λ_ h=>h)).trans p3.2,p4,λe=>e.elim (p1.other p4 (Ne.symm B.tt.1) (Ne.symm B.tt.2)) (λe=>absurd (B.rs _ _ _ h.i e).2 (a3_ _))⟩)
 have cel:H_ (∀l,w1.grownBy l (some mb)->l.cell? ⟨tb,2,none⟩=some (.slice w T.length rc)/\l.frozen? ⟨tb,2,none⟩=false/\l.ownsRow (fb+1) 260 3 (.slice w T.length rc) T.length (T.flatMap Rw.cells)/\fb+1<=l.heap.size/\tb<l.heap.size):=zy (λl hg=>by
  have f:=(A_ w1 (λx=>x=mb)).gw hg (λk e _=>by simpa using e.symm)
  have b2:=f.bl hb a0
  have z:=f.size
  have z1:=H.size
  have G:=b2.c2
  exact⟨G,b2.th 2,zj a6 f (λx e k=>a8 (by rw[e,show x=mb from k])),M_,b2.lt⟩)
 have a9:H_ (∀l u:World,w1.grownBy l (some mb)->(l.alloc (.cells #[.iface uT ux,O_,.nilIface] 260)).grownBy u (Value.slice w T.length rc).ownBlock->u.cell? ⟨tb,2,none⟩=some (.slice w T.length rc)/\u.frozen? ⟨tb,2,none⟩=false):=zy (λl u hg U=>by
  have f:=(A_ w1 (λx=>x=mb)).gw hg (λk e _=>by simpa using e.symm)
  have f5:=((A_ l (λx=>(Value.slice w T.length rc).ownBlock=some x)).alloc (.cells #[.iface uT ux,O_,.nilIface] 260)).gw U (λk e _=>e)
  have b2:=f5.bl (f.bl hb a0) a7
  have G:=b2.c2
  exact⟨G,b2.th 2⟩)
 have fin:H_ (∀V r' rv' g' T' (y:Rw α) V1,TbI P (ID kv Q num N) ⟨fb,tb,mb,.func (.methodOf 53 "Place") #[] #[],.func (.func fn) #[fa] #[]⟩ V r' rv' g' T'->Stp W V (TSS P ⟨fb,tb,mb,.func (.methodOf 53 "Place") #[] #[],.func (.func fn) #[fa] #[]⟩ (.slice w T.length rc) r) (TSS P ⟨fb,tb,mb,.func (.methodOf 53 "Place") #[] #[],.func (.func fn) #[fa] #[]⟩ rv' r')->Grw P.Cl T T' g g'->y∈T'->y.a=a->Blk V W.heap.size [O_,.nilIface] 88->V1=(V.setCell ⟨W.heap.size,0,none⟩ (I_ y.n)).setCell ⟨W.heap.size,1,none⟩ y.d->b9 (.returned (.agg #[I_ y.n,y.d])) V1):=zy (λV r' rv' g' T' y V1 F C k3 k4 k5 k6 k7=>by
  rw[Q_.o,k7]
  have hF:=V_ V W.heap.size 0 1 (I_ y.n) y.d
  exact⟨r',rv',g',T',y,rfl,k4,k5,F.put B (by show fb<_;omega) k6 hF,⟨C.1.trans hF (λy hy e=>M_),C.2⟩,k3⟩)
 replace Z:=zy Z;have K:=Y.keyed;have d7:H_ ((Value.slice w T.length rc).ownBlock=(Value.slice w T.length rc).ownBlock):=zy rfl;generalize S:T.length=M at *;replace S:=zy S;replace X:=zy X;replace O:=zy O;generalize T.flatMap Rw.cells=CS at *;go_in;go_upto_region 1 with fail;rw[<- X.o];go_wp2_with (first
  |(go_at_call 70;apply(yR (k:Int) _).mono;rintro e l ⟨rfl,b5⟩;rw[b5])
  |(at_lookup;refine wpList_lookup_own_ok_int _ rfl _ _ 194 rfl 3 3 .i64 K eS qz (Vt _) mb M D rfl O _ _ rfl a3 ?_;intro c hc e6;rw[hh])
  |(at_mapUpdate;refine wpList_mapUpdate_own _ rfl _ _ _ 194 rfl 3 3 K eS (plainElem prog 3) mb M D rfl O (by unfold maxLen;omega) _ _ _ rfl rfl a3 _ [] (plainElem_int qz (WalkArith.wf_i64 M_)) ?_;intro l F C;obtain⟨G,f2,o2,z2,y2⟩:=cel.o l C;revert F C o2;refine h_ λF C o2=>?_)
  |(at_builtin;go_must (refine wpList_append_own_at _ rfl _ _ 195 rfl (fb+1) 260 ti _ 3 40 Km d8 d9 e0 e2 rfl D_ (.slice w M rc) M CS rfl ?hown _ 1 1 [.iface uT ux,O_,.nilIface] rfl rfl (zN _ #[.iface uT ux,O_,.nilIface] _ _ ?nn) ?one ?b1 ?b2 ?b3 ?_)
    case hown=>exact World.ownsRow.alloc o2 _
    case nn=>simp
    case one=>simp[Value.oneCell']
    case b1=>unfold maxLen;omega
    case b2=>omega
    case b3=>simp;omega
    intro A u a4 U e4 b4
    obtain⟨e5,f5⟩:=a9.o l u C U
    have hp:=push.o l u A F C U a4 b4
    obtain⟨g5,e7,rfl⟩:=zm a4 M_
    replace hp:=zy hp)
  |(go_at_call 113;apply(Z.o _ _ hp.o.1).mono;rintro e w7 ⟨r7,e9,g7,T7,rfl,J,s7,l7⟩;rw[<- S.o]at l7;obtain⟨G7,y,hy,b6⟩:=l7.grw;have E:=s7.1.bl hp.o.2.2.1 hp.o.2.2.2;obtain⟨b7,e8,u7,rfl,-,-,e1,G,-,-⟩:=J.cellsD hy;have i7:(M:Int)<(T7.length:Int):=(by have:=(ae_.1 hy).1;rw[S.o]at this;omega);rw[S.o]at e1 G;have d2:=J.t.b.c2;have q0:=E.c0;have q1:=E.c1;have t0:=E.th 0;have t1:=E.th 1;have s1:=λW a m=>run_store prog W a y.d m ((J.t.q y (aj_ hy)).2.2.2).one;have B8:Blk ((w7.setCell ⟨W.heap.size,0,none⟩ (I_ y.n)).setCell ⟨W.heap.size,1,none⟩ y.d) W.heap.size [I_ y.n,y.d] 88:=(E.set 0 _).set 1 _;have r0:=B8.c0;have r1:=B8.c1;have d6:=zy (λV1=>fin.o w7 r7 _ g7 T7 y V1 J (hp.o.2.1.trans s7) G7 (aj_ hy) b6 E);generalize y.n=yn at *;generalize y.d=yd at *;generalize T7.length=M7 at *))
 refine bodyPost_ret (v:=.agg #[I_ yn,yd]) (by simp[results,results78,go_sem,r0,r1]) rfl ?_;exact d6.o _ rfl
def FO(kv:α->Value)(a:α)(v:List Value):Prop:=∃uT ux k,v=[.iface uT ux]/\kv a=z_ ((k:Nat):Int)/\k<=1000000/\∀W,(method 525 uT ux "Place").run prog W=.ok (70,I_ k) W
def bH{r:ρ}{T:List (Rw α)}{a:α}{v:List Value}(b:(ID kv Q num N).OK)(c:P.OK (ID kv Q num N) ⟨fb,tb,mb,.func (.methodOf 53 "Place") #[] #[],.func (.func fn) #[fa] #[]⟩)(f:∀W a v,P.QV W a v->FO kv a v)(h:TbI P (ID kv Q num N) ⟨fb,tb,mb,.func (.methodOf 53 "Place") #[] #[],.func (.func fn) #[fa] #[]⟩ W r rv g T)(hv:P.QV W a v)(ha:a∈T.map Rw.a):Calls prog 78 #[P_ tb,v.headD .nilIface] W (lW P (ID kv Q num N) ⟨fb,tb,mb,.func (.methodOf 53 "Place") #[] #[],.func (.func fn) #[fa] #[]⟩ W r rv g T a):=by
 obtain⟨uT,ux,k,rfl,hk,o,e⟩:=f W a v hv;obtain⟨x,l,rfl⟩:=ay_.1 ha;obtain⟨i,hi⟩:=a5_ l;exact od b c h hi hk (Maps.keyOf_int_mk qz (WalkArith.wf_i64 M_)) e
def cq19_{p:Prop}(h:p:=by
 intro W r rv g T a v h ha hv hm;(first|(have:=cc1;obtain⟨uT,ux,uT',ux',k,G,rfl,hk,D,C,z,o⟩:=hq W a v hv)|(obtain⟨uT,ux,k,rfl,hk,z,o⟩:=hq W a v hv));(first|(have:=cc1;obtain⟨A,E⟩:=mq D C)|(have A:keyOf prog 3 (I_ k)=some (.int .i64 (k:Int)):=Maps.keyOf_int_mk qz (WalkArith.wf_i64 M_)));have hf:=kS Iok h.t.nd (λx hx=>(h.t.q x hx).1);by_cases hx:∀x∈T,x.a≠a
 .have F:=uD Iok h.t.nd (λx hx=>(h.t.q x hx).1) ha hx;obtain⟨c,rfl⟩:∃c,m=c+1:=⟨m-1,by
   have:N<=T.length+m:=hm
   have:T.length<N:=F
   omega⟩
  first
   |have:=cc1
    exact oh Iok O h ha hv hx hk E z o (ak_ hf hN) (λV y b=>Gy Iok O (λw n m dv kv=>jJ) hfn b (x:=⟨a,[.iface uT ux,.iface uT' ux'],0,.nilIface⟩) (by simp) (λW' u u' l e=>by
     cases e
     exact hF c rfl W' r y g _ a [.iface uT ux,.iface uT' ux'] (b.new O l) ha (O.qv _ _ _ _ _ (b.v ⟨a,[.iface uT ux,.iface uT' ux'],0,.nilIface⟩ (by simp)).2 l (λ_ f=>f.elim)) (by
      have:N<=T.length+(c+1):=hm
      show N<=_
      simp
      omega)))
   |exact oe Iok O h ha hv hx hk A o (ak_ hf hN) (λV y b=>Gx Iok O (λw n m dv kv=>jJ) hfn b (x:=⟨a,[.iface uT ux],0,.nilIface⟩) (by simp) (λW' u l e=>by
     cases e
     exact hF c rfl W' r y g _ a [.iface uT ux] (b.new O l) ha (O.qv _ _ _ _ _ (b.v ⟨a,[.iface uT ux],0,.nilIface⟩ (by simp)).2 l (λ_ f=>f.elim)) (by
      have:N<=T.length+(c+1):=hm
      show N<=_
      simp
      omega)))
 .simp only[ne_eq,Classical.not_forall,Classical.not_not]at hx;obtain⟨x,B,rfl⟩:=hx;(first|(have:=cc1;exact(bL O hq h hv (ay_.2 ⟨x,B,rfl⟩)).mono (λe w' q=>q.post))|(exact(bH Iok O hq h hv (ay_.2 ⟨x,B,rfl⟩)).mono (λe w' q=>q.post)))):p:=h
def rp(Iok:(ID kv Q num N).OK)(O:P.OK (ID kv Q num N) ⟨fb,tb,mb,.func (.methodOf 53 "Place") #[] #[],.func (.func fn) #[fa] #[]⟩)(hfn:∀args W,(callFunc fn args).run prog W=.ok (.enter fn args) W)(hq:∀W a v,P.QV W a v->FO kv a v)(hN:N<=1000000)(hF:∀m',m=m'+1->FOK P (ID kv Q num N) ⟨fb,tb,mb,.func (.methodOf 53 "Place") #[] #[],.func (.func fn) #[fa] #[]⟩ fn fa (λv=>v.headD .nilIface) m'):KOK P (ID kv Q num N) ⟨fb,tb,mb,.func (.methodOf 53 "Place") #[] #[],.func (.func fn) #[fa] #[]⟩ 78 (λv=>v.headD .nilIface) m:=by
 exact cq19_
end
section
variable {α ρ:Type} {P:TP α ρ} {kv:α->Value} {Q:α->Prop} {num:α->Nat} {N fb tb mb:Nat} {kf ff:Value}
def VI{W:World}{r:ρ}{rv:Value}{T:List (Rw α)}{a:α}{uT:TypeId}{ux:Value}(a3:(ID kv Q num N).OK)(F:P.OK (ID kv Q num N) ⟨fb,tb,mb,kf,ff⟩)(h:TbI P (ID kv Q num N) ⟨fb,tb,mb,kf,ff⟩ W r rv false T)(hG:Gd P.Cl T)(hq:P.QV W a [.iface uT ux])(hN:N<=1000000)(hK:∀V,Fr W V N_->Calls prog 78 #[P_ tb,.iface uT ux] V (vN P (ID kv Q num N) ⟨fb,tb,mb,kf,ff⟩ V r rv false T a))(a1:∀V r rv g T,TbI P (ID kv Q num N) ⟨fb,tb,mb,kf,ff⟩ V r rv g T->P.QV V a [.iface uT ux]->a∈T.map Rw.a->Calls prog 78 #[P_ tb,.iface uT ux] V (lW P (ID kv Q num N) ⟨fb,tb,mb,kf,ff⟩ V r rv g T a))(hL:∀V r rv g T i x,TbI P (ID kv Q num N) ⟨fb,tb,mb,kf,ff⟩ V r rv g T->T[i]?=some x->Calls prog 113 #[P_ tb,z_ ((i:Nat):Int)] V (uq P (ID kv Q num N) ⟨fb,tb,mb,kf,ff⟩ V r rv g T i)):Calls prog 121 #[P_ tb,.iface uT ux] W (uy P (ID kv Q num N) ⟨fb,tb,mb,kf,ff⟩ W r rv a):=by
 obtain⟨a6,Q_⟩:=y_ (uy P (ID kv Q num N) ⟨fb,tb,mb,kf,ff⟩ W r rv a);rw[<- Q_.o];obtain⟨w1,O⟩:=e_ (W.alloc (.cells #[O_,.nilIface] 88));have A1:Fr W w1 N_:=by rw[O];exact(A_ W _).alloc _
 have B1:Blk w1 W.heap.size [O_,.nilIface] 88:=by rw[O];exact B_ W _ _
 have K:∀x,TSS P ⟨fb,tb,mb,kf,ff⟩ rv r x->fb<x/\x<W.heap.size:=λx e=>h.li F e;have a0:fb<tb/\tb<W.heap.size:=K tb (.inl (.inl rfl));have few:H_ (∀V r rv g (T:List (Rw α)),TbI P (ID kv Q num N) ⟨fb,tb,mb,kf,ff⟩ V r rv g T->T.length<=N):=zy (λ_ _ _ _ _ h=>kS a3 h.t.nd (λx hx=>(h.t.q x hx).1));have start:H_ (∀G r' rv' g' T' (x:Rw α),x∈T'->x.a=a->TbI P (ID kv Q num N) ⟨fb,tb,mb,kf,ff⟩ G r' rv' g' T'->Stp w1 G (TSS P ⟨fb,tb,mb,kf,ff⟩ rv r) (TSS P ⟨fb,tb,mb,kf,ff⟩ rv' r')->Grw P.Cl T T' false g'->kW P (ID kv Q num N) ⟨fb,tb,mb,kf,ff⟩ W r rv a G r' rv' g' T'/\(g'=false->Gd P.Cl T')):=zy (λG r' rv' g' T' x c S A B k5=>by
  have hb:=B.1.bl B1 (λe=>absurd (K _ e).2 (a3_ _))
  refine⟨⟨A,(E_ A1 (λ_ h=>h)).trans B,ay_.2 ⟨x,c,S⟩,hb,λe=>absurd (K _ (B.2 _ B1.lt e)).2 (a3_ _)⟩,λe y hy=>?_⟩
  obtain⟨R,rfl,_,_,h3⟩:=k5
  rcases a2_.1 hy with hy|hy
  .exact(hG y hy).more F.mono R
  .exact h3 e y hy)
 have step:H_ (∀V r' rv' g' T' V2 C D z l i,kW P (ID kv Q num N) ⟨fb,tb,mb,kf,ff⟩ W r rv a V r' rv' g' T'->TbI P (ID kv Q num N) ⟨fb,tb,mb,kf,ff⟩ V2 C D z l->Stp V V2 (TSS P ⟨fb,tb,mb,kf,ff⟩ rv' r') (TSS P ⟨fb,tb,mb,kf,ff⟩ D C)->Lk P.Cl T' l g' z i->kW P (ID kv Q num N) ⟨fb,tb,mb,kf,ff⟩ W r rv a V2 C D z l):=zy (λV r' rv' g' T' V2 C D z l i c S A B=>
  ⟨S,c.s.trans A,B.mem c.a,A.1.bl c.b c.n,λe=>c.n (A.2 _ c.b.lt e)⟩)
 have flag:H_ (∀V r' rv' g' T' u,kW P (ID kv Q num N) ⟨fb,tb,mb,kf,ff⟩ W r rv a V r' rv' g' T'->kW P (ID kv Q num N) ⟨fb,tb,mb,kf,ff⟩ W r rv a (V.setCell ⟨tb,4,none⟩ (.bool u)) r' rv' u T'):=zy (λV r' rv' g' T' u c=>by
  have J:Fr V (V.setCell ⟨tb,4,none⟩ (.bool u)) (TbS tb mb rv'):=(Y_ V ⟨tb,4,none⟩ (.bool u)).mono (λx _ e=>.inl e)
  have h3:=c.i.turn F (rv':=rv') ⟨J,λ_ _ h=>h⟩ (c.i.t.flag a3 u) (λy hy=>.inl hy)
  exact⟨h3.1,c.s.trans h3.2,c.a,J.bl c.b (λe=>c.n (.inl e)),c.n⟩)
 have fin:H_ (∀V r' rv' T' (y:Rw α) V1,kW P (ID kv Q num N) ⟨fb,tb,mb,kf,ff⟩ W r rv a V r' rv' false T'->Gd P.Cl T'->y∈T'->y.a=a->∀H,TbI P (ID kv Q num N) ⟨fb,tb,mb,kf,ff⟩ H r' rv' false T'->Stp V H (TSS P ⟨fb,tb,mb,kf,ff⟩ rv' r') (TSS P ⟨fb,tb,mb,kf,ff⟩ rv' r')->V1=(H.setCell ⟨W.heap.size,0,none⟩ (I_ y.n)).setCell ⟨W.heap.size,1,none⟩ y.d->a6 (.returned (.agg #[I_ y.n,y.d])) V1):=zy (λV r' rv' T' y V1 c S A B H k5 k6 k7=>by
  rw[Q_.o,k7]
  have J:=V_ H W.heap.size 0 1 (I_ y.n) y.d
  have hb:=k6.1.bl c.b c.n
  exact⟨r',rv',T',y,rfl,A,B,k5.put F (by show fb<_;omega) hb J,⟨(c.s.trans k6).1.trans J (λy hy e=>M_),(c.s.trans k6).2⟩,S⟩)
 have qv:H_ (∀V r' rv' g' T',kW P (ID kv Q num N) ⟨fb,tb,mb,kf,ff⟩ W r rv a V r' rv' g' T'->P.QV V a [.iface uT ux]):=zy (λV r' rv' g' T' k=>F.qv _ _ _ _ _ hq k.s.1 (λx hx=>(K x hx).1));have a8:=zy (hK w1 A1);replace a1:=zy a1;replace hL:=zy hL;replace O:=zy O;go_in;go_upto_region 1 with fail;rw[<- O.o];go_wp2_with (go_at_call 78;apply a8.o.mono;rintro e G ⟨C,D,z,l,x2,rfl,x3,x4,h2,s2,G2⟩;obtain⟨X,U⟩:=start.o G C D z l x2 x3 x4 h2 s2 G2;replace X:=zy X;replace U:=zy U);go_loopg [] (phi N l+1) (λm V=>∃r' rv' g' T',H_ (kW P (ID kv Q num N) ⟨fb,tb,mb,kf,ff⟩ W r rv a V r' rv' g' T')/\H_ (g'=false->Gd P.Cl T')/\(g'=true->phi N T'<m));case atStart=>exact⟨C,D,z,l,X,U,λ_=>M_⟩
 case round=>
  obtain⟨r3,b4,g3,w,f,H3,a2⟩:=hrel;have c4:=f.o.i.t.b.c4;have t4:=f.o.i.t.b.th 4;cases g3
  .have a5:=zy (H3.o rfl);go_wp2_with (go_at_call 78;apply(a1.o _ _ _ _ _ f.o.i (qv.o _ _ _ _ _ f) f.o.a).mono;rintro e w5 ⟨y,rfl,y1,y2,h5,s5⟩;have E:=s5.1.bl f.o.b f.o.n;have q0:=E.c0;have q1:=E.c1;have z0:=E.th 0;have z1:=E.th 1;have s1:=λW a m=>run_store prog W a y.d m ((h5.t.q y y1).2.2.2).one;have Z:Blk ((w5.setCell ⟨W.heap.size,0,none⟩ (I_ y.n)).setCell ⟨W.heap.size,1,none⟩ y.d) W.heap.size [I_ y.n,y.d] 88:=(E.set 0 _).set 1 _;have x0:=Z.c0;have x1:=Z.c1;have a7:=zy (λV1=>fin.o _ r3 b4 w y V1 f a5 y1 y2 w5 h5 s5);generalize y.n=yn at *;generalize y.d=yd at *);refine bodyPost_ret (v:=.agg #[I_ yn,yd]) (by simp[results,results121,go_sem,x0,x1]) rfl ?_;exact a7.o _ rfl
  .have hm:=a2 rfl;have Y:=zy (flag.o _ _ _ _ _ false f);obtain⟨ra,rc,rfl⟩:=zl f.o.i.t.row;have c2:=Y.o.i.t.b.c2;have b5:=few.o _ _ _ _ _ Y.o.i;have a4:H_ (SIn P.Cl N w.length 0 (phi N w) false w):=zy ⟨l_,l_,λe=>(by cases e),λ_ i x hx hi=>by
    have:=(ae_.1 hx).1
    omega⟩
   generalize hM:w.length=M at *;replace hM:=zy hM;go_wp2;go_loopg [21] (M+1) (λm v V=>∃j:Nat,∃r' rv' g' T',v=I_ j/\j<=M/\M+1-j<=m/\H_ (kW P (ID kv Q num N) ⟨fb,tb,mb,kf,ff⟩ W r rv a V r' rv' g' T')/\H_ (SIn P.Cl N M j (phi N w) g' T'));case atStart=>exact⟨0,_,_,_,_,rfl,al_ _,M_,Y,a4⟩
   case round=>
    obtain⟨j,r5,b7,g5,T5,rfl,hj,b6,Z,E⟩:=hrel;by_cases a0:j<M
    .have a9:(j:Int)<(M:Int):=M_;obtain⟨x,hx⟩:∃x,T5[j]?=some x:=⟨_,af_ (bb_ a0 E.o.1)⟩;replace hx:=zy hx;go_wp2_with (go_at_call 113;apply(hL.o _ _ _ _ _ j x Z.o.i hx).mono;rintro e w6 ⟨r6,b8,g6,T6,rfl,h6,s6,l6⟩;have S6:=zy (step.o _ _ _ _ _ _ _ _ _ _ _ Z h6 s6 l6);have I6:=zy (E.o.step F.mono l6 (few.o _ _ _ _ _ h6) (λy hy=>(Z.o.i.t.q y hy).2.2.1) (λy hy=>(h6.t.q y hy).2.2.1)));go_roundg (M+1-(j+1));case measure=>omega
     case rel=>exact⟨j+1,_,_,_,_,by simp,a0,l_,S6,I6⟩
    .have a9:¬((j:Int)<(M:Int)):=M_;obtain rfl:j=M:=M_;have nx:H_ (g5=false->Gd P.Cl T5):=zy (λe y hy=>by
      obtain⟨i,hi⟩:=a5_ hy
      exact E.o.2.2.2 e i y hi M_)
     have np:=E.o.2.2.1;go_wp2;go_roundg (phi N w);case measure=>exact hm
     case rel=>exact⟨_,_,_,_,Z,nx,np⟩
end
end Go.Proofs.YtjkiencmjggakaaGreatDoor
