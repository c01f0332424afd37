import Derived.Test.YtlmebjdmdogmfaaGreatDoorW24
set_option linter.unusedVariables false
set_option maxHeartbeats 16000000
set_option maxRecDepth 100000
set_option linter.defProp false
set_option linter.unusedSimpArgs false
open Go.Proofs.Tryz
namespace Go.Proofs.YtlmebjdmdogmfaaGreatDoor
open Go.RowKit
variable {W W':Aw}{g g':Aq}{rv d v rv' ux:Ax}{n q i k:Nat}{t:PT}{cs:Ay}{S:Az}{s:BA}
def uP{α β:Type}{g:α->Option β}:∀{l:List α},vm g l=none->∃a∈l,g a=none
 | [],h=>by simp[vm]at h
 |a::r,h=>by
  unfold vm at h;cases hg:g a with
  |none=>exact⟨a,by simp,hg⟩
  |some b=>
   rw[hg]at h;simp only at h;cases hr:vm g r with
   |none=>obtain⟨x,hx,e⟩:=uP hr;exact⟨x,by simp[hx],e⟩
   |some l=>rw[hr]at h;cases h
def Wx{ew er:Au}{df:Dm}(z:∀c fs g,er c=some (.recd fs)->g∈fs->df g=none->g.dflt=none){R:Dp}{r y:PT}{d:DT}(hd:Dat ew d t)(w:∀u u' x,ndT x<ndT d->Dat ew x u->R u u' x=none->Un ew er u u' x)(hv:Via ew er t y r)(hm:xi ew er t r=true)(h:mkB R ew er df t r d=none):Un ew er t y d:=by
 cases t with
 |alts p l=>simp[xi]at hm
 |wrap c p u=>
  cases r with
  |leaf c' p'=>simp[xi]at hm
  |alts p' l'=>simp[xi]at hm
  |wrap c' p' u'=>
   obtain rfl:c=c':=by simpa[xi] using hm
   obtain⟨k,n,tx,ks,ds⟩:=d;simp only[mkB,Option.map_eq_none_iff]at h;obtain⟨x,hx,e⟩:=uP h;have B:Dat ew x u:=by
    cases hd with
    |list _ hds=>exact hds x hx
    |map _ _ _ hds=>exact hds x hx
   have:=KA hx;exact .items hv hd hx (w _ _ _ (by rw[yN];omega) B e)
 |leaf c p=>
  cases r with
  |alts p' l'=>simp[xi]at hm
  |wrap c' p' u'=>simp[xi]at hm
  |leaf c' p'=>
   simp only[xi]at hm;by_cases hb:zi c=true
   .obtain⟨k,n,tx,ks,ds⟩:=d;simp[mkB,hb]at h
   .have a:zi c=false:=by simpa using hb
    rw[n_ hb]at hm;simp only[az_,beq_iff_eq]at hm;obtain⟨rfl,hm⟩:=hm;have f:=xg a;cases hd with
    |null=>exact absurd rfl f.1
    |bool=>exact absurd rfl f.2.1
    |num=>exact absurd rfl f.2.2.1
    |long=>exact absurd rfl f.2.2.2.1
    |text=>exact absurd rfl f.2.2.2.2
    |bytes he hi hx=>
     rw[he]at hm;cases hr:er c with
     |none=>rw[hr]at hm;cases hm
     |some b=>
      rw[hr]at hm;cases b with
      |recd fs=>simp[vf]at hm
      |enum l o=>simp[vf]at hm
      |bytes n=>simp[mkB,a,he,hr]at h
    |sym he hi hn=>
     rename_i n lw ow;rw[he]at hm;cases hr:er c with
     |none=>rw[hr]at hm;cases hm
     |some b=>
      rw[hr]at hm;cases b with
      |recd fs=>simp[vf]at hm
      |bytes n=>simp[vf]at hm
      |enum lr o=>
       simp only[mkB,a,he,hr,bh_,if_false,Option.map_eq_none_iff,bx_]at h;exact .sym hv a he hr hn h
    |recd he hi hl hds=>
     rename_i fw ds;rw[he]at hm;cases hr:er c with
     |none=>rw[hr]at hm;cases hm
     |some b=>
      rw[hr]at hm;cases b with
      |enum l o=>simp[vf]at hm
      |bytes n=>simp[vf]at hm
      |recd fr=>
       simp only[mkB,a,he,hr,bh_,if_false,Option.map_eq_none_iff]at h;obtain⟨g,hg,e⟩:=uP h;have m:Dat ew (.mk 114 0 noB [] ds) (.leaf c p):=.recd he hi hl hds;unfold mkF at e;cases hx:vV fw g.letter with
       |none=>
        rw[hx]at e;exact .lack hv a he hr m hg hx (z _ _ _ hr hg e)
       |some i=>
        rw[hx]at e;simp only at e;have A:i<fw.length:=by
         unfold vV at hx;have:=(List.findIdx?_eq_some_iff_getElem.1 hx).1;simpa using this
        have hf:=ai_ A;have j:=ai_ (show i<ds.length by omega);rw[hf,j]at e;simp only at e;have C:(fw.map PF.ty)[i]?=some fw[i].ty:=zn_
        have:=KA (ah_ j);exact .field hv a he hr m hg hx hf j (w _ _ _ (by rw[yN];omega) (hds _ _ _ j C) e)
def PP{ew er:Au}{df:Dm}(b:∀c fs g,er c=some (.recd fs)->g∈fs->df g=none->g.dflt=none):∀(f:Nat) (t t':PT) (d:DT),ndT d<=f->Dat ew d t->mkP ew er df f t t' d=none->Un ew er t t' d
 | 0,t,t',d,hf,_,_=>by obtain⟨k,n,tx,ks,ds⟩:=d;rw[yN]at hf;omega
 |f+1,t,t',d,hf,hd,h=>by
  have a:∀u u' x,ndT x<ndT d->Dat ew x u->mkP ew er df f u u' x=none->Un ew er u u' x:=λu u' x hx y e=>PP b f u u' x M_ y e;have flat:t.isAlts=false->mkP ew er df (f+1) t t' d=none->Un ew er t t' d:=λm h=>by
   have key:(match t' with
    | .alts _ rs=>match xZ ew er t rs 0 none with
     |none=>none
     |some k=>match rs[k]? with|none=>none|some r1=>(mkB (mkP ew er df f) ew er df t r1 d).map (λx=>DT.mk 40 (k:Int) noB [] [x])
    |r=>if xi ew er t r=true then mkB (mkP ew er df f) ew er df t r d else none)=none:=by
    cases t with
    |alts p l=>simp[PT.isAlts]at m
    |leaf c p=>exact h
    |wrap c p u=>exact h
   have one:t'.isAlts=false->(if xi ew er t t'=true then mkB (mkP ew er df f) ew er df t t' d else none)=none->Un ew er t t' d:=λo e=>by
    split at e
    .rename_i hm;exact Wx b hd a (.inl ⟨o,rfl⟩) hm e
    .rename_i hm;exact .never m (.inl ⟨o,by simpa using hm⟩) hd
   cases t' with
   |leaf c p=>exact one rfl key
   |wrap c p u=>exact one rfl key
   |alts p rs=>
    simp only at key;cases hp:xZ ew er t rs 0 none with
    |none=>exact .never m (.inr ⟨p,rs,rfl,hp⟩) hd
    |some k=>
     obtain⟨r1,h1,hm⟩:=af rs 0 none rs (λj z=>by cases z) (λj=>by rw[bu_]) k hp;rw[hp]at key;simp only[h1,Option.map_eq_none_iff]at key;exact Wx b hd a (.inr ⟨p,rs,k,rfl,hp,h1⟩) hm key
  cases t with
  |leaf c p=>exact flat rfl h
  |wrap c p u=>exact flat rfl h
  |alts p l=>
   cases hd with
   |alts hn hl hd1=>
    rename_i n u d1;simp only[mkP,bx_,hl]at h;have w:za [d1]=ndT d1:=by simp[za]
    exact .alts0 hn hl (a _ _ _ (by rw[yN,w];omega) hd1 h)
def Fr.ke{w w':Aw}(h:Fr w w' N_){a:Addr}(hc:w.cell? a=some v):w'.cell? a=some v:=(World.cell?_of_block (h.block a.block (World.block_lt_of_cell? w a hc) id)).trans hc
def Fr.keepF{w w':Aw}(h:Fr w w' N_){a:Addr}(hc:w.cell? a=some v)(hz:w.frozen? a=false):w'.frozen? a=false:=(World.frozen?_of_block (h.block a.block (World.block_lt_of_cell? w a hc) id)).trans hz
structure TP(α ρ:Type) where
 RI:World->ρ->Prop
 RS:ρ->Nat->Prop
 SV:World->(Nat->Prop)->α->Nat->Value->Prop
 QV:World->α->List Value->Prop
 Cl:List (Rw α)->α->Nat->Prop
structure TL where
 fb:Nat
 tb:Nat
 mb:Nat
 kf:Value
 ff:Value
structure TP.OK{α ρ:Type}(P:TP α ρ)(I:TI α)(L:TL):Prop where
 rs:∀W r x,P.RI W r->P.RS r x->L.fb<x/\x<W.heap.size
 rfr:∀W W' r rv g T,P.RI W r->TbW I L.fb L.tb L.mb L.kf L.ff W rv g T->Fr W W' (TbS L.tb L.mb rv)->P.RI W' r
 rnew:∀W W' r,P.RI W r->Fr W W' N_->P.RI W' r
 sv:∀W W' S S' a n d,P.SV W (λx=>¬S x) a n d->Stp W W' S S'->P.SV W' (λx=>¬S' x) a n d
 qv:∀W W' S a v,P.QV W a v->Fr W W' S->(∀x,S x->L.fb<x)->P.QV W' a v
 mono:Qi P.Cl
 z:∀W J a,P.SV W J a 0 .nilIface
 put:∀W W' r q cs,L.fb<q->P.RI W r->Blk W q cs 85->Fr W W' (λx=>x=q)->P.RI W' r
 svp:∀W W' J a n d q cs,P.SV W J a n d->Blk W q cs 85->Fr W W' (λx=>x=q)->P.SV W' J a n d
 tt:I.TT≠85/\I.RT≠85
section
variable {α ρ:Type} {P:TP α ρ} {I:TI α} {L:TL}
def TSS(P:TP α ρ)(L:TL)(rv:Ax)(r:ρ)(x:Nat):Prop:=TbS L.tb L.mb rv x\/P.RS r x
structure TbI(P:TP α ρ)(I:TI α)(L:TL)(W:Aw)(r:ρ)(rv:Ax)(g:Aq)(T:List (Rw α)):Prop where
 i:P.RI W r
 t:TbW I L.fb L.tb L.mb L.kf L.ff W rv g T
 v:∀x∈T,P.SV W (λy=>¬TSS P L rv r y) x.a x.n x.d/\P.QV W x.a x.v
def yB(P:TP α ρ)(I:TI α)(L:TL)(W:Aw)(r:ρ)(rv:Ax)(g:Aq)(T:List (Rw α))(a:α)(e:Ak)(W':Aw):Prop:=
 ∃r' rv' g' T' n d,e=.returned (.agg #[Z_ ((n:Nat):Int),d])/\n<=301/\IfV d/\TbI P I L W' r' rv' g' T'/\Stp W W' (TSS P L rv r) (TSS P L rv' r')/\Grw P.Cl T T' g g'/\P.Cl T' a n/\P.SV W' (λy=>¬TSS P L rv' r' y) a n d
def ju(P:TP α ρ)(I:TI α)(L:TL)(W:Aw)(r:ρ)(rv:Ax)(g:Aq)(T:List (Rw α))(a:α)(e:Ak)(W':Aw):Prop:=
 ∃r' rv' g' T' x,e=.returned (.agg #[Z_ ((x.n:Nat):Int),x.d])/\x∈T'/\x.a=a/\TbI P I L W' r' rv' g' T'/\Stp W W' (TSS P L rv r) (TSS P L rv' r')/\Grw P.Cl T T' g g'
def tZ(P:TP α ρ)(I:TI α)(L:TL)(W:Aw)(r:ρ)(rv:Ax)(g:Aq)(T:List (Rw α))(a:α)(e:Ak)(W':Aw):Prop:=
 ∃x,e=.returned (.agg #[Z_ ((x.n:Nat):Int),x.d])/\x∈T/\x.a=a/\TbI P I L W' r rv g T/\Stp W W' (TSS P L rv r) (TSS P L rv r)
def tZ.post{r:ρ}{T:List (Rw α)}{a:α}{e:Ak}(h:tZ P I L W r rv g T a e W'):ju P I L W r rv g T a e W':=by
 obtain⟨x,h1,b,c,f,j⟩:=h;exact⟨r,rv,g,T,x,h1,b,c,f,j,Grw.refl _ _⟩
def Lk(Cl:List (Rw α)->α->Nat->Prop)(T T':List (Rw α))(g g':Aq)(i:Nat):Prop:=
 ∃R,(g=true->g'=true)/\((T'=T++R/\(g'=true->g=true\/R≠[])/\(g'=false->(∀r∈R,Stb Cl T' r)/\∀r,T[i]?=some r->Stb Cl T' r))\/
  (g'=true/\∃r n d,T[i]?=some r/\btr n r.n=true/\n<=301/\T'=(T++R).set i ⟨r.a,r.v,n,d⟩))
def cm(P:TP α ρ)(I:TI α)(L:TL)(W:Aw)(r:ρ)(rv:Ax)(g:Aq)(T:List (Rw α))(i:Nat)(e:Ak)(W':Aw):Prop:=
 ∃r' rv' g' T',e=.returned (.tuple #[])/\TbI P I L W' r' rv' g' T'/\Stp W W' (TSS P L rv r) (TSS P L rv' r')/\Lk P.Cl T T' g g' i
def TbI.new(a:P.OK I L){r:ρ}{T:List (Rw α)}(h:TbI P I L W r rv g T)(hf:Fr W W' N_):TbI P I L W' r rv g T:=
 ⟨a.rnew _ _ _ h.i hf,h.t.new hf,λx hx=>⟨a.sv _ _ _ _ _ _ _ (h.v x hx).1 (C_ hf (λ_ h=>h)),a.qv _ _ _ _ _ (h.v x hx).2 hf (λ_ f=>f.elim)⟩⟩
def TbI.li(a:P.OK I L){r:ρ}{T:List (Rw α)}(h:TbI P I L W r rv g T){x:Nat}(hx:TSS P L rv r x):L.fb<x/\x<W.heap.size:=by
 rcases hx with hx|hx
 .exact h.t.li hx
 .exact a.rs _ _ _ h.i hx
def TbI.turn(b:P.OK I L){r:ρ}{T T':List (Rw α)}(h:TbI P I L W r rv g T)(hf:Stp W W' (TbS L.tb L.mb rv) (TbS L.tb L.mb rv'))(f:TbW I L.fb L.tb L.mb L.kf L.ff W' rv' g' T')(c:∀x∈T',x∈T\/(P.SV W' (λy=>¬TSS P L rv' r y) x.a x.n x.d/\P.QV W' x.a x.v)):TbI P I L W' r rv' g' T'/\Stp W W' (TSS P L rv r) (TSS P L rv' r):=by
 have hs:Stp W W' (TSS P L rv r) (TSS P L rv' r):=⟨hf.1.mono (λ_ _ e=>.inl e),λx hx e=>e.imp (hf.2 x hx) id⟩;refine⟨⟨b.rfr _ _ _ _ _ _ h.i h.t hf.1,f,λx hx=>?_⟩,hs⟩;rcases c x hx with hx|hx
 .exact⟨b.sv _ _ _ _ _ _ _ (h.v x hx).1 hs,b.qv _ _ _ _ _ (h.v x hx).2 hs.1 (λy hy=>(h.li b hy).1)⟩
 .exact hx
def TbI.put(a:P.OK I L){r:ρ}{T:List (Rw α)}(h:TbI P I L W r rv g T)(b:L.fb<q)(hb:Blk W q cs 85)(hf:Fr W W' (λx=>x=q)):TbI P I L W' r rv g T:=
 ⟨a.put _ _ _ _ _ b h.i hb hf,h.t.fr hf (λ_ hx e=>h.t.ot (x:=q) hb (Ne.symm a.tt.1) (Ne.symm a.tt.2) (e▸hx)),λx hx=>⟨a.svp _ _ _ _ _ _ _ _ (h.v x hx).1 hb hf,a.qv _ _ _ _ _ (h.v x hx).2 hf (λ_ e=>e▸b)⟩⟩
def LkM(P:TP α ρ)(I:TI α)(L:TL)(W:Aw)(r:ρ)(rv:Ax)(g:Aq)(T:List (Rw α))(a:α)(q:Nat)(r':ρ)(rv':Ax)(g':Aq)(T':List (Rw α))(n:Nat)(d:Ax)(V:Aw):Prop:=
 n<=301/\IfV d/\TbI P I L V r' rv' g' T'/\Stp W V (TSS P L rv r) (TSS P L rv' r')/\Grw P.Cl T T' g g'/\P.Cl T' a n/\P.SV V (λy=>¬TSS P L rv' r' y) a n d/\Blk V q [I_ n,d] 85/\W.heap.size<=q/\L.fb<q
def LkM.new(c:P.OK I L){b V:Aw}{r r':ρ}{T T':List (Rw α)}{a:α}(h:TbI P I L W r rv g T)(hf:Fr W b N_)(hn:n<=301)(hd:IfV d)(e:TbI P I L V r' rv' g' T')(hs:Stp b V (TSS P L rv r) (TSS P L rv' r'))(hg:Grw P.Cl T T' g g')(hc:P.Cl T' a n)(hv:P.SV V (λy=>¬TSS P L rv' r' y) a n d)(hb:Blk V q [I_ n,d] 85)(b:W.heap.size<=q):LkM P I L W r rv g T a q r' rv' g' T' n d V:=
 ⟨hn,hd,e,(C_ hf (λ_ h=>h)).trans hs,hg,hc,hv,hb,b,o1_ ((h.li c (x:=L.tb) (.inl (.inl rfl))))⟩
def LkM.of(c:P.OK I L){b V:Aw}{r r':ρ}{T T':List (Rw α)}{a:α}(h:TbI P I L W r rv g T)(hf:Fr W b N_)(hn:n<=301)(hd:IfV d)(m:TbI P I L V r' rv' g' T')(hs:Stp b V (TSS P L rv r) (TSS P L rv' r'))(hg:Grw P.Cl T T' g g')(hc:P.Cl T' a n)(hv:P.SV V (λy=>¬TSS P L rv' r' y) a n d)(hb:Blk V q [O_,.nilIface] 85)(l:W.heap.size<=q):LkM P I L W r rv g T a q r' rv' g' T' n d ((V.setCell ⟨q,0,none⟩ (I_ n)).setCell ⟨q,1,none⟩ d):=by
 have b:=J_ V q 0 1 (I_ n) d;have f:L.fb<q:=by
  have:=(h.t.li (x:=L.tb) (.inl rfl));omega
 have j:Stp W V (TSS P L rv r) (TSS P L rv' r'):=(C_ hf (λ_ h=>h)).trans hs;exact⟨hn,hd,m.put c f hb b,⟨j.1.trans b (λx hx e=>M_),j.2⟩,hg,hc,c.svp _ _ _ _ _ _ _ _ hv hb b,(hb.set 0 _).set 1 _,l,f⟩
def FOK(P:TP α ρ)(I:TI α)(L:TL)(fn:Et)(fa:Ax)(A:List Value->Value)(m:Nat):Prop:=
 ∀W r rv g T a v,TbI P I L W r rv g T->I.Q a->P.QV W a v->I.N<=T.length+m->Calls prog fn #[fa,A v] W (yB P I L W r rv g T a)
def KOK(P:TP α ρ)(I:TI α)(L:TL)(fn:Et)(A:List Value->Value)(m:Nat):Prop:=
 ∀W r rv g T a v,TbI P I L W r rv g T->I.Q a->P.QV W a v->I.N<=T.length+m->Calls prog fn #[P_ L.tb,A v] W (ju P I L W r rv g T a)
def Lk.grw{Cl:List (Rw α)->α->Nat->Prop}{T T':List (Rw α)}{x:Rw α}(h:Lk Cl (T++[x]) T' g g' T.length):Grw Cl T T' g g'/\∃y,T'[T.length]?=some y/\y.a=x.a:=by
 obtain⟨R,h1,b|⟨b,r,n,d,hr,hb,hn,rfl⟩⟩:=h
 .obtain⟨rfl,f,c⟩:=b;refine⟨⟨[x]++R,by simp,h1,λ_=>.inr x7_,λe r hr=>?_⟩,x,by simp,rfl⟩;rcases a1_.1 hr with hr|hr
  .simp only[a0_]at hr;subst hr;exact(c e).2 r x7_
  .exact(c e).1 r hr
 .have c:r=x:=by simpa using hr.symm
  subst c;refine⟨⟨[⟨r.a,r.v,n,d⟩]++R,?_,h1,λ_=>.inr x7_,λe=>by rw[b]at e;cases e⟩,⟨r.a,r.v,n,d⟩,?_,rfl⟩
  .rw[bt_,List.set_append_right _ _ l_,Nat.sub_self];rfl
  .rw[by_,i_ rfl,i_ x7_]
def Gd(Cl:List (Rw α)->α->Nat->Prop)(T:List (Rw α)):Prop:=∀r∈T,Stb Cl T r
def cg(P:TP α ρ)(I:TI α)(L:TL)(W:Aw)(r:ρ)(rv:Ax)(a:α)(e:Ak)(W':Aw):Prop:=
 ∃r' rv' T' x,e=.returned (.agg #[Z_ ((x.n:Nat):Int),x.d])/\x∈T'/\x.a=a/\TbI P I L W' r' rv' false T'/\Stp W W' (TSS P L rv r) (TSS P L rv' r')/\Gd P.Cl T'
structure wa(P:TP α ρ)(I:TI α)(L:TL)(W:Aw)(r:ρ)(rv:Ax)(a:α)(V:Aw)(r':ρ)(rv':Ax)(g':Aq)(T':List (Rw α)):Prop where
 i:TbI P I L V r' rv' g' T'
 s:Stp W V (TSS P L rv r) (TSS P L rv' r')
 a:a∈T'.map Rw.a
 b:Blk V W.heap.size [O_,.nilIface] 85
 n:¬TSS P L rv' r' W.heap.size
def SIn(Cl:List (Rw α)->α->Nat->Prop)(N n j f:Nat)(g:Aq)(T:List (Rw α)):Prop:=
 n<=T.length/\phi N T<=f/\(g=true->phi N T<f)/\(g=false->∀i x,T[i]?=some x->(i<j\/n<=i)->Stb Cl T x)
def MP{T:List (Rw α)}{r:Rw α}(hr:T[i]?=some r):(T.set i ⟨r.a,r.v,n,d⟩).map Rw.a=T.map Rw.a:=by
 rw[List.map_set];apply List.ext_getElem?;intro k;rw[by_];split
 .rename_i e;subst e;have hi:=(aj_.1 hr).1;rw[av_,hr];simp[hi]
 .rfl
def Lk.mem{Cl:List (Rw α)->α->Nat->Prop}{T T':List (Rw α)}{a:α}(h:Lk Cl T T' g g' i)(ha:a∈T.map Rw.a):a∈T'.map Rw.a:=by
 obtain⟨R,_,⟨rfl,_⟩|⟨_,r,n,d,hr,_,_,rfl⟩⟩:=h
 .rw[bd_];exact b1_ _ ha
 .rw[MP (by rw[ar_ (aj_.1 hr).1];exact hr),bd_];exact b1_ _ ha
def SIn.step{Cl:List (Rw α)->α->Nat->Prop}(M:Qi Cl){N j f:Nat}{T T':List (Rw α)}(h:SIn Cl N n j f g T)(hl:Lk Cl T T' g g' j)(b:T'.length<=N)(w:∀r∈T,r.n<=301)(c:∀r∈T',r.n<=301):SIn Cl N n (j+1) f g' T':=by
 obtain⟨h1,B,p,u⟩:=h;obtain⟨R,z,⟨rfl,A,l⟩|⟨rfl,r,m,d,hr,hb,hm,rfl⟩⟩:=hl
 .have hp:=au (T:=T) (R:=R) b (λr hr=>c r (b6_ _ hr));refine⟨by rw[ag_];omega,M_,λe=>?_,λe i x hx hi=>?_⟩
  .rcases A e with e|e
   .have:=p e;omega
   .have:R.length≠0:=λe'=>e (List.length_eq_zero_iff.1 e');omega
  .have o:g=false:=by
    cases g with
    |false=>rfl
    |true=>rw[z rfl]at e;cases e
   by_cases p:i<T.length
   .rw[ar_ p]at hx;by_cases y:i=j
    .subst y;exact(l e).2 x hx
    .exact(u o i x hx M_).more M R
   .rw[as_ M_]at hx;exact(l e).1 x (ah_ hx)
 .have l:=(aj_.1 hr).1;have o:(T++R)[j]?=some r:=by rw[ar_ l];exact hr
  rw[bn_]at b;have hp:=Fp (N:=N) (r':=⟨r.a,r.v,m,d⟩) o (w r (ah_ hr)) hb hm;have l:∀x∈R,x.n<=301:=λx hx=>by
   obtain⟨i,hi⟩:=bw_ hx;refine c x (ah_ (i:=T.length+i) ?_);rw[by_,n_ M_,as_ M_,show T.length+i-T.length=i by omega];exact hi
  have c:=au (T:=T) (R:=R) b l;exact⟨by rw[bn_,ag_];omega,M_,λ_=>M_,λe=>by cases e⟩
end
@[reducible] def ID {α:Type}(kv:α->Value) (Q:α->Prop) (num:α->Nat) (N:Nat):TI α:=⟨213,297,3,1,kv,Q,num,N⟩
section
variable {α ρ:Type} {P:TP α ρ} {kv:α->Value} {Q:α->Prop} {num:α->Nat} {N fb tb mb:Nat} {kf:Ax} {fn:Et} {fa:Ax}
def TbI.cellsD{r:ρ}{T:List (Rw α)}{L:TL}(h:TbI P (ID kv Q num N) L W r rv g T){x:Rw α}(hx:T[i]?=some x):∃b f u,rv=S_ b T.length f/\x.v=[u]/\W.cell? ⟨b,i*3,none⟩=some u/\W.cell? ⟨b,i*3+1,none⟩=some (I_ x.n)/\W.cell? ⟨b,i*3+1+1,none⟩=some x.d/\W.frozen? ⟨b,i*3+1,none⟩=false/\W.frozen? ⟨b,i*3+1+1,none⟩=false:=by
 obtain⟨b,f,e,h1⟩:=h.t.cell hx;have hl:x.v.length=1:=(h.t.q x (ah_ hx)).2.1;obtain⟨u,hu⟩:=List.length_eq_one_iff.1 hl;have j:=h1 0 (by show 0<1+2;omega);have a:=h1 1 (by show 1<1+2;omega);have c:=h1 2 (by show 2<1+2;omega);simp only[Rw.cells,hu]at j a c;exact⟨b,f,u,e,hu,j.1,a.1,c.1,a.2,c.2⟩
def rC:∀W x,(method 554 85 x "Betters").run prog W=.ok (202,x) W:=by intro W x;kernel_rfl
def PE{r:ρ}{T:List (Rw α)}{x:Rw α}(H:(ID kv Q num N).OK)(j:P.OK (ID kv Q num N) ⟨fb,tb,mb,kf,.func (.func fn) #[fa] #[]⟩)(hB:∀(w:World) (n m:Nat) (dv kv:Value),Calls prog 202 #[.agg #[I_ n,dv],.agg #[I_ m,kv]] w λe w'=>e=.returned (.bool (btr n m))/\Fr w w' N_)(b4:∀a2 W,(callFunc fn a2).run prog W=.ok (.enter fn a2) W)(h:TbI P (ID kv Q num N) ⟨fb,tb,mb,kf,.func (.func fn) #[fa] #[]⟩ W r rv g T)(hx:T[i]?=some x)(D:∀W' u,Fr W W' N_->x.v=[u]->Calls prog fn #[fa,u] W' (yB P (ID kv Q num N) ⟨fb,tb,mb,kf,.func (.func fn) #[fa] #[]⟩ W' r rv g T x.a)):Calls prog 150 #[P_ tb,I_ i] W (cm P (ID kv Q num N) ⟨fb,tb,mb,kf,.func (.func fn) #[fa] #[]⟩ W r rv g T i):=by
 obtain⟨a1,J⟩:=y_ (cm P (ID kv Q num N) ⟨fb,tb,mb,kf,.func (.func fn) #[fa] #[]⟩ W r rv g T i);rw[<- J.o];obtain⟨b,a3,u,rfl,hu,Y,e1,e2,-,-⟩:=h.cellsD hx;have hi:=(aj_.1 hx).1;have b6:(i:Int)<(T.length:Int):=M_;have c1:=h.t.b.c1;have c2:=h.t.b.c2;have Z:=zy (λW' hW=>D W' u hW hu);replace h:=zy h;replace hx:=zy hx;replace hB:=zy hB;go_in;go_upto_region 0 with fail;go_cut [4] (λv V=>∃q r' rv' g' T' n d,v=P_ q/\H_ (LkM P (ID kv Q num N) ⟨fb,tb,mb,kf,.func (.func fn) #[fa] #[]⟩ W r (S_ b T.length a3) g T x.a q r' rv' g' T' n d V));case first=>
  refine tr_ 12 (λV=>z_ V tb 1 (.func (.func fn) #[fa] #[])/\z_ V tb 2 (S_ b T.length a3)/\z_ V b (i*3) u) ?_;refine tB_ 0 [1,2,3,12] ?_;refine tB_ 1 [2,3,12] ?_;refine tB_ 2 [3,12] ?_;refine tB_ 3 [12] ?_;refine tB_ 4 [5,6,7,9,10,11,12] ?_;refine tB_ 5 [6,7,9,10,11,12] ?_;refine tB_ 6 [7,9,10,11,12] ?_;refine tB_ 7 [9,10,11,12] ?_;refine tB_ 8 [9,10,11,12] ?_;refine tB_ 9 [10,11,12] ?_;refine tB_ 10 [11,12] ?_;refine tB_ 11 [12] ?_;refine jV 12 13 rfl rfl K_ (λ_=>⟨c1,c2,Y⟩) (λK p=>?_) (λK p=>?_)
  .go_simp;apply(Z.o _ (A_ W _).drew).mono;rintro e w1 ⟨r',rv',g',T',n,d,rfl,hn,hd,c,hs,hg,hc,hv⟩;refine p _ _ ?_;have sD:=λW a m=>run_store prog W a d m hd.one;have G:=(A_ w1 N_).alloc (.cells #[I_ n,d] 85);have fin:=zy (LkM.new j h (A_ W _).drew hn hd (c.new j G) (hs.trans (C_ G (λ_ h=>h))) hg hc (j.sv _ _ _ _ _ _ _ hv (C_ G (λ_ h=>h))) (B_ w1 #[I_ n,d] 85) hs.1.size);refine t0_ 13 ?_;refine t0_ 14 ?_;refine td_ ?_ _;go_wp2;go_meet;exact⟨_,_,_,_,_,_,_,rfl,fin⟩
  .go_simp;refine p _ _ ?_;have z:=(A_ W N_).alloc (.cells #[O_,.nilIface] 85);have B0:=B_ W #[O_,.nilIface] 85;have B:=((h.o.t.new z).b.cell 1);have C:=((h.o.t.new z).b.cell 2);have f0:(W.alloc (.cells #[O_,.nilIface] 85)).cell? ⟨b,i*3,none⟩=some u:=by
    have:=z.block b (h.o.t.li (x:=b) (.inr (.inr rfl))).2 id;rw[World.cell?_of_block this];exact Y
   simp only[aa_,ab_]at B C;refine zh 12 rfl K_ (λ_=>⟨B,C,f0⟩) (λK p=>?_);go_simp;apply(Z.o _ z.drew).mono;rintro e w1 ⟨r',rv',g',T',n,d,rfl,hn,hd,c,hs,hg,hc,hv⟩;refine p _ _ ?_;have sD:=λW a m=>run_store prog W a d m hd.one;have A:Blk w1 W.heap.size [O_,.nilIface] 85:=hs.1.bl B0.drew (λe=>absurd (h.o.li j e).2 (a2_ _));have fin:=zy (LkM.of j h z.drew hn hd c hs hg hc hv A l_);have k0:=A.c0;have k1:=A.c1;have t0:=A.th 0;have t1:=A.th 1;refine t0_ 14 ?_;refine td_ ?_ _;go_wp2;go_meet;exact⟨_,_,_,_,_,_,_,rfl,fin⟩
 case rest=>
  obtain⟨q,r',rv',g',T',n,d,rfl,hM⟩:=hcut;obtain⟨hn,hd,c,hs,hg,hc,hv,hb,hq,b5⟩:=hM.o;obtain⟨R,rfl,g1,g2,g3⟩:=hg;have F:(T++R)[i]?=some x:=by rw[ar_ hi];exact hx
  obtain⟨l,X,u',rfl,hu,a0,O,U,B,C⟩:=c.cellsD F;have b7:(i:Int)<((T++R).length:Int):=by rw[ag_];omega
  have a7:=((c.t.q x (ah_ F)).2.2.2).one;have c2:=c.t.b.c2;have t4:=c.t.b.th 4;have c4:=c.t.b.c4;have q0:=hb.c0;have q1:=hb.c1;have s1:=λW a m=>run_store prog W a d m hd.one;have a9:=rC;have a6:l≠tb:=λe=>(c.t.apart H).2.1 zo_;have b8:=Ne.symm a6;have no:H_ (∀V,Fr wc V N_->btr n x.n=false->a1 (.returned (.tuple #[])) V):=zy (λV E e=>by
   rw[J.o]
   exact⟨r',_,g',T++R,rfl,c.new j E,hs.trans (C_ E (λ_ h=>h)),R,g1,.inl ⟨rfl,g2,λe'=>⟨g3 e',λy hy=>by rw[hx.o]at hy;cases hy;exact⟨n,hc,e⟩⟩⟩⟩)
  have a8:H_ (∀V,Fr wc V N_->btr n x.n=true->a1 (.returned (.tuple #[])) (((V.setCell ⟨l,i*3+1,none⟩ (I_ n)).setCell ⟨l,i*3+1+1,none⟩ d).setCell ⟨tb,4,none⟩ (.bool true)).drew):=zy (λV E e=>by
   have h1:=c.new j E
   have h2:=((h1.t.set H F hn hd).flag H true).new (A_ _ _).drew
   have D:Fr V (((V.setCell ⟨l,i*3+1,none⟩ (I_ n)).setCell ⟨l,i*3+1+1,none⟩ d).setCell ⟨tb,4,none⟩ (.bool true)).drew (TbS tb mb (S_ l (T++R).length X)):=(((J_ V l _ _ _ _).mono (λx _ e=>.inr (.inr zo_))).setCell _ _ (λ_=>.inl rfl)).drew
   have h3:=h1.turn j (rv':=S_ l (T++R).length X) ⟨D,λ_ _ h=>h⟩ h2 (λy hy=>by
    rcases List.mem_or_eq_of_mem_set hy with hy|rfl
    .exact .inl hy
    .refine .inr ⟨j.sv _ _ _ _ _ _ _ (j.sv _ _ _ _ _ _ _ hv (C_ E (λ_ h=>h))) ⟨D.mono (λ_ _ e=>.inl e),λ_ _ h=>h⟩,?_⟩
     exact j.qv _ _ _ _ _ (h1.v x (ah_ F)).2 D (λy hy=>(h1.t.li hy).1))
   rw[J.o]
   exact⟨r',_,true,_,rfl,h3.1,(hs.trans (C_ E (λ_ h=>h))).trans h3.2,R,λ_=>rfl,.inr ⟨rfl,x,n,d,hx,e,hn,rfl⟩⟩)
  generalize x.n=xn at *;generalize x.d=xd at *;generalize (T++R).length=M at *;go_wp2;refine tr_ 10 (λV=>z_ V tb 2 (S_ l M X)/\z_ V q 0 (I_ n)/\z_ V q 1 d/\z_ V l (i*3+1) (I_ xn)/\z_ V l (i*3+1+1) xd) ?_;refine tB_ 0 [1,10] ?_;refine tB_ 1 [10] ?_;refine tB_ 2 [3,4,5,7,8,9,10] ?_;refine tB_ 3 [4,5,7,8,9,10] ?_;refine tB_ 4 [5,7,8,9,10] ?_;refine tB_ 5 [7,8,9,10] ?_;refine tB_ 6 [7,8,9,10] ?_;refine tB_ 7 [8,9,10] ?_;refine tB_ 8 [9,10] ?_;refine tB_ 9 [10] ?_;refine zh 10 rfl K_ (λ_=>⟨c2,q0,q1,O,U⟩) (λK p=>?_);go_simp;apply(hB.o _ n xn d xd).mono;rintro e w2 ⟨rfl,a5⟩;refine p _ _ ?_;have f:Fr wc w2 N_:=(A_ wc _).drew.trans a5 u_;have x1:=f.keepF O B;have x2:=f.keepF U C;have x3:=f.keepF c4 t4;have k2:=f.ke c2;have k4:=f.ke c4;have p0:=f.ke q0;have p1:=f.ke q1;replace O:=f.ke O;replace U:=f.ke U;replace f:=zy f;refine td_ ?_ _;cases a4:btr n xn
  .go_wp2;go_end0;exact no.o _ f a4
  .go_wp2;refine tr_ 8 (λV=>z_ V tb 2 (S_ l M X)/\z_ V q 0 (I_ n)/\z_ V q 1 d) ?_;refine tz_ 0 ?_;refine tz_ 1 ?_;refine tz_ 2 ?_;refine tz_ 3 ?_;refine tz_ 4 ?_;refine tz_ 5 ?_;refine tB_ 6 [7,8] ?_;refine tz_ 7 ?_;refine t1_ 8 ⟨k2,p0,p1⟩ ?_;refine td_ ?_ _;go_wp2;go_end0;exact a8.o _ f a4
end
def qV:Tryz.prog.underlying 3=some (.int .i64):=K_
def Zs:Tryz.prog.underlying 210=some (.map 3 3):=K_
def GN:Tryz.prog.underlying 211=some (.slice 297):=K_
def Ua:(Tryz.prog.info? 297).map (λi=>(i.zero,i.size,i.bytes))=some (some (.agg #[.nilIface,O_,.nilIface]),3,40):=K_
def Qa(w:Aw):(zeroValue 3).run prog w=.ok (O_) w:=by kernel_rfl
section
variable {α ρ:Type} {P:TP α ρ} {kv:α->Value} {Q:α->Prop} {num:α->Nat} {N fb tb mb:Nat} {fn:Et} {fa:Ax}
def Ya{r:ρ}{T:List (Rw α)}{x:Rw α}{uT:Av}(E:(ID kv Q num N).OK)(w:P.OK (ID kv Q num N) ⟨fb,tb,mb,.func (.methodOf 46 "Place") #[] #[],.func (.func fn) #[fa] #[]⟩)(h:TbI P (ID kv Q num N) ⟨fb,tb,mb,.func (.methodOf 46 "Place") #[] #[],.func (.func fn) #[fa] #[]⟩ W r rv g T)(hx:T[i]?=some x)(hk:kv x.a=I_ k)(G:keyOf prog 3 (I_ k)=some (.int .i64 (k:Int)))(hm:∀W,(method 554 uT ux "Place").run prog W=.ok (72,I_ k) W):Calls prog 89 #[P_ tb,.iface uT ux] W (tZ P (ID kv Q num N) ⟨fb,tb,mb,.func (.methodOf 46 "Place") #[] #[],.func (.func fn) #[fa] #[]⟩ W r rv g T x.a):=by
 obtain⟨J,z⟩:=y_ (tZ P (ID kv Q num N) ⟨fb,tb,mb,.func (.methodOf 46 "Place") #[] #[],.func (.func fn) #[fa] #[]⟩ W r rv g T x.a)
 rw[<- z.o];have j:=ah_ hx;obtain⟨w1,hw1⟩:=e_ (W.alloc (.cells #[O_,.nilIface] 85));have l:Fr W w1 N_:=xy_
 have f:Blk w1 W.heap.size [O_,.nilIface] 85:=yb_
 have h1:=h.new w l;obtain⟨D,A,F⟩:=h1.t.map;obtain⟨U,C⟩:=(F x.a _ (h.t.q x j).1 (show keyOf prog 3 (kv x.a)=_ by rw[hk];exact G)).1 i x hx rfl;obtain⟨b,X,u,rfl,hu,O,X,X,-,-⟩:=h1.cellsD hx;have hi:=(aj_.1 hx).1;have X:(i:Int)<(T.length:Int):=M_;have c0:=h1.t.b.c0;have c2:=h1.t.b.c2;have c3:=h1.t.b.c3;have X:=f.c0;have X:=f.c1;have X:=f.th 0;have X:=f.th 1;have H:=((h.t.q x j).2.2.2);have X:=λW a m=>run_store prog W a x.d m H.one;have B:=J_ w1 W.heap.size 0 1 (I_ x.n) x.d;have p:Blk ((w1.setCell ⟨W.heap.size,0,none⟩ (I_ x.n)).setCell ⟨W.heap.size,1,none⟩ x.d) W.heap.size [I_ x.n,x.d] 85:=(f.set 0 _).set 1 _;have r0:=p.c0;have r1:=p.c1;have fin:H_ (J (.returned (.agg #[I_ x.n,x.d])) ((w1.setCell ⟨W.heap.size,0,none⟩ (I_ x.n)).setCell ⟨W.heap.size,1,none⟩ x.d)):=zy (by
  rw[z.o]
  have J:fb<tb/\tb<W.heap.size:=(h.t.li (x:=tb) (.inl rfl))
  exact⟨x,rfl,j,rfl,h1.put w yq_ f B,⟨(l.mono v_).trans B (λy hy e=>M_),λ_ _ e=>e⟩⟩)
 have K:=E.keyed;generalize x.n=xn at *;generalize x.d=xd at *;generalize T.length=M at *;replace hw1:=zy hw1;replace C:=zy C;replace A:=zy A;go_in;go_upto_region 1 with fail;rw[<- hw1.o];go_wp2_with (first
  |(go_at_call 72;apply(xp (k:Int) _).mono;rintro e f ⟨rfl,f⟩;rw[f])
  |(at_lookup;refine wpList_lookup_own_ok_int _ rfl _ _ 210 rfl 3 3 .i64 K Zs qV (Qa _) mb M D rfl A _ _ rfl G ?_;intro c hc f;rw[C.o]at hc;simp only[DataW.lit.injEq,Lit.int.injEq,true_and]at hc;subst hc;rw[U]))
 refine bodyPost_ret (v:=.agg #[I_ xn,xd]) (by simp[results,results89,go_sem,r0,r1]) rfl ?_;exact fin
def Yo{r:ρ}{T:List (Rw α)}{a:α}{uT:Av}(X:(ID kv Q num N).OK)(A:P.OK (ID kv Q num N) ⟨fb,tb,mb,.func (.methodOf 46 "Place") #[] #[],.func (.func fn) #[fa] #[]⟩)(h:TbI P (ID kv Q num N) ⟨fb,tb,mb,.func (.methodOf 46 "Place") #[] #[],.func (.func fn) #[fa] #[]⟩ W r rv g T)(ha:Q a)(hq:P.QV W a [.iface uT ux])(hx:∀x∈T,x.a≠a)(hk:kv a=I_ k)(a3:keyOf prog 3 (I_ k)=some (.int .i64 (k:Int)))(hm:∀W,(method 554 uT ux "Place").run prog W=.ok (72,I_ k) W)(hT:T.length<=1000000)(Y:∀V b7,TbI P (ID kv Q num N) ⟨fb,tb,mb,.func (.methodOf 46 "Place") #[] #[],.func (.func fn) #[fa] #[]⟩ V r b7 g (T++[⟨a,[.iface uT ux],0,.nilIface⟩])->Calls prog 150 #[P_ tb,I_ T.length] V (cm P (ID kv Q num N) ⟨fb,tb,mb,.func (.methodOf 46 "Place") #[] #[],.func (.func fn) #[fa] #[]⟩ V r b7 g (T++[⟨a,[.iface uT ux],0,.nilIface⟩]) T.length)):Calls prog 89 #[P_ tb,.iface uT ux] W (ju P (ID kv Q num N) ⟨fb,tb,mb,.func (.methodOf 46 "Place") #[] #[],.func (.func fn) #[fa] #[]⟩ W r rv g T a):=by
 obtain⟨b8,Q_⟩:=y_ (ju P (ID kv Q num N) ⟨fb,tb,mb,.func (.methodOf 46 "Place") #[] #[],.func (.func fn) #[fa] #[]⟩ W r rv g T a)
 rw[<- Q_.o];obtain⟨w1,hw1⟩:=e_ (W.alloc (.cells #[O_,.nilIface] 85));have G:Fr W w1 N_:=xy_
 have B1:Blk w1 W.heap.size [O_,.nilIface] 85:=yb_
 have h1:=h.new A G;obtain⟨D,J,a1⟩:=h1.t.map;have a2:keyOf prog 3 (kv a)=some (.int .i64 (k:Int)):=by rw[hk];exact a3
 have hh:=(a1 a _ ha a2).2 hx
 have a5:∀x,TSS P ⟨fb,tb,mb,.func (.methodOf 46 "Place") #[] #[],.func (.func fn) #[fa] #[]⟩ rv r x->fb<x/\x<W.heap.size:=λx e=>h.li A e
 have e0:fb<tb/\tb<W.heap.size:=a5 tb (.inl (.inl rfl));obtain⟨a0,a7,a8⟩:=h1.t.apart X;have a6:w1.ownsRow (fb+1) 297 3 rv T.length (T.flatMap Rw.cells):=h1.t.row;have hb:=h1.t.b;obtain⟨p,u,rfl⟩:=zw a6;have c0:=hb.c0;have c2:=hb.c2;have c3:=hb.c3;have t2:=hb.th 2;obtain⟨ti,d6,d7,d8,d9⟩:=info_parts Ua;have push:H_ (∀j l w,j.ownsMap prog 3 (plainElem prog 3) mb (T.length+1) (D.put (.int .i64 (k:Int)) (.lit (.int .i64 (T.length:Int))))->w1.grownBy j (some mb)->(j.alloc (.cells #[.iface uT ux,O_,.nilIface] 297)).grownBy l (Value.slice p T.length u).ownBlock->l.ownsRow (fb+1) 297 3 w (T.length+1) (T.flatMap Rw.cells++[.iface uT ux,O_,.nilIface])->(w.ownBlock=(Value.slice p T.length u).ownBlock\/w.ownBlock=some (j.alloc (.cells #[.iface uT ux,O_,.nilIface] 297)).heap.size)->
  TbI P (ID kv Q num N) ⟨fb,tb,mb,.func (.methodOf 46 "Place") #[] #[],.func (.func fn) #[fa] #[]⟩ (l.setCell ⟨tb,2,none⟩ w) r w g (T++[⟨a,[.iface uT ux],0,.nilIface⟩])/\Stp W (l.setCell ⟨tb,2,none⟩ w) (TSS P ⟨fb,tb,mb,.func (.methodOf 46 "Place") #[] #[],.func (.func fn) #[fa] #[]⟩ (.slice p T.length u) r) (TSS P ⟨fb,tb,mb,.func (.methodOf 46 "Place") #[] #[],.func (.func fn) #[fa] #[]⟩ w r)/\Blk (l.setCell ⟨tb,2,none⟩ w) W.heap.size [O_,.nilIface] 85/\¬TSS P ⟨fb,tb,mb,.func (.methodOf 46 "Place") #[] #[],.func (.func fn) #[fa] #[]⟩ w r W.heap.size):=zy (λj l w E B k3 k4 k5=>by
  obtain⟨p1,p2⟩:=h1.t.push X (r:=⟨a,[.iface uT ux],0,.nilIface⟩) ⟨ha,rfl,by show(0:Nat)<=301;omega,.inl rfl⟩ hx a2 a1 J.isMap E B ((A_ j _).alloc _) k3 k4 (k5.imp id (λe=>⟨_,e,l_⟩))
  have p3:=h1.turn A p2 p1 (λy hy=>by
   rcases a1_.1 hy with hy|hy
   .exact .inl hy
   .simp only[a0_]at hy
    subst hy
    exact .inr ⟨A.z _ _ _,A.qv _ _ _ _ _ (A.qv _ _ _ _ _ hq G (λ_ f=>f.elim)) p2.1 (λy hy=>(h1.t.li hy).1)⟩)
  have p4:=p3.2.1.bl B1 (λe=>absurd (a5 _ e).2 (a2_ _))
  exact⟨p3.1,(C_ G (λ_ h=>h)).trans p3.2,p4,λe=>e.elim (p1.ot p4 (Ne.symm A.tt.1) (Ne.symm A.tt.2)) (λe=>absurd (A.rs _ _ _ h.i e).2 (a2_ _))⟩)
 have a9:H_ (∀j,w1.grownBy j (some mb)->j.cell? ⟨tb,2,none⟩=some (.slice p T.length u)/\j.frozen? ⟨tb,2,none⟩=false/\j.ownsRow (fb+1) 297 3 (.slice p T.length u) T.length (T.flatMap Rw.cells)/\fb+1<=j.heap.size/\tb<j.heap.size):=zy (λj hg=>by
  have f:=(A_ w1 (λx=>x=mb)).gw hg (λk e _=>by simpa using e.symm)
  have b2:=f.bl hb a0
  have z:=f.size
  have z1:=G.size
  have F:=b2.c2
  exact⟨F,b2.th 2,zj a6 f (λx e k=>a8 (by rw[e,show x=mb from k])),M_,b2.lt⟩)
 have b4:H_ (∀j l:World,w1.grownBy j (some mb)->(j.alloc (.cells #[.iface uT ux,O_,.nilIface] 297)).grownBy l (Value.slice p T.length u).ownBlock->l.cell? ⟨tb,2,none⟩=some (.slice p T.length u)/\l.frozen? ⟨tb,2,none⟩=false):=zy (λj l hg U=>by
  have f:=(A_ w1 (λx=>x=mb)).gw hg (λk e _=>by simpa using e.symm)
  have f5:=((A_ j (λx=>(Value.slice p T.length u).ownBlock=some x)).alloc (.cells #[.iface uT ux,O_,.nilIface] 297)).gw U (λk e _=>e)
  have b2:=f5.bl (f.bl hb a0) a7
  have F:=b2.c2
  exact⟨F,b2.th 2⟩)
 have fin:H_ (∀V r' rv' g' T' (y:Rw α) V1,TbI P (ID kv Q num N) ⟨fb,tb,mb,.func (.methodOf 46 "Place") #[] #[],.func (.func fn) #[fa] #[]⟩ V r' rv' g' T'->Stp W V (TSS P ⟨fb,tb,mb,.func (.methodOf 46 "Place") #[] #[],.func (.func fn) #[fa] #[]⟩ (.slice p T.length u) r) (TSS P ⟨fb,tb,mb,.func (.methodOf 46 "Place") #[] #[],.func (.func fn) #[fa] #[]⟩ rv' r')->Grw P.Cl T T' g g'->y∈T'->y.a=a->Blk V W.heap.size [O_,.nilIface] 85->V1=(V.setCell ⟨W.heap.size,0,none⟩ (I_ y.n)).setCell ⟨W.heap.size,1,none⟩ y.d->b8 (.returned (.agg #[I_ y.n,y.d])) V1):=zy (λV r' rv' g' T' y V1 E B k3 k4 k5 k6 k7=>by
  rw[Q_.o,k7]
  have hF:=J_ V W.heap.size 0 1 (I_ y.n) y.d
  exact⟨r',rv',g',T',y,rfl,k4,k5,E.put A yq_ k6 hF,⟨B.1.trans hF (λy hy e=>M_),B.2⟩,k3⟩)
 replace Y:=zy Y;have K:=X.keyed;have d2:H_ ((Value.slice p T.length u).ownBlock=(Value.slice p T.length u).ownBlock):=zy rfl;generalize O:T.length=M at *;replace O:=zy O;replace hw1:=zy hw1;replace J:=zy J;generalize T.flatMap Rw.cells=CS at *;go_in;go_upto_region 1 with fail;rw[<- hw1.o];go_wp2_with (first
  |(go_at_call 72;apply(xp (k:Int) _).mono;rintro e j ⟨rfl,G⟩;rw[G])
  |(at_lookup;refine wpList_lookup_own_ok_int _ rfl _ _ 210 rfl 3 3 .i64 K Zs qV (Qa _) mb M D rfl J _ _ rfl a3 ?_;intro c hc G;rw[hh])
  |(at_mapUpdate;refine wpList_mapUpdate_own _ rfl _ _ _ 210 rfl 3 3 K Zs (plainElem prog 3) mb M D rfl J xt_ _ _ _ rfl rfl a3 _ [] (plainElem_int qV (WalkArith.wf_i64 M_)) ?_;intro j E B;obtain⟨F,G,o2,G,G⟩:=a9.o j B;revert E B o2;refine h_ λE B o2=>?_)
  |(at_builtin;go_must (refine wpList_append_own_at _ rfl _ _ 211 rfl (fb+1) 297 ti _ 3 40 GN d6 d7 d8 d9 rfl D_ (.slice p M u) M CS rfl ?hown _ 1 1 [.iface uT ux,O_,.nilIface] rfl rfl (zK _ #[.iface uT ux,O_,.nilIface] _ _ ?nn) ?one ?b1 ?b2 ?b3 ?_)
    case hown=>exact World.ownsRow.alloc o2 _
    case nn=>simp
    case one=>simp[Value.oneCell']
    case b1=>unfold maxLen;omega
    case b2=>omega
    case b3=>simp;omega
    intro w l a4 U e1 b5
    obtain⟨p,f5⟩:=b4.o j l B U
    have hp:=push.o j l w E B U a4 b5
    obtain⟨j,j,rfl⟩:=zg a4 M_
    replace hp:=zy hp)
  |(go_at_call 150;apply(Y.o _ _ hp.o.1).mono;rintro e w7 ⟨r7,j,g7,T7,rfl,H,s7,l7⟩;rw[<- O.o]at l7;obtain⟨G7,y,hy,b6⟩:=l7.grw;have C:=s7.1.bl hp.o.2.2.1 hp.o.2.2.2;obtain⟨j,j,j,rfl,-,-,j,F,-,-⟩:=H.cellsD hy;have l:(M:Int)<(T7.length:Int):=(by have:=(aj_.1 hy).1;rw[O.o]at this;omega);rw[O.o]at j F;have j:=H.t.b.c2;have j:=C.c0;have j:=C.c1;have j:=C.th 0;have j:=C.th 1;have j:=λW a m=>run_store prog W a y.d m ((H.t.q y (ah_ hy)).2.2.2).one;have Z:Blk ((w7.setCell ⟨W.heap.size,0,none⟩ (I_ y.n)).setCell ⟨W.heap.size,1,none⟩ y.d) W.heap.size [I_ y.n,y.d] 85:=(C.set 0 _).set 1 _;have r0:=Z.c0;have r1:=Z.c1;have b9:=zy (λV1=>fin.o w7 r7 _ g7 T7 y V1 H (hp.o.2.1.trans s7) G7 (ah_ hy) b6 C);generalize y.n=yn at *;generalize y.d=yd at *;generalize T7.length=M7 at *))
 refine bodyPost_ret (v:=.agg #[I_ yn,yd]) (by simp[results,results89,go_sem,r0,r1]) rfl ?_;exact b9.o _ rfl
def Mw(kv:α->Value)(a:α)(v:Ay):Prop:=∃uT ux k,v=[.iface uT ux]/\kv a=Z_ ((k:Nat):Int)/\k<=1000000/\∀W,(method 554 uT ux "Place").run prog W=.ok (72,I_ k) W
def mC{r:ρ}{T:List (Rw α)}{a:α}{v:Ay}(b:(ID kv Q num N).OK)(c:P.OK (ID kv Q num N) ⟨fb,tb,mb,.func (.methodOf 46 "Place") #[] #[],.func (.func fn) #[fa] #[]⟩)(f:∀W a v,P.QV W a v->Mw kv a v)(h:TbI P (ID kv Q num N) ⟨fb,tb,mb,.func (.methodOf 46 "Place") #[] #[],.func (.func fn) #[fa] #[]⟩ W r rv g T)(hv:P.QV W a v)(ha:a∈T.map Rw.a):Calls prog 89 #[P_ tb,v.headD .nilIface] W (tZ P (ID kv Q num N) ⟨fb,tb,mb,.func (.methodOf 46 "Place") #[] #[],.func (.func fn) #[fa] #[]⟩ W r rv g T a):=by
 obtain⟨uT,ux,k,rfl,hk,l,e⟩:=f W a v hv;obtain⟨x,j,rfl⟩:=a5_.1 ha;obtain⟨i,hi⟩:=bw_ j;exact Ya b c h hi hk (Maps.keyOf_int_mk qV (WalkArith.wf_i64 M_)) e
def cq22_{p:Prop}(h:p:=by
 intro W r rv g T a v h ha hv hm;(first|(have:=cc1;obtain⟨uT,ux,y,z,k,H,rfl,hk,E,D,A,l⟩:=hq W a v hv)|(obtain⟨uT,ux,k,rfl,hk,A,l⟩:=hq W a v hv));(first|(have:=cc1;obtain⟨B,F⟩:=lJ E D)|(have B:keyOf prog 3 (I_ k)=some (.int .i64 (k:Int)):=Maps.keyOf_int_mk qV (WalkArith.wf_i64 M_)));have hf:=wL Iok h.t.nd (λx hx=>(h.t.q x hx).1);by_cases hx:∀x∈T,x.a≠a
 .have G:=lh Iok h.t.nd (λx hx=>(h.t.q x hx).1) ha hx;obtain⟨c,rfl⟩:∃c,m=c+1:=⟨m-1,by
   have:N<=T.length+m:=hm
   have:T.length<N:=G
   omega⟩
  first
   |have:=cc1
    exact Ye Iok O h ha hv hx hk F A l (ak_ hf hN) (λV o b=>PI Iok O (λw n m dv kv=>jA) hfn b (x:=⟨a,[.iface uT ux,.iface y z],0,.nilIface⟩) (by simp) (λW' u u' j e=>by
     cases e
     exact hF c rfl W' r o g _ a [.iface uT ux,.iface y z] (b.new O j) ha (O.qv _ _ _ _ _ (b.v ⟨a,[.iface uT ux,.iface y z],0,.nilIface⟩ (by simp)).2 j (λ_ f=>f.elim)) (by
      have:N<=T.length+(c+1):=hm
      show N<=_
      simp
      omega)))
   |exact Yo Iok O h ha hv hx hk B l (ak_ hf hN) (λV o b=>PE Iok O (λw n m dv kv=>jA) hfn b (x:=⟨a,[.iface uT ux],0,.nilIface⟩) (by simp) (λW' u j e=>by
     cases e
     exact hF c rfl W' r o g _ a [.iface uT ux] (b.new O j) ha (O.qv _ _ _ _ _ (b.v ⟨a,[.iface uT ux],0,.nilIface⟩ (by simp)).2 j (λ_ f=>f.elim)) (by
      have:N<=T.length+(c+1):=hm
      show N<=_
      simp
      omega)))
 .simp only[ne_eq,Classical.not_forall,Classical.not_not]at hx;obtain⟨x,C,rfl⟩:=hx;(first|(have:=cc1;exact(mM O hq h hv (a5_.2 ⟨x,C,rfl⟩)).mono (λe w' q=>q.post))|(exact(mC Iok O hq h hv (a5_.2 ⟨x,C,rfl⟩)).mono (λe w' q=>q.post)))):p:=h
def nf{m:Nat}(Iok:(ID kv Q num N).OK)(O:P.OK (ID kv Q num N) ⟨fb,tb,mb,.func (.methodOf 46 "Place") #[] #[],.func (.func fn) #[fa] #[]⟩)(hfn:∀args W,(callFunc fn args).run prog W=.ok (.enter fn args) W)(hq:∀W a v,P.QV W a v->Mw kv a v)(hN:N<=1000000)(hF:∀m',m=m'+1->FOK P (ID kv Q num N) ⟨fb,tb,mb,.func (.methodOf 46 "Place") #[] #[],.func (.func fn) #[fa] #[]⟩ fn fa (λv=>v.headD .nilIface) m'):KOK P (ID kv Q num N) ⟨fb,tb,mb,.func (.methodOf 46 "Place") #[] #[],.func (.func fn) #[fa] #[]⟩ 89 (λv=>v.headD .nilIface) m:=by
 exact cq22_
end
section
variable {α ρ:Type} {P:TP α ρ} {kv:α->Value} {Q:α->Prop} {num:α->Nat} {N fb tb mb:Nat} {kf ff:Ax}
def Kq{W:Aw}{r:ρ}{rv:Ax}{T:List (Rw α)}{a:α}{uT:Av}{ux:Ax}(a3:(ID kv Q num N).OK)(E:P.OK (ID kv Q num N) ⟨fb,tb,mb,kf,ff⟩)(h:TbI P (ID kv Q num N) ⟨fb,tb,mb,kf,ff⟩ W r rv false T)(hG:Gd P.Cl T)(hq:P.QV W a [.iface uT ux])(hN:N<=1000000)(hK:∀V,Fr W V N_->Calls prog 89 #[P_ tb,.iface uT ux] V (ju P (ID kv Q num N) ⟨fb,tb,mb,kf,ff⟩ V r rv false T a))(a1:∀V r rv g T,TbI P (ID kv Q num N) ⟨fb,tb,mb,kf,ff⟩ V r rv g T->P.QV V a [.iface uT ux]->a∈T.map Rw.a->Calls prog 89 #[P_ tb,.iface uT ux] V (tZ P (ID kv Q num N) ⟨fb,tb,mb,kf,ff⟩ V r rv g T a))(hL:∀V r rv g T i x,TbI P (ID kv Q num N) ⟨fb,tb,mb,kf,ff⟩ V r rv g T->T[i]?=some x->Calls prog 150 #[P_ tb,Z_ ((i:Nat):Int)] V (cm P (ID kv Q num N) ⟨fb,tb,mb,kf,ff⟩ V r rv g T i)):Calls prog 158 #[P_ tb,.iface uT ux] W (cg P (ID kv Q num N) ⟨fb,tb,mb,kf,ff⟩ W r rv a):=by
 obtain⟨a6,Q_⟩:=y_ (cg P (ID kv Q num N) ⟨fb,tb,mb,kf,ff⟩ W r rv a);rw[<- Q_.o];obtain⟨w1,hw1⟩:=e_ (W.alloc (.cells #[O_,.nilIface] 85));have A1:Fr W w1 N_:=xy_
 have B1:Blk w1 W.heap.size [O_,.nilIface] 85:=yb_
 have J:∀x,TSS P ⟨fb,tb,mb,kf,ff⟩ rv r x->fb<x/\x<W.heap.size:=λx e=>h.li E e;have a0:fb<tb/\tb<W.heap.size:=J tb (.inl (.inl rfl));have few:H_ (∀V r rv g (T:List (Rw α)),TbI P (ID kv Q num N) ⟨fb,tb,mb,kf,ff⟩ V r rv g T->T.length<=N):=zy (λ_ _ _ _ _ h=>wL a3 h.t.nd (λx hx=>(h.t.q x hx).1));have start:H_ (∀F r' rv' g' T' (x:Rw α),x∈T'->x.a=a->TbI P (ID kv Q num N) ⟨fb,tb,mb,kf,ff⟩ F r' rv' g' T'->Stp w1 F (TSS P ⟨fb,tb,mb,kf,ff⟩ rv r) (TSS P ⟨fb,tb,mb,kf,ff⟩ rv' r')->Grw P.Cl T T' false g'->wa P (ID kv Q num N) ⟨fb,tb,mb,kf,ff⟩ W r rv a F r' rv' g' T'/\(g'=false->Gd P.Cl T')):=zy (λF r' rv' g' T' x c K z A k5=>by
  have hb:=A.1.bl B1 (λe=>absurd (J _ e).2 (a2_ _))
  refine⟨⟨z,(C_ A1 (λ_ h=>h)).trans A,a5_.2 ⟨x,c,K⟩,hb,λe=>absurd (J _ (A.2 _ B1.lt e)).2 (a2_ _)⟩,λe y hy=>?_⟩
  obtain⟨R,rfl,_,_,h3⟩:=k5
  rcases a1_.1 hy with hy|hy
  .exact(hG y hy).more E.mono R
  .exact h3 e y hy)
 have step:H_ (∀V r' rv' g' T' V2 B C w l i,wa P (ID kv Q num N) ⟨fb,tb,mb,kf,ff⟩ W r rv a V r' rv' g' T'->TbI P (ID kv Q num N) ⟨fb,tb,mb,kf,ff⟩ V2 B C w l->Stp V V2 (TSS P ⟨fb,tb,mb,kf,ff⟩ rv' r') (TSS P ⟨fb,tb,mb,kf,ff⟩ C B)->Lk P.Cl T' l g' w i->wa P (ID kv Q num N) ⟨fb,tb,mb,kf,ff⟩ W r rv a V2 B C w l):=zy (λV r' rv' g' T' V2 B C w l i c K z A=>
  ⟨K,c.s.trans z,A.mem c.a,z.1.bl c.b c.n,λe=>c.n (z.2 _ c.b.lt e)⟩)
 have flag:H_ (∀V r' rv' g' T' u,wa P (ID kv Q num N) ⟨fb,tb,mb,kf,ff⟩ W r rv a V r' rv' g' T'->wa P (ID kv Q num N) ⟨fb,tb,mb,kf,ff⟩ W r rv a (V.setCell ⟨tb,4,none⟩ (.bool u)) r' rv' u T'):=zy (λV r' rv' g' T' u c=>by
  have H:Fr V (V.setCell ⟨tb,4,none⟩ (.bool u)) (TbS tb mb rv'):=(X_ V ⟨tb,4,none⟩ (.bool u)).mono (λx _ e=>.inl e)
  have h3:=c.i.turn E (rv':=rv') ⟨H,λ_ _ h=>h⟩ (c.i.t.flag a3 u) (λy hy=>.inl hy)
  exact⟨h3.1,c.s.trans h3.2,c.a,H.bl c.b (λe=>c.n (.inl e)),c.n⟩)
 have fin:H_ (∀V r' rv' T' (y:Rw α) V1,wa P (ID kv Q num N) ⟨fb,tb,mb,kf,ff⟩ W r rv a V r' rv' false T'->Gd P.Cl T'->y∈T'->y.a=a->∀G,TbI P (ID kv Q num N) ⟨fb,tb,mb,kf,ff⟩ G r' rv' false T'->Stp V G (TSS P ⟨fb,tb,mb,kf,ff⟩ rv' r') (TSS P ⟨fb,tb,mb,kf,ff⟩ rv' r')->V1=(G.setCell ⟨W.heap.size,0,none⟩ (I_ y.n)).setCell ⟨W.heap.size,1,none⟩ y.d->a6 (.returned (.agg #[I_ y.n,y.d])) V1):=zy (λV r' rv' T' y V1 c K z A G k5 k6 k7=>by
  rw[Q_.o,k7]
  have H:=J_ G W.heap.size 0 1 (I_ y.n) y.d
  have hb:=k6.1.bl c.b c.n
  exact⟨r',rv',T',y,rfl,z,A,k5.put E yq_ hb H,⟨(c.s.trans k6).1.trans H (λy hy e=>M_),(c.s.trans k6).2⟩,K⟩)
 have qv:H_ (∀V r' rv' g' T',wa P (ID kv Q num N) ⟨fb,tb,mb,kf,ff⟩ W r rv a V r' rv' g' T'->P.QV V a [.iface uT ux]):=zy (λV r' rv' g' T' k=>E.qv _ _ _ _ _ hq k.s.1 (λx hx=>(J x hx).1));have a8:=zy (hK w1 A1);replace a1:=zy a1;replace hL:=zy hL;replace hw1:=zy hw1;go_in;go_upto_region 1 with fail;rw[<- hw1.o];go_wp2_with (go_at_call 89;apply a8.o.mono;rintro e F ⟨B,C,w,l,x2,rfl,x3,x4,h2,s2,G2⟩;obtain⟨X,O⟩:=start.o F B C w l x2 x3 x4 h2 s2 G2;replace X:=zy X;replace O:=zy O);go_loopg [] (phi N l+1) (λm V=>∃r' rv' g' T',H_ (wa P (ID kv Q num N) ⟨fb,tb,mb,kf,ff⟩ W r rv a V r' rv' g' T')/\H_ (g'=false->Gd P.Cl T')/\(g'=true->phi N T'<m));case atStart=>exact⟨B,C,w,l,X,O,λ_=>M_⟩
 case round=>
  obtain⟨r3,b4,g3,p,f,H3,a2⟩:=hrel;have c4:=f.o.i.t.b.c4;have t4:=f.o.i.t.b.th 4;cases g3
  .have a5:=zy (H3.o rfl);go_wp2_with (go_at_call 89;apply(a1.o _ _ _ _ _ f.o.i (qv.o _ _ _ _ _ f) f.o.a).mono;rintro e w5 ⟨y,rfl,y1,y2,h5,s5⟩;have D:=s5.1.bl f.o.b f.o.n;have q0:=D.c0;have q1:=D.c1;have z0:=D.th 0;have z1:=D.th 1;have s1:=λW a m=>run_store prog W a y.d m ((h5.t.q y y1).2.2.2).one;have B8:Blk ((w5.setCell ⟨W.heap.size,0,none⟩ (I_ y.n)).setCell ⟨W.heap.size,1,none⟩ y.d) W.heap.size [I_ y.n,y.d] 85:=(D.set 0 _).set 1 _;have x0:=B8.c0;have x1:=B8.c1;have a7:=zy (λV1=>fin.o _ r3 b4 p y V1 f a5 y1 y2 w5 h5 s5);generalize y.n=yn at *;generalize y.d=yd at *);refine bodyPost_ret (v:=.agg #[I_ yn,yd]) (by simp[results,results158,go_sem,x0,x1]) rfl ?_;exact a7.o _ rfl
  .have hm:=a2 rfl;have Y:=zy (flag.o _ _ _ _ _ false f);obtain⟨ra,rc,rfl⟩:=zw f.o.i.t.row;have c2:=Y.o.i.t.b.c2;have b5:=few.o _ _ _ _ _ Y.o.i;have a4:H_ (SIn P.Cl N p.length 0 (phi N p) false p):=zy ⟨l_,l_,λe=>yk_,λ_ i x hx hi=>by
    have:=(aj_.1 hx).1
    omega⟩
   generalize hM:p.length=M at *;replace hM:=zy hM;go_wp2;go_loopg [21] (M+1) (λm v V=>∃j:Nat,∃r' rv' g' T',v=I_ j/\j<=M/\M+1-j<=m/\H_ (wa P (ID kv Q num N) ⟨fb,tb,mb,kf,ff⟩ W r rv a V r' rv' g' T')/\H_ (SIn P.Cl N M j (phi N p) g' T'));case atStart=>exact⟨0,_,_,_,_,rfl,al_ _,M_,Y,a4⟩
   case round=>
    obtain⟨j,r5,b7,g5,T5,rfl,hj,b6,Z,U⟩:=hrel;by_cases a0:j<M
    .have a9:(j:Int)<(M:Int):=M_;obtain⟨x,hx⟩:∃x,T5[j]?=some x:=⟨_,ai_ (bi_ a0 U.o.1)⟩;replace hx:=zy hx;go_wp2_with (go_at_call 150;apply(hL.o _ _ _ _ _ j x Z.o.i hx).mono;rintro e w6 ⟨r6,b8,g6,T6,rfl,h6,s6,l6⟩;have S6:=zy (step.o _ _ _ _ _ _ _ _ _ _ _ Z h6 s6 l6);have I6:=zy (U.o.step E.mono l6 (few.o _ _ _ _ _ h6) (λy hy=>(Z.o.i.t.q y hy).2.2.1) (λy hy=>(h6.t.q y hy).2.2.1)));go_roundg (M+1-(j+1));case measure=>omega
     case rel=>exact⟨j+1,_,_,_,_,by simp,a0,l_,S6,I6⟩
    .have a9:¬((j:Int)<(M:Int)):=M_;obtain rfl:j=M:=M_;have nx:H_ (g5=false->Gd P.Cl T5):=zy (λe y hy=>by
      obtain⟨i,hi⟩:=bw_ hy
      exact U.o.2.2.2 e i y hi M_)
     have D:=U.o.2.2.1;go_wp2;go_roundg (phi N p);case measure=>exact hm
     case rel=>exact⟨_,_,_,_,Z,nx,D⟩
end
inductive Qu where
 |ty (t:PT)
 |bd (p:Nat) (X:PB)
abbrev By:=Value×List (Rw Qu)
abbrev Dr:=List (Rw Qu)
structure FD where
 fb:Nat
 tb:Nat
 mb:Nat
 tu:Nat
 mu:Nat
 P:Nat->Prop
 P':Nat->Prop
 s:BA
 s':BA
 ds:List PD
 ds':List PD
 sv:Value
 sv':Value
 sT:TypeId
 rT:TypeId
 sx:Value
 rx:Value
 xs:List Value
 xs':List Value
 w0:World
structure FD.OK(F:FD):Prop where
 hs:F.s.size<=300
 hs':F.s'.size<=300
 g:vj F.ds
 g':vj F.ds'
 e:qW (zx F.ds)
 e':qW (zx F.ds')
 n:∀c X,zx F.ds c=some X->zY c=true
 pP:∀x,F.P x->x<F.fb
 pP':∀x,F.P' x->x<F.fb
 pw:F.w0.heap.size<=F.fb
 mm:F.mb≠F.mu
structure FX(F:FD)(W:Aw):Prop where
 b:Blk W F.fb [F.sv,.iface F.sT F.sx,F.sv',.iface F.rT F.rx,P_ F.tb,P_ F.tu] 89
 D:yR W F.P F.s F.ds F.sv F.xs
 E:yR W F.P' F.s' F.ds' F.sv' F.xs'
 G:yu F.w0 W
def FX.fr{F:FD}(c:F.OK)(h:FX F W)(hf:Fr W W' S)(a:∀x,S x->F.fb<x):FX F W':=by
 have hw:=c.pw;have hb:=h.b.lt;exact⟨hf.bl h.b (λe=>absurd (a _ e) (a2_ _)),h.D.fr hf (λx hx e=>o2_ (a x e) (c.pP x hx)),h.E.fr hf (λx hx e=>o2_ (a x e) (c.pP' x hx)),h.G.fr hf M_ (λx e=>o1_ (a x e))⟩
def bo:Qu->Nat
 | .ty t=>t.place
 | .bd p _=>p
def okQ(F:FD):Qu->Prop
 | .ty t=>wK F.s t/\okT (zx F.ds) t/\vq t
 | .bd p X=>pB F.s p X/\∃c,zx F.ds c=some X
def dI(F:FD):TI Qu:=ID (λq=>Z_ (bo q:Int)) (okQ F) bo 300
def Ux:Value->Option Value
 | .iface _ (.agg cs)=>cs[0]?
 | _=>none
def qvD(F:FD)(W:Aw):Qu->List Value->Prop
 | .ty t,v=>∃u,v=[u]/\TyV W F.P t u
 | .bd p X,v=>∃u,v=[u]/\yV W F.P F.s X u/\Ux u=some (Z_ (p:Int))
def QT(F:FD):Qu->PT->Prop
 | .ty t,u=>u=t
 | .bd _ X,u=>∃c p,u=.leaf c p/\zi c=false/\zx F.ds c=some X
def svD(F:FD)(W:Aw)(J:Az)(D:Dg)(A:Ev)(n:Nat)(d:Ax):Prop:=
 (n=0\/n=301->d=.nilIface)/\(n≠0->∃x,D x/\nd3 x=n/\(n<=300->∀u,A u->DaV (zx F.ds) W J x u d))
def QD(F:FD)(q:Qu)(x:DT):Prop:=∀u,QT F q u->Dat (zx F.ds) x u
def fV{α:Type}(T:List (Rw α))(a:α)(k:Nat):Prop:=∃r∈T,r.a=a/\r.n=k
def ClD(F:FD)(T:Dr):Qu->Nat->Prop
 | .ty (.leaf c _),v=>if zi c=true then v=1 else ∃p X,zx F.ds c=some X/\fV T (.bd p X) v
 | .ty (.wrap _ _ _),v=>v=1
 | .ty (.alts _ l),v=>∀t∈l,∃k,fV T (.ty t) k/\le0 v (jnN [k])
 | .bd _ (.recd fs),v=>∃ks:List Nat,ks.length=fs.length/\(∀(q:Nat) (f:PF) (k:Nat),fs[q]?=some f->ks[q]?=some k->fV T (.ty f.ty) k)/\v=jnN ks
 | .bd _ _,v=>v=1
def dT(F:FD):TP Qu Unit:=⟨λW _=>FX F W,λ_ _=>False,λW J a n d=>svD F W J (QD F a) (QT F a) n d,λW a v=>qvD F W a v/\okQ F a,ClD F⟩
def dL(F:FD):TL:=⟨F.fb,F.tb,F.mb,.func (.methodOf 46 "Place") #[] #[],.func (.func 50) #[P_ F.fb] #[]⟩
def fV.more{α:Type}{T:List (Rw α)}{a:α}(h:fV T a k)(R:List (Rw α)):fV (T++R) a k:=by
 obtain⟨r,h1,b,c⟩:=h;exact⟨r,b1_ _ h1,b,c⟩
def WE(F:FD):Qi (ClD F):=by
 intro T R a v h;cases a with
 |ty t=>
  cases t with
  |leaf c p=>
   simp only[ClD]at *;split
   .rename_i hc;rw[i_ hc]at h;exact h
   .rename_i hc;rw[n_ hc]at h;obtain⟨p,X,h1,b⟩:=h;exact⟨p,X,h1,b.more R⟩
  |wrap c p t=>exact h
  |alts p l=>
   intro t m;obtain⟨k,h1,b⟩:=h t m;exact⟨k,h1.more R,b⟩
 |bd p X=>
  cases X with
  |recd fs=>
   obtain⟨ks,h1,b,j⟩:=h;exact⟨ks,h1,λq f k e e'=>(b q f k e e').more R,j⟩
  |enum l o=>exact h
  |bytes n=>exact h
def DaV.ot{env:Au}{J:Az}{d:DT}{T:Nat}(h:DaV env W J d t v)(hb:Blk W q cs T)(h1:T≠52)(b:T≠201)(hf:Fr W W' (λx=>x=q)):DaV env W' J d t v:=by
 have no:∀{e k n lv ys},W.ownsRow 0 e k lv n ys->T≠e->∀g,lv.ownBlock=some g->¬g=q:=λ{e k n lv ys} ho hT g hg eq=>by
  subst eq;rcases ho.2 with⟨e',_⟩|⟨g',c,c,e',_,a,_⟩
  .subst e';simp[Value.ownBlock]at hg
  .subst e';simp only[Value.ownBlock,af_]at hg;subst hg;unfold Blk at hb;rw[hb]at a;simp only[af_,Obj.cells.injEq]at a;exact hT a.2.1
 induction h with
 |flat h hs=>exact .flat h hs
 |branch n h hd ih=>exact .branch n h ih
 |row Y hc ho hP hd ih=>exact .row Y hc (zj ho hf (no ho h1)) hP ih
 |map Y hl hk ho hP hd ih=>exact .map Y hl hk (zj ho hf (no ho b)) hP ih
def svD.stp{F:FD}{S':Az}{D:Dg}{A:Ev}(h:svD F W (λx=>¬S x) D A n d)(hs:Stp W W' S S'):svD F W' (λx=>¬S' x) D A n d:=by
 refine⟨h.1,λe=>?_⟩;obtain⟨x,h1,a,b⟩:=h.2 e;refine⟨x,h1,a,λe' u hu=>?_⟩;have c:DaV (zx F.ds) W (λx=>¬S x/\x<W.heap.size) x u d:=(b e' u hu).mono (λg h1 a=>⟨a,h1⟩);exact(c.fr hs.1 (λg hg=>hg.1)).mono (λg _ hg e=>hg.1 (hs.2 g hg.2 e))
def svD.put{F:FD}{J:Az}{D:Dg}{A:Ev}{T:Nat}(h:svD F W J D A n d)(hb:Blk W q cs T)(h1:T≠52)(a:T≠201)(hf:Fr W W' (λx=>x=q)):svD F W' J D A n d:=by
 refine⟨h.1,λe=>?_⟩;obtain⟨x,b,c,f⟩:=h.2 e;exact⟨x,b,c,λe' u hu=>(f e' u hu).ot hb h1 a hf⟩
def qvD.fr{F:FD}(b:F.OK){a:Qu}{v:Ay}(h:qvD F W a v)(hf:Fr W W' S)(c:∀x,S x->F.fb<x):qvD F W' a v:=by
 have hP:∀x,F.P x->¬S x:=λx hx e=>by have:=c x e;have:=b.pP x hx;omega
 cases a with
 |ty t=>
  obtain⟨u,rfl,h⟩:=h;exact⟨u,rfl,h.fr hf hP⟩
 |bd p X=>
  obtain⟨u,rfl,h,hp⟩:=h;exact⟨u,rfl,h.fr hf hP,hp⟩
def lQ(h:wK s t):t.place<s.size:=by
 obtain⟨j,h⟩:=h;by_cases hi:t.place<=s.size
 .have:=(xV hi).1 _ _ h;omega
 .rw[wY]at h;unfold vR at h;rw[wh M_]at h;simp[zi,zY]at h
def KU{p:Nat}{X:PB}(h:pB s p X):p<s.size:=by
 obtain⟨j,h⟩:=h;unfold yG at h;by_cases hi:p<s.size
 .exact hi
 .rw[wh M_]at h;simp at h
def oN{F:FD}(f:F.OK):(dI F).OK where
 tt:=by show 213≠297;decide
 keyed:=Maps.int_keyed qV
 key:=λa ha=>⟨_,Maps.keyOf_int_mk qV (WalkArith.wf_i64 (by
  have:bo a<300:=by
   cases a with
   |ty t=>have:=lQ ha.1;have:=f.hs;show t.place<300;omega
   |bd p X=>have:=KU ha.1;have:=f.hs;show p<300;omega
  omega))⟩
 kinj:=λa b ha hb e=>by
  have e':bo a=bo b:=by
   have:Value.int .i64 (bo a:Int)=.int .i64 (bo b:Int):=e;simp only[Value.int.injEq,true_and]at this;omega
  exact dInj ha hb e'
 lt:=λa ha=>by
  cases a with
  |ty t=>have:=lQ ha.1;have:=f.hs;show t.place<300;omega
  |bd p X=>have:=KU ha.1;have:=f.hs;show p<300;omega
 inj:=λa b ha hb e=>dInj ha hb e
 where
 dInj:∀{a b:Qu},okQ F a->okQ F b->bo a=bo b->a=b:=by
  intro a b ha hb e;cases a with
  |ty t=>
   cases b with
   |ty t'=>
    obtain⟨j,h1⟩:=ha.1;obtain⟨j',c⟩:=hb.1;have e':t.place=t'.place:=e;rw[e',c]at h1;cases h1;rfl
   |bd p X=>
    obtain⟨j,c⟩:=hb.1;have e':t.place=p:=e;subst e';exact(rU ha.1 c).elim
  |bd p X=>
   cases b with
   |ty t'=>
    obtain⟨j,c⟩:=ha.1;have e':p=t'.place:=e;subst e';exact(rU hb.1 c).elim
   |bd p' X'=>
    obtain⟨j,h1⟩:=ha.1;obtain⟨j',c⟩:=hb.1;have e':p=p':=e;subst e';rw[h1]at c;cases c;rfl
def fG{F:FD}(b:F.OK):(dT F).OK (dI F) (dL F) where
 rs:=λW r x _ h=>h.elim
 rfr:=λW W' r rv g T h c hf=>h.fr b hf (λx hx=>(c.li hx).1)
 rnew:=λW W' r h hf=>h.fr b hf (λ_ f=>f.elim)
 sv:=λW W' S S' a n d h hs=>svD.stp h hs
 qv:=λW W' S a v h hf c=>⟨qvD.fr b h.1 hf c,h.2⟩
 mono:=WE F
 z:=λW J a=>⟨λ_=>rfl,λe=>absurd rfl e⟩
 put:=λW W' r q cs c h _ hf=>h.fr b hf (λx e=>e▸c)
 svp:=λW W' J a n d q cs h hb hf=>svD.put h hb D_ D_ hf
 tt:=⟨by show 213≠_;decide,by show 297≠_;decide⟩
def rP{P:Az}{X:PB}(h:yV W P s X v):∃p T x,v=.iface T x/\pB s p X/\Ux v=some (I_ p)/\∀W,(method 554 T x "Place").run prog W=.ok (72,I_ p) W:=by
 cases h with
 |recd p ho hP h hp=>exact⟨p,_,_,rfl,hp,rfl,λW=>K_⟩
 |enum p ho hP h hp=>exact⟨p,_,_,rfl,hp,rfl,λW=>K_⟩
 |bytes p n hp=>exact⟨p,_,_,rfl,hp,rfl,λW=>K_⟩
def ZJ{F:FD}(b:F.OK){a:Qu}{v:Ay}(h:qvD F W a v)(ha:okQ F a):Mw (λq=>Z_ (bo q:Int)) a v:=by
 cases a with
 |ty t=>
  obtain⟨u,rfl,h⟩:=h;obtain⟨T,x,rfl⟩:=h.iface;have:=lQ ha.1;have:=b.hs;exact⟨T,x,t.place,rfl,rfl,M_,wR h⟩
 |bd p X=>
  obtain⟨u,rfl,h,hp⟩:=h;obtain⟨p',T,x,rfl,_,c,f⟩:=rP h;rw[c]at hp;have e:(p':Int)=(p:Int):=by simpa using hp
  obtain rfl:p'=p:=M_;have:=KU ha.1;have:=b.hs;exact⟨T,x,p',rfl,rfl,M_,f⟩
def Ze{F:FD}{T:Dr}(h:Gd (ClD F) T):ClT (zx F.ds) (λt n=>fV T (.ty t) n) where
 one:=λt n hk ha hr=>by
  obtain⟨r,f,j,rfl⟩:=hk;obtain⟨v,h1,e⟩:=h r f;have a:=pm e;rw[j]at h1;cases t with
  |alts p l=>cases ha
  |wrap c p t=>
   have:v=1:=h1;rw[this]at a;exact a
  |leaf c p=>
   simp only[ClD]at h1;split at h1
   .rw[h1]at a;exact a
   .rename_i hb;obtain⟨p',X,m,r',w,x,rfl⟩:=h1;obtain⟨y,b,u⟩:=h r' w;rw[x]at b;refine a.trans ((pm u).trans ?_);cases X with
    |recd fs=>exact absurd m (hr c p fs rfl (by simpa using hb))
    |enum l o=>
     have:y=1:=b;rw[this];exact .refl 1
    |bytes n=>
     have:y=1:=b;rw[this];exact .refl 1
 recd:=λc p n fs hk hb he=>by
  obtain⟨r,f,j,rfl⟩:=hk;obtain⟨v,h1,e⟩:=h r f;rw[j]at h1;simp only[ClD]at h1;rw[n_ zs_]at h1;obtain⟨p',X,m,r',w,x,rfl⟩:=h1;rw[he]at m;cases m;obtain⟨y,b,u⟩:=h r' w;rw[x]at b;obtain⟨ks,B,C,D⟩:=b;rw[D]at u;exact⟨ks,B,C,(pm e).trans (pm u)⟩
 alts:=λp l n hk t A=>by
  obtain⟨r,f,j,rfl⟩:=hk;obtain⟨v,h1,e⟩:=h r f;rw[j]at h1;obtain⟨k,a,z⟩:=h1 t A;exact⟨k,a,(pm e).trans z⟩
end Go.Proofs.YtlmebjdmdogmfaaGreatDoor
