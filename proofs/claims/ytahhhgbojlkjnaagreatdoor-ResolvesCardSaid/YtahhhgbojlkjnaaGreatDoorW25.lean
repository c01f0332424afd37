import Derived.Test.YtahhhgbojlkjnaaGreatDoorW24
set_option maxHeartbeats 16000000
set_option maxRecDepth 100000
set_option linter.defProp false
set_option linter.unusedSimpArgs false
set_option linter.unusedVariables false
open Go.Proofs.Tryz
namespace Go.Proofs.YtahhhgbojlkjnaaGreatDoor
open Go.RowKit
variable {ew er:Ay}{P:Au}{c:Nat}{s s':BA}{n:Int}{x r:PT}{v u a:Ax}{Z:Cl}
def xG:PB->Nat×Nat
 | .recd _=>(114,0)
 | .enum _ _=>(101,0)
 | .bytes n=>(102,n)
def yw(ew er:Ay):PT->PT->Bool
 | .leaf c _,.leaf c' _=>
  if zY c=true then (c'==c||(c==105&&c'==108))
  else c==c'&&(match ew c,er c' with|some a,some b=>decide (xG a=xG b)|_,_=>false)
 | .wrap c _ _,.wrap c' _ _=>c==c'
 | _,_=>false
def xp(ew er:Ay)(w:PT):List PT->Nat->Option Nat->Option Nat
 | [],_,k=>k
 |r::rs,i,k=>xp ew er w rs (i+1) (if (yw ew er w r&&(k.isNone||r.kind==105))=true then some i else k)
def yb{α β:Type}(g:α->Option β):List α->Option (List β)
 | []=>some []
 |a::r=>match g a with|none=>none|some b=>match yb g r with|none=>none|some l=>some (b::l)
def kA(fs:Am)(c:Nat):Option Nat:=(fs.map PF.letter).findIdx? (λx=>x==c)
def qE(l:Av)(o:Ac)(c:Nat):Option Nat:=
 match (l.map Prod.fst).findIdx? (λx=>x==c) with
 |some q=>some q
 |none=>match o with|none=>none|some (u,_)=>(l.map Prod.fst).findIdx? (λx=>x==u)
def mkF(R:Cz)(df:Ad)(fw:Am)(ds:Ak)(g:PF):Option DT:=
 match kA fw g.letter with
 |some i=>match fw[i]?,ds[i]? with|some h,some d=>R h.ty g.ty d|_,_=>none
 |none=>df g
def mkB(R:Cz)(ew er:Ay)(df:Ad):PT->PT->DT->Option DT
 | .leaf c _,.leaf c' _,.mk k n tx ks ds=>
  if zY c=true then some (.mk (if c'=108 then 108 else k) n tx ks ds)
  else match ew c,er c' with
   |some (.recd fw),some (.recd fr)=>(yb (mkF R df fw ds) fr).map (λl=>.mk 114 0 noB [] l)
   |some (.enum lw _),some (.enum lr o)=>(qE lr o ((lw.map Prod.fst).getD n.toNat 0)).map (λ(q:Nat)=>DT.mk 101 (q:Int) noB [] [])
   |some (.bytes _),some (.bytes _)=>some (.mk k n tx ks ds)
   | _,_=>none
 | .wrap _ _ u,.wrap _ _ u',.mk k n tx ks ds=>(yb (R u u') ds).map (λl=>.mk k n tx ks l)
 | _,_,_=>none
def mkP(ew er:Ay)(df:Ad):Nat->PT->PT->DT->Option DT
 | 0,_,_,_=>none
 |f+1,w,r,d=>
  match w with
  | .alts _ ws=>match d with | .mk _ n _ _ ds=>match ws[n.toNat]?,ds with|some w1,d1::_=>mkP ew er df f w1 r d1|_,_=>none
  |w=>match r with
   | .alts _ rs=>match xp ew er w rs 0 none with
    |none=>none
    |some k=>match rs[k]? with|none=>none|some r1=>(mkB (mkP ew er df f) ew er df w r1 d).map (λx=>.mk 40 (k:Int) noB [] [x])
   |r=>if yw ew er w r=true then mkB (mkP ew er df f) ew er df w r d else none
def gJ{α β:Type}{g:α->Option β}:∀{l:List α}{m:List β},yb g l=some m->m.length=l.length/\∀(i:Nat) (a:α) (b:β),l[i]?=some a->m[i]?=some b->g a=some b
 | [],m,h=>by simp only[yb,ae_]at h;subst h;exact⟨rfl,λi a b ha=>by simp at ha⟩
 |x::r,m,h=>by
  unfold yb at h;split at h
  .cases h
  .rename_i b hb;split at h
   .cases h
   .rename_i l hl;simp only[ae_]at h;subst h;obtain⟨h1,d⟩:=gJ hl;refine⟨by simp[h1],λi a c ha hc=>?_⟩;cases i with
    |zero=>simp at ha hc;subst ha hc;exact hb
    |succ i=>exact d i a c (by simpa using ha) zb_
def lj{w:PT}:∀(rs:List PT) (i:Nat) (k:Option Nat) (all:List PT),(∀j,k=some j->∃r,all[j]?=some r/\yw ew er w r=true)->(∀j,rs[j]?=all[i+j]?)->∀q,xp ew er w rs i k=some q->∃r,all[q]?=some r/\yw ew er w r=true
 | [],i,k,all,hk,_,q,h=>by
  simp only[xp]at h;exact hk q h
 |r::rs,i,k,all,hk,hr,q,h=>by
  unfold xp at h;refine lj rs (i+1) _ all (λj d=>?_) (λj=>?_) q h
  .split at d
   .rename_i hc;simp only[ae_]at d;subst d;simp only[a0_]at hc;exact⟨r,by have:=hr 0;simpa using this.symm,hc.1⟩
   .exact hk j d
  .have:=hr (j+1);rw[ab_]at this;rw[this]
   congr 1
   omega
def Pm(er:Ay)(df:Ad):Prop:=∀c fs g x,er c=some (.recd fs)->g∈fs->df g=some x->Dat er x g.ty
def cwsJ1_{p:Prop}(h:p:=by
 (first|(have:=cc1;rename_i ks ds)|(rename_i ds));simp only[mkB]at h;cases hx:yb (R u u') ds with
 |none=>rw[hx]at h;cases h
 |some l=>
  rw[hx]at h;simp only[a4_,ae_]at h;subst h;obtain⟨h1,h2⟩:=gJ hx;(first|(have:=cc1;refine .map M_ M_ hrs (λy hy=>?_))|(refine .list M_ (λy hy=>?_)));obtain⟨i,hi⟩:=cf_ hy;have hlt:=(am_.1 hi).1;obtain⟨a,ha⟩:∃a,ds[i]?=some a:=⟨_,ak_ M_⟩;exact hR _ _ _ _ (hds a (al_ ha)) hr.2 hf (h2 i a y ha hi)):p:=h
def sJ{df:Ad}(C:Pm er df){R:Cz}(hR:∀w r d x,Dat ew d w->okT er r->xM r->R w r d=some x->Dat er x r)(D:jr er)(E:uM er){w:PT}{d x:DT}(hd:Dat ew d w)(hr:okT er r)(hf:xM r)(hm:yw ew er w r=true)(h:mkB R ew er df w r d=some x):Dat er x r:=by
 cases w with
 |alts p l=>simp[yw]at hm
 |wrap c p u=>
  cases r with
  |leaf c' p'=>simp[yw]at hm
  |alts p' l'=>simp[yw]at hm
  |wrap c' p' u'=>
   obtain rfl:c=c':=by simpa[yw] using hm
   unfold okT at hr;unfold xM at hf;cases hd with
   |list hl hds=>
    exact cwsJ1_
   |map hl hk hrs hds=>
    have cc1:=Nat;exact cwsJ1_
 |leaf c p=>
  cases r with
  |wrap c' p' u'=>simp[yw]at hm
  |alts p' l'=>simp[yw]at hm
  |leaf c' p'=>
   simp only[yw]at hm;by_cases hb:zY c=true
   .rw[i_ hb]at hm;simp only[av_,beq_iff_eq,a0_]at hm;cases hd with
    |null=>
     obtain rfl:c'=110:=M_;simp only[mkB,i_ hb,show ¬(110:Nat)=108 by decide,if_false,ae_]at h;subst h;exact .null
    |bool f=>
     obtain rfl:c'=116:=M_;simp only[mkB,i_ hb,show ¬(116:Nat)=108 by decide,if_false,ae_]at h;subst h;exact .bool f
    |num h0 h1=>
     rcases hm with rfl|⟨_,rfl⟩
     .simp only[mkB,i_ hb,show ¬(105:Nat)=108 by decide,if_false,ae_]at h;subst h;exact .num h0 h1
     .simp only[mkB,i_ hb,if_true,ae_]at h;subst h;exact .long M_ M_
    |long h0 h1=>
     obtain rfl:c'=108:=M_;simp only[mkB,i_ hb,if_true,ae_]at h;subst h;exact .long h0 h1
    |text hx h1=>
     obtain rfl:c'=115:=M_;simp only[mkB,i_ hb,show ¬(115:Nat)=108 by decide,if_false,ae_]at h;subst h;exact .text hx h1
    |bytes he hb' hx=>rw[hb]at hb';cases hb'
    |sym he hb' hn=>rw[hb]at hb';cases hb'
    |recd he hb' hl hh=>rw[hb]at hb';cases hb'
   .rw[n_ hb]at hm;simp only[a0_,beq_iff_eq]at hm;obtain⟨rfl,hm⟩:=hm;have k:zY c=false:=by simpa using hb
    cases hd with
    |null=>exact absurd rfl (xh k).1
    |bool _=>exact absurd rfl (xh k).2.1
    |num _ _=>exact absurd rfl (xh k).2.2.1
    |long _ _=>exact absurd rfl (xh k).2.2.2.1
    |text _ _=>exact absurd rfl (xh k).2.2.2.2
    |bytes he hb' hx=>
     rename_i J;simp only[mkB,n_ hb,he]at h;rw[he]at hm;cases e:er c with
     |none=>rw[e]at h;cases h
     |some pb=>
      rw[e]at h hm;cases pb with
      |recd fs=>cases h
      |enum l o=>cases h
      |bytes n=>
       simp only[ae_]at h;subst h;simp only[xG,ac_,true_and,decide_eq_true_eq]at hm;subst hm;exact .bytes e k hx
    |sym he hb' hn=>
     rename_i q l o;simp only[mkB,n_ hb,he]at h;cases e:er c with
     |none=>rw[e]at h;cases h
     |some pb=>
      rw[e]at h;cases pb with
      |recd fs=>cases h
      |bytes n=>cases h
      |enum lr o'=>
       simp only at h;generalize (l.map Prod.fst).getD ((q:Int)).toNat 0=cc at h;cases f:qE lr o' cc with
       |none=>rw[f]at h;cases h
       |some q'=>
        rw[f]at h;simp only[a4_,ae_]at h;subst h;refine .sym e k ?_;unfold qE at f;split at f
        .rename_i I hf;simp only[ae_]at f;subst f;obtain⟨h1,_⟩:=List.findIdx?_eq_some_iff_getElem.1 hf;simpa using h1
        .split at f
         .cases f
         .obtain⟨h1,_⟩:=List.findIdx?_eq_some_iff_getElem.1 f;simpa using h1
    |recd he hb' hl hh=>
     rename_i fw ds;simp only[mkB,n_ hb,he]at h;cases e:er c with
     |none=>rw[e]at h;cases h
     |some pb=>
      rw[e]at h;cases pb with
      |enum l o=>cases h
      |bytes n=>cases h
      |recd fr=>
       simp only at h;cases hx:yb (mkF R df fw ds) fr with
       |none=>rw[hx]at h;cases h
       |some l=>
        rw[hx]at h;simp only[a4_,ae_]at h;subst h;obtain⟨h1,h2⟩:=gJ hx;refine .recd e k h1 (λi y t hy m=>?_);rw[a1_]at m;cases hg:fr[i]? with
        |none=>rw[hg]at m;cases m
        |some g=>
         rw[hg]at m;simp only[a4_,ae_]at m;subst m;have hk:=h2 i g y hg hy;have z:=al_ hg;unfold mkF at hk;split at hk
         .rename_i j H;split at hk
          .rename_i G F A B;exact hR _ _ _ _ (hh j F G.ty B (by rw[a1_,A];rfl)) (D c _ e g z) ((E c fr e).2 g z) hk
          .cases hk
         .exact C c fr g y e z hk
def KO{df:Ad}(o:Pm er df)(t:jr er)(z:uM er):∀(f:Nat) (w r:PT) (d x:DT),Dat ew d w->okT er r->xM r->mkP ew er df f w r d=some x->Dat er x r:=by
 intro f;induction f with
 |zero=>intro w r d x _ _ _ h;simp[mkP]at h
 |succ f ih=>
  have m:∀w r d x,Dat ew d w->okT er r->xM r->mkP ew er df f w r d=some x->Dat er x r:=ih;intro w r d x hd hr g h;have plain:∀w:PT,(∀p l,w≠.alts p l)->Dat ew d w->mkP ew er df (f+1) w r d=some x->Dat er x r:=by
   intro w A hd h;cases r with
   |alts p rs=>
    have e:(match xp ew er w rs 0 none with|none=>none|some k=>match rs[k]? with|none=>none|some r1=>(mkB (mkP ew er df f) ew er df w r1 d).map (λx=>DT.mk 40 (k:Int) noB [] [x]))=some x:=by
     cases w with
     |alts p l=>exact absurd rfl (A p l)
     |leaf c p=>simpa only[mkP] using h
     |wrap c p u=>simpa only[mkP] using h
    split at e
    .cases e
    .rename_i k hk;obtain⟨r1,i,hm⟩:=lj rs 0 none rs (λj C=>by cases C) (λj=>by rw[bp_]) k hk;rw[i]at e;simp only at e;cases hx:mkB (mkP ew er df f) ew er df w r1 d with
     |none=>rw[hx]at e;cases e
     |some y=>
      rw[hx]at e;simp only[a4_,ae_]at e;subst e;unfold okT at hr;unfold xM at g;have E:=(am_.1 i).1;have B:=al_ i;exact .alts M_ i (sJ o m t z hd (xC hr.2 r1 B).2 (wy g.2 r1 B) hm hx)
   |leaf c' p'=>
    have e:(if yw ew er w (.leaf c' p')=true then mkB (mkP ew er df f) ew er df w (.leaf c' p') d else none)=some x:=by
     cases w with
     |alts p l=>exact absurd rfl (A p l)
     |leaf c p=>simpa only[mkP] using h
     |wrap c p u=>simpa only[mkP] using h
    split at e
    .rename_i hm;exact sJ o m t z hd hr g hm e
    .cases e
   |wrap c' p' u'=>
    have e:(if yw ew er w (.wrap c' p' u')=true then mkB (mkP ew er df f) ew er df w (.wrap c' p' u') d else none)=some x:=by
     cases w with
     |alts p l=>exact absurd rfl (A p l)
     |leaf c p=>simpa only[mkP] using h
     |wrap c p u=>simpa only[mkP] using h
    split at e
    .rename_i hm;exact sJ o m t z hd hr g hm e
    .cases e
  cases w with
  |leaf c p=>exact plain _ (λ_ _ h=>by cases h) hd h
  |wrap c p u=>exact plain _ (λ_ _ h=>by cases h) hd h
  |alts p ws=>
   cases hd with
   |alts hn hl hd1=>
    rename_i q u D;simp only[mkP,bb_,hl]at h;exact m _ _ _ _ hd1 hr g h
def pz(o:Option Nat):Value:=.tuple #[Z_ ((o.getD 0:Nat):Int),.bool o.isSome]
def VT{w:Aw}{fs:Am}{fv:Ax}{zs:Az}{p:Int}(i:xQ w P s fs fv zs)(hl:fs.length<=300):Calls prog 159 #[.agg #[Z_ p,fv],U_ c] w λe w'=>e=.returned (pz (kA fs c))/\Fr w w' N_:=by
 refine hq_ λJ z=>?_;obtain⟨A,B,rfl⟩:=zh i.row;have k:Fr w (w.alloc (.cells #[Z_ p,.slice A fs.length B] 210)) N_:=(A_ w _).alloc _;have D:H_ (∃q:Nat,Value.int .i64 0=I_ q/\q<=fs.length/\fs.length+1-q<=fs.length+1/\Fr w (w.alloc (.cells #[Z_ p,.slice A fs.length B] 210)) N_/\c∉(fs.take q).map PF.letter):=zy ⟨0,rfl,aj_ _,M_,k,by simp⟩;replace i:=zy i;go_in;go_wp2;go_loopg [6,11] (fs.length+1) (λm k v W=>∃q:Nat,v=I_ q/\q<=fs.length/\fs.length+1-q<=m/\Fr w W N_/\c∉(fs.take q).map PF.letter);case atStart=>exact D
 case round=>
  obtain⟨q,rfl,k,hm,h,he⟩:=hrel;have k:=h.size;by_cases C:q<fs.length
  .have G:(q:Int)<(fs.length:Int):=M_;have hd:fs[q]?=some fs[q]:=ak_ C;generalize fs[q]=f at hd;obtain⟨g,k,k⟩:=zu i.o.row M_;cases k;obtain⟨T,x,d,c0,c1,c2,c3,_,_⟩:=(i.o.fr h u_).cells hd;obtain⟨l,j⟩:=x_ f.letter;obtain⟨I,H⟩:=x_ f.place;rw[j]at c1;rw[H]at c0;have t:=zy (h.trans ((A_ wr N_).alloc (.cells #[I_ I,U_ l,.iface T x,.pointer d] 185)) u_);by_cases hb:l=c
   .subst hb
    have hr:=zy (show kA fs l=some q by unfold kA;exact cQ _ q l (by rw[a1_,hd,<- j];rfl) yx_);go_wp2;try go_ret
    rw[z.o,hr.o];exact⟨rfl,t⟩
   .have E:((l:Int)==(c:Int))=false:=y0_
    have F:=zy (show c∉(fs.take (q+1)).map PF.letter by
     rw[a8_,hd]
     simp only[Option.toList_some,bh_,aw_,a5_,bn_,ba_,not_or]
     exact⟨he,λe=>hb (by rw[<- j];exact e.symm)⟩)
    go_wp2;go_roundg (fs.length+1-(q+1));case measure=>omega
    case rel=>exact⟨q+1,rfl,C,l_,t,F⟩
  .have G:¬((q:Int)<(fs.length:Int)):=M_;rw[a6_ M_]at he;have hr:=zy (show kA fs c=none by unfold kA;exact fK he);replace h:=zy h;go_wp2;try go_ret
   rw[z.o,hr.o];exact⟨rfl,h⟩
def Qb{w:Aw}{lv:Ax}{l:Av}{p:Int}(ho:w.ownsRow 0 182 2 lv l.length (yu l))(hu:∃d,u=.pointer d)(hl:l.length<=300):Calls prog 158 #[.agg #[Z_ p,lv,u],U_ c] w λe w'=>e=.returned (pz ((l.map Prod.fst).findIdx? (λx=>x==c)))/\Fr w w' N_:=by
 refine hq_ λH t=>?_;obtain⟨B,C,rfl⟩:=zh ho;obtain⟨z,rfl⟩:=hu;have i:Fr w (w.alloc (.cells #[Z_ p,.slice B l.length C,.pointer z] 215)) N_:=(A_ w _).alloc _;have D:H_ (∃q:Nat,Value.int .i64 0=I_ q/\q<=l.length/\l.length+1-q<=l.length+1/\Fr w (w.alloc (.cells #[Z_ p,.slice B l.length C,.pointer z] 215)) N_/\c∉(l.take q).map Prod.fst):=zy ⟨0,rfl,aj_ _,M_,i,by simp⟩;replace ho:=zy ho;go_in;go_wp2;go_loopg [6,11] (l.length+1) (λm i v W=>∃q:Nat,v=I_ q/\q<=l.length/\l.length+1-q<=m/\Fr w W N_/\c∉(l.take q).map Prod.fst);case atStart=>exact D
 case round=>
  obtain⟨q,rfl,i,hm,h,he⟩:=hrel;have i:=h.size;by_cases A:q<l.length
  .have G:(q:Int)<(l.length:Int):=M_;have hd:l[q]?=some l[q]:=ak_ A;generalize l[q]=f at hd;obtain⟨k,z⟩:=f;obtain⟨g,i,i⟩:=zu ho M_;cases i;have i:=zk ho h u_;have c0:=ze i rfl (xW hd).1;have c1:=ze i rfl (xW hd).2;have j:=zy (h.trans ((A_ wr N_).alloc (.cells #[I_ z,U_ k] 182)) u_);by_cases hb:k=c
   .subst hb
    have hr:=zy (show(l.map Prod.fst).findIdx? (λx=>x==k)=some q from cQ _ q k (by rw[a1_,hd];rfl) yx_);go_wp2;try go_ret
    rw[t.o,hr.o];exact⟨rfl,j⟩
   .have E:((k:Int)==(c:Int))=false:=y0_
    have F:=zy (show c∉(l.take (q+1)).map Prod.fst by
     rw[a8_,hd]
     simp only[Option.toList_some,bh_,aw_,a5_,bn_,ba_,not_or]
     exact⟨he,λe=>hb e.symm⟩)
    go_wp2;go_roundg (l.length+1-(q+1));case measure=>omega
    case rel=>exact⟨q+1,rfl,A,l_,j,F⟩
  .have G:¬((q:Int)<(l.length:Int)):=M_;rw[a6_ M_]at he;have hr:=zy (show(l.map Prod.fst).findIdx? (λx=>x==c)=none from fK he);replace h:=zy h;go_wp2;try go_ret
   rw[t.o,hr.o];exact⟨rfl,h⟩
def Zs{w:Aw}{lv:Ax}{l:Av}{o:Ac}{p:Int}(ho:w.ownsRow 0 182 2 lv l.length (yu l))(hu:qV w P o u)(hl:l.length<=300):Calls prog 136 #[.agg #[Z_ p,lv,u],U_ c] w λe w'=>e=.returned (pz (qE l o c))/\Fr w w' N_:=by
 refine hq_ λJ B=>?_;obtain⟨J,A⟩:∃d,u=.pointer d:=by
  unfold qV at hu;split at hu
  .exact⟨_,hu⟩
  .obtain⟨g',_,e,_⟩:=hu;exact⟨_,e⟩
 have z:=zy (λ(W:World) (L:Fr w W N_) (k:Nat)=>Qb (w:=W) (p:=p) (u:=u) (c:=k) (zk ho L u_) ⟨J,A⟩ hl);obtain⟨C,D,rfl⟩:=zh ho;have j:=zy ((A_ w _).alloc _:Fr w (w.alloc (.cells #[Z_ p,.slice C l.length D,u] 215)) N_);have t:=zy (B_ w #[Z_ p,.slice C l.length D,u] 215);cases h:(l.map Prod.fst).findIdx? (λx=>x==c) with
 |some q=>
  have hr:=zy (show qE l o c=some q by unfold qE;rw[h]);subst A;replace h:=zy h;go_in;go_wp2_with (go_at_call 158;apply(z.o _ j.o c).mono;rintro e w1 ⟨rfl,f⟩;rw[h.o];simp only[pz,b5_,b3_];have i:=zy (j.o.trans f u_));try go_ret
  rw[B.o,hr.o];exact⟨rfl,i.o⟩
 |none=>
  cases o with
  |none=>
   have hr:=zy (show qE l none c=none by unfold qE;rw[h]);obtain rfl:u=.pointer none:=hu;cases A;replace h:=zy h;go_in;go_wp2_with (go_at_call 158;apply(z.o _ j.o c).mono;rintro e w1 ⟨rfl,f⟩;rw[h.o];simp only[pz,Option.getD_none,by_];have i:=zy (j.o.trans f u_);have b2:=(f.bl t.o id).c2);try go_ret
   rw[B.o,hr.o];exact⟨rfl,i.o⟩
  |some cp=>
   obtain⟨m,J⟩:=cp;have hr:=zy (show qE l (some (m,J)) c=(l.map Prod.fst).findIdx? (λx=>x==m) by unfold qE;rw[h]);obtain⟨g,hg,rfl,hB⟩:=hu;cases A;replace h:=zy h;replace hB:=zy hB;go_in;go_wp2_with (go_at_call 158;with_reducible apply(z.o _ j.o c).mono;rintro e w1 ⟨rfl,f⟩;rw[h.o];simp only[pz,Option.getD_none,by_];have i:=zy (j.o.trans f u_);obtain⟨b0,b1,b2⟩:=(f.bl t.o id).d3;have F:=(i.o.bl hB.o id).c1;have G:=zy (f.bl t.o id);have I:=zy (i.o.bl hB.o id));refine tR_ (λW=>z_ W w.heap.size 0 (Z_ p)/\z_ W w.heap.size 1 (.slice C l.length D)/\z_ W w.heap.size 2 (P_ g)/\z_ W g 1 (U_ m)) ?_;refine tY_ 0 ?_;refine tY_ 1 ?_;refine tY_ 2 ?_;refine tY_ 3 ?_;refine tY_ 4 ?_;refine tY_ 5 ?_;refine zd 6 rfl K_ ⟨b0,b1,b2,F⟩ (λK E=>?_);go_simp;apply(z.o _ (i.o.drew) m).mono;rintro e f ⟨rfl,f⟩;refine E _ _ ?_;have h:=f.bl G.o.drew id;have j:=f.bl I.o.drew id;obtain⟨t,z,A⟩:=h.d3;have C:=j.c1;have H:=zy (i.o.drew.trans f u_);unfold pz;refine tY_ 7 ?_;refine tY_ 8 ?_;refine tY_ 9 ?_;refine tY_ 10 ?_;refine zV K_ ⟨t,z,A,C⟩ ?_ _;go_wp2;refine bodyPost_ret (v:=.tuple #[Z_ ((((l.map Prod.fst).findIdx? (λx=>x==m)).getD 0:Nat):Int),.bool ((l.map Prod.fst).findIdx? (λx=>x==m)).isSome]) (by simp[results,results136,go_sem];try rfl) rfl ?_;rw[B.o,hr.o];exact⟨rfl,H.o⟩
set_option maxRecDepth 100000
set_option linter.defProp false
@[go_sem]def WO:=xw 277 20
@[go_sem]def aQ:=vR 277 20 (.agg #[])
@[go_sem]def GG:=xw 225 20
@[go_sem]def ZM:=vR 225 20 (.agg #[O_,.nilIface])
@[go_sem]def Pk:=xw 194 20
@[go_sem]def Vn:=vR 194 20 (.agg #[O_])
@[go_sem]def QQ:=xw 191 20
@[go_sem]def dG:=vR 191 20 (.agg #[O_])
@[go_sem]def WA:=xw 192 20
@[go_sem]def aJ:=vR 192 20 (.agg #[O_])
@[go_sem]def GW:=xw 196 20
@[go_sem]def ZU:=vR 196 20 (.agg #[O_])
@[go_sem]def GK:=xw 197 20
@[go_sem]def ZB:=vR 197 20 (.agg #[O_])
def Zu{w:Aw}(u:As)(h:u≠277)(v:Ax):Calls prog 138 #[.iface u v] w λe w'=>e=.returned (.bool false)/\Fr w w' N_:=by
 have a:=aQ u h v;have d:=zy (λo=>(A_ w N_).alloc o);go_in;go_wp2;try go_ret
 exact⟨rfl,d.o _⟩
def XT{w:Aw}(u:As)(h:u≠225)(v:Ax):Calls prog 139 #[.iface u v] w λe w'=>e=.returned (.bool false)/\Fr w w' N_:=by
 have a:=ZM u h v;have d:=zy (λo=>(A_ w N_).alloc o);go_in;go_wp2;try go_ret
 exact⟨rfl,d.o _⟩
def bK{w:Aw}(u:As)(h:u≠194)(v:Ax):Calls prog 140 #[.iface u v] w λe w'=>e=.returned (.bool false)/\Fr w w' N_:=by
 have a:=Vn u h v;have d:=zy (λo=>(A_ w N_).alloc o);go_in;go_wp2;try go_ret
 exact⟨rfl,d.o _⟩
def qX{w:Aw}(u:As)(h:u≠191)(v:Ax):Calls prog 142 #[.iface u v] w λe w'=>e=.returned (.bool false)/\Fr w w' N_:=by
 have a:=dG u h v;have d:=zy (λo=>(A_ w N_).alloc o);go_in;go_wp2;try go_ret
 exact⟨rfl,d.o _⟩
def wU{w:Aw}(u:As)(h:u≠192)(v:Ax):Calls prog 143 #[.iface u v] w λe w'=>e=.returned (.bool false)/\Fr w w' N_:=by
 have a:=aJ u h v;have d:=zy (λo=>(A_ w N_).alloc o);go_in;go_wp2;try go_ret
 exact⟨rfl,d.o _⟩
def fJ{w:Aw}(u:As)(h:u≠196)(v:Ax):Calls prog 144 #[.iface u v] w λe w'=>e=.returned (.bool false)/\Fr w w' N_:=by
 have a:=ZU u h v;have d:=zy (λo=>(A_ w N_).alloc o);go_in;go_wp2;try go_ret
 exact⟨rfl,d.o _⟩
def fX{w:Aw}(u:As)(h:u≠197)(v:Ax):Calls prog 145 #[.iface u v] w λe w'=>e=.returned (.bool false)/\Fr w w' N_:=by
 have a:=ZB u h v;have d:=zy (λo=>(A_ w N_).alloc o);go_in;go_wp2;try go_ret
 exact⟨rfl,d.o _⟩
def az{w:Aw}:Calls prog 138 #[.iface 277 (.agg #[])] w λe w'=>e=.returned (.bool true)/\Fr w w' N_:=by
 have d:=zy (λo=>(A_ w N_).alloc o);go_in;go_wp2;try go_ret
 exact⟨rfl,d.o _⟩
def lR{w:Aw}{T:As}{x:Ax}:Calls prog 139 #[.iface 225 (.agg #[Z_ n,.iface T x])] w λe w'=>e=.returned (.bool true)/\Fr w w' N_:=by
 have d:=zy (λo=>(A_ w N_).alloc o);go_in;go_wp2;try go_ret
 exact⟨rfl,d.o _⟩
def XN{w:Aw}:Calls prog 140 #[.iface 194 (.agg #[Z_ n])] w λe w'=>e=.returned (.bool true)/\Fr w w' N_:=by
 have d:=zy (λo=>(A_ w N_).alloc o);go_in;go_wp2;try go_ret
 exact⟨rfl,d.o _⟩
def dV{w:Aw}:Calls prog 142 #[.iface 191 (.agg #[Z_ n])] w λe w'=>e=.returned (.bool true)/\Fr w w' N_:=by
 have d:=zy (λo=>(A_ w N_).alloc o);go_in;go_wp2;try go_ret
 exact⟨rfl,d.o _⟩
def eO{w:Aw}:Calls prog 143 #[.iface 192 (.agg #[Z_ n])] w λe w'=>e=.returned (.bool true)/\Fr w w' N_:=by
 have d:=zy (λo=>(A_ w N_).alloc o);go_in;go_wp2;try go_ret
 exact⟨rfl,d.o _⟩
def Zc{w:Aw}:Calls prog 144 #[.iface 196 (.agg #[Z_ n])] w λe w'=>e=.returned (.bool true)/\Fr w w' N_:=by
 have d:=zy (λo=>(A_ w N_).alloc o);go_in;go_wp2;try go_ret
 exact⟨rfl,d.o _⟩
def Zf{w:Aw}:Calls prog 145 #[.iface 197 (.agg #[Z_ n])] w λe w'=>e=.returned (.bool true)/\Fr w w' N_:=by
 have d:=zy (λo=>(A_ w N_).alloc o);go_in;go_wp2;try go_ret
 exact⟨rfl,d.o _⟩
def jD{w:Aw}(b:Ap):Calls prog 141 #[.bool b] w λe w'=>e=.returned (if b=true then .iface 220 (.agg #[]) else .iface 277 (.agg #[]))/\w'=w:=by
 cases b with
 |true=>
  go_in;go_wp2;try go_ret
  exact⟨rfl,rfl⟩
 |false=>
  go_in;go_wp2;try go_ret
  exact⟨rfl,rfl⟩
inductive MbV:PB->PB->Value->Value->Value->Prop
 |flds {fw fr:List PF} {p sv q rv:Value}:MbV (.recd fw) (.recd fr) (.iface 210 (.agg #[p,sv])) (.iface 210 (.agg #[q,rv])) (.iface 234 (.agg #[p,sv,q,rv]))
 |syms {lw lr:List (Nat×Nat)} {ow or':Option (Nat×Nat)} {p sv u q rv u':Value}:MbV (.enum lw ow) (.enum lr or') (.iface 215 (.agg #[p,sv,u])) (.iface 215 (.agg #[q,rv,u'])) (.iface 231 (.agg #[p,sv,u,q,rv,u']))
 |same {n:Nat} {a b:Value}:MbV (.bytes n) (.bytes n) a b (.iface 220 (.agg #[]))
 |never {x y:PB} {a b:Value} (h:xG x≠xG y):MbV x y a b (.iface 277 (.agg #[]))
def qV.ptr{w:Aw}{o:Ac}(hu:qV w P o u):∃d,u=.pointer d:=by
 unfold qV at hu;split at hu
 .exact⟨_,hu⟩
 .obtain⟨g',_,e,_⟩:=hu;exact⟨_,e⟩
def cweS1_{p:Prop}(h:p:=by
 obtain⟨sa,sc,rfl⟩:=zh ho;(first|(have:=cc1;obtain⟨du,rfl⟩:=hu.ptr;clear ho hP hu)|(clear ho hP h));cases hb with
 |recd p' ho' hP' h' hp'=>
  (first|(have:=cc1)|(obtain⟨ra,rc,rfl⟩:=zh ho'));clear ho' hP' h';go_in;go_wp2;try go_ret
  rw[Q_.o];(first|(have:=cc1;exact⟨_,rfl,hA.o _ _,.never zx_⟩)|(exact⟨_,rfl,hA.o _ _,.flds⟩))
 |enum p' ho' hP' hu' hp'=>
  (try have:=cc1;obtain⟨ra,rc,rfl⟩:=zh ho';obtain⟨du',rfl⟩:=hu'.ptr)
  clear ho' hP' hu';go_in;go_wp2;try go_ret
  rw[Q_.o];(first|(have:=cc1;exact⟨_,rfl,hA.o _ _,.syms⟩)|(exact⟨_,rfl,hA.o _ _,.never zx_⟩))
 |bytes p' n' hp'=>
  go_in;go_wp2;try go_ret
  rw[Q_.o];exact⟨_,rfl,hA.o _ _,.never zx_⟩):p:=h
def eS{w:Aw}{Q:Au}{x y:PB}{b:Ax}(ha:yM w P s x a)(hb:yM w Q s' y b):Calls prog 146 #[a,b] w λe w'=>∃v,e=.returned v/\Fr w w' N_/\MbV x y a b v:=by
 obtain⟨j,Q_⟩:=y_ (λ(e:Ending) (w':World)=>∃v,e=.returned v/\Fr w w' N_/\MbV x y a b v);rw[<- Q_.o];have hA:=zy (λo j=>((A_ w N_).alloc o).alloc j);cases ha with
 |recd p ho hP h hp=>
  exact cweS1_
 |enum p ho hP hu hp=>
  have cc1:=Nat;exact cweS1_
 |bytes p n hp=>
  have d:=zy (λ(W:World) (b:Bool)=>jD (w:=W) b);cases hb with
  |recd p' ho' hP' h' hp'=>
   go_in;go_wp2_with (go_at_call 141;apply(d.o _ _).mono;rintro e w1 ⟨rfl,rfl⟩);try go_ret
   rw[Q_.o];exact⟨_,rfl,hA.o _ _,.never zx_⟩
  |enum p' ho' hP' hu' hp'=>
   go_in;go_wp2_with (go_at_call 141;apply(d.o _ _).mono;rintro e w1 ⟨rfl,rfl⟩);try go_ret
   rw[Q_.o];exact⟨_,rfl,hA.o _ _,.never zx_⟩
  |bytes p' n' hp'=>
   by_cases f:n=n'
   .subst f
    go_in;go_wp2_with (go_at_call 141;apply(d.o _ _).mono;rintro e w1 ⟨rfl,rfl⟩);try go_ret
    rw[Q_.o];exact⟨_,rfl,hA.o _ _,.same⟩
   .have g:((n':Int)==(n:Int))=false:=y0_
    have i:=zy f;go_in;go_wp2_with (go_at_call 141;apply(d.o _ _).mono;rintro e w1 ⟨rfl,rfl⟩);try go_ret
    rw[Q_.o];exact⟨_,rfl,hA.o _ _,.never (by simp[xG];exact i)⟩
def vW:PT->Prop
 | .leaf _ _=>True
 | .wrap c _ _=>c=91\/c=123
 | .alts _ _=>False
def ay{w:Aw}{Q:Au}{y:PT}{b:Ax}(hb:TyV w Q y b)(d:vW y):Calls prog 140 #[b] w λe w'=>e=.returned (.bool (y.kind==105))/\Fr w w' N_:=by
 cases hb with
 |base c p h=>
  simp only[zY,av_,beq_iff_eq]at h;rcases h with(((rfl|rfl)|rfl)|rfl)|rfl;all_goals first
   |exact XN
   |exact bK _ D_ _
 |name c p h=>
  have hc:65<=c/\c<=70:=y3_
  have e:((PT.leaf c p).kind==105)=false:=by
   rw[beq_eq_false_iff_ne];show c≠105;omega
  rw[e];exact bK _ D_ _
 |wrap c p h=>
  rcases d with rfl|rfl
  .exact bK _ D_ _
  .exact bK _ D_ _
 |alts p X ho hP h=>exact d.elim
def sL{w:Aw}{Q:Au}{y:PT}{b:Ax}(hb:TyV w Q y b)(d:vW y):Calls prog 142 #[b] w λe w'=>e=.returned (.bool (y.kind==110))/\Fr w w' N_:=by
 cases hb with
 |base c p h=>
  simp only[zY,av_,beq_iff_eq]at h;rcases h with(((rfl|rfl)|rfl)|rfl)|rfl;all_goals first
   |exact dV
   |exact qX _ D_ _
 |name c p h=>
  have hc:65<=c/\c<=70:=y3_
  have e:((PT.leaf c p).kind==110)=false:=by
   rw[beq_eq_false_iff_ne];show c≠110;omega
  rw[e];exact qX _ D_ _
 |wrap c p h=>
  rcases d with rfl|rfl
  .exact qX _ D_ _
  .exact qX _ D_ _
 |alts p X ho hP h=>exact d.elim
def Zg{w:Aw}{Q:Au}{y:PT}{b:Ax}(hb:TyV w Q y b)(d:vW y):Calls prog 143 #[b] w λe w'=>e=.returned (.bool (y.kind==116))/\Fr w w' N_:=by
 cases hb with
 |base c p h=>
  simp only[zY,av_,beq_iff_eq]at h;rcases h with(((rfl|rfl)|rfl)|rfl)|rfl;all_goals first
   |exact eO
   |exact wU _ D_ _
 |name c p h=>
  have hc:65<=c/\c<=70:=y3_
  have e:((PT.leaf c p).kind==116)=false:=by
   rw[beq_eq_false_iff_ne];show c≠116;omega
  rw[e];exact wU _ D_ _
 |wrap c p h=>
  rcases d with rfl|rfl
  .exact wU _ D_ _
  .exact wU _ D_ _
 |alts p X ho hP h=>exact d.elim
def tQ{w:Aw}{Q:Au}{y:PT}{b:Ax}(hb:TyV w Q y b)(d:vW y):Calls prog 144 #[b] w λe w'=>e=.returned (.bool (y.kind==108))/\Fr w w' N_:=by
 cases hb with
 |base c p h=>
  simp only[zY,av_,beq_iff_eq]at h;rcases h with(((rfl|rfl)|rfl)|rfl)|rfl;all_goals first
   |exact Zc
   |exact fJ _ D_ _
 |name c p h=>
  have hc:65<=c/\c<=70:=y3_
  have e:((PT.leaf c p).kind==108)=false:=by
   rw[beq_eq_false_iff_ne];show c≠108;omega
  rw[e];exact fJ _ D_ _
 |wrap c p h=>
  rcases d with rfl|rfl
  .exact fJ _ D_ _
  .exact fJ _ D_ _
 |alts p X ho hP h=>exact d.elim
def XD{w:Aw}{Q:Au}{y:PT}{b:Ax}(hb:TyV w Q y b)(d:vW y):Calls prog 145 #[b] w λe w'=>e=.returned (.bool (y.kind==115))/\Fr w w' N_:=by
 cases hb with
 |base c p h=>
  simp only[zY,av_,beq_iff_eq]at h;rcases h with(((rfl|rfl)|rfl)|rfl)|rfl;all_goals first
   |exact Zf
   |exact fX _ D_ _
 |name c p h=>
  have hc:65<=c/\c<=70:=y3_
  have e:((PT.leaf c p).kind==115)=false:=by
   rw[beq_eq_false_iff_ne];show c≠115;omega
  rw[e];exact fX _ D_ _
 |wrap c p h=>
  rcases d with rfl|rfl
  .exact fX _ D_ _
  .exact fX _ D_ _
 |alts p X ho hP h=>exact d.elim
def XU{p:Nat}{y:PT}(hc:zY c=true)(d:vW y):yw ew er (.leaf c p) y=(y.kind==c||(c==105&&y.kind==108)):=by
 cases y with
 |leaf c' p'=>simp only[yw,hc,if_true,PT.kind]
 |wrap c' p' u=>
  simp only[zY,av_,beq_iff_eq]at hc;have:c'=91\/c'=123:=d;simp only[yw,PT.kind];rcases hc with(((rfl|rfl)|rfl)|rfl)|rfl<;>rcases this with rfl|rfl<;>rfl
 |alts p' l=>exact d.elim
def gR(b:Ap):Value:=if b=true then .iface 220 (.agg #[]) else .iface 277 (.agg #[])
section
variable {w:Aw} {Q:Au} {y:PT} {b:Ax} {p:Nat} {sa ra:Ao} {sn sc rn rc:Nat} {sT rT:As} {sx rx:Ax}
def cq17_{p:Prop}(h:p:=by
 (first|(have:=cc1;obtain⟨i,d⟩:∃R,H_ (R=λ(e:Ending) (w':World)=>e=.returned (gR (y.kind==115))/\Fr w w' N_):=⟨_,rfl⟩)|(have:=cc2;obtain⟨i,d⟩:∃R,H_ (R=λ(e:Ending) (w':World)=>e=.returned (gR (y.kind==116))/\Fr w w' N_):=⟨_,rfl⟩)|(have:=cc3;obtain⟨i,d⟩:∃R,H_ (R=λ(e:Ending) (w':World)=>e=.returned (gR (y.kind==110))/\Fr w w' N_):=⟨_,rfl⟩)|(obtain⟨i,d⟩:∃R,H_ (R=λ(e:Ending) (w':World)=>e=.returned (gR (y.kind==108))/\Fr w w' N_):=⟨_,rfl⟩));rw[<- d.o];(first|(have:=cc1;have f:=zy (λW (g:Fr w W N_)=>XD (hb.fr g u_) hf))|(have:=cc2;have f:=zy (λW (g:Fr w W N_)=>Zg (hb.fr g u_) hf))|(have:=cc3;have f:=zy (λW (g:Fr w W N_)=>sL (hb.fr g u_) hf))|(have f:=zy (λW (g:Fr w W N_)=>tQ (hb.fr g u_) hf)));have l:=zy (λ(W:World) (b:Bool)=>jD (w:=W) b);have A:=zy (λo m=>((A_ w N_).alloc o).alloc m);obtain⟨bT,bx,rfl⟩:=hb.iface;clear hb hf;(first|(have:=cc1;generalize (y.kind==115)=bb at d f)|(have:=cc2;generalize (y.kind==116)=bb at d f)|(have:=cc3;generalize (y.kind==110)=bb at d f)|(generalize (y.kind==108)=bb at d f));cases bb;all_goals
  go_in;go_wp2_with (first
   |((first|go_at_call 144|go_at_call 145|go_at_call 143|go_at_call 142);apply(f.o _ (A.o _ _)).mono;rintro e w1 ⟨rfl,j⟩;have k:=zy ((A.o _ _).trans j u_);clear j)
   |(go_at_call 141;apply(l.o _ _).mono;rintro e q ⟨rfl,rfl⟩))
  try go_ret
  rw[d.o];exact⟨rfl,k.o⟩):p:=h
def XF(hb:TyV w Q y b)(hf:vW y):Calls prog 97 #[.agg #[.slice sa sn sc,.iface sT sx,.slice ra rn rc,.iface rT rx],.iface 191 (.agg #[I_ p]),b] w λe w'=>e=.returned (gR (y.kind==110))/\Fr w w' N_:=by
 have cc3:=Nat
 exact cq17_
def XW(hb:TyV w Q y b)(hf:vW y):Calls prog 97 #[.agg #[.slice sa sn sc,.iface sT sx,.slice ra rn rc,.iface rT rx],.iface 192 (.agg #[I_ p]),b] w λe w'=>e=.returned (gR (y.kind==116))/\Fr w w' N_:=by
 have cc2:=Nat
 exact cq17_
def XP(hb:TyV w Q y b)(hf:vW y):Calls prog 97 #[.agg #[.slice sa sn sc,.iface sT sx,.slice ra rn rc,.iface rT rx],.iface 196 (.agg #[I_ p]),b] w λe w'=>e=.returned (gR (y.kind==108))/\Fr w w' N_:=by
 exact cq17_
def XG(hb:TyV w Q y b)(hf:vW y):Calls prog 97 #[.agg #[.slice sa sn sc,.iface sT sx,.slice ra rn rc,.iface rT rx],.iface 197 (.agg #[I_ p]),b] w λe w'=>e=.returned (gR (y.kind==115))/\Fr w w' N_:=by
 have cc1:=Nat
 exact cq17_
end
section
variable {w:Aw} {Q:Au} {y:PT} {b:Ax} {p:Nat} {sa ra:Ao} {sn sc rn rc:Nat} {sT rT:As} {sx rx:Ax}
def XB(hb:TyV w Q y b)(j:vW y):Calls prog 97 #[.agg #[.slice sa sn sc,.iface sT sx,.slice ra rn rc,.iface rT rx],.iface 194 (.agg #[I_ p]),b] w λe w'=>e=.returned (gR (y.kind==105||y.kind==108))/\Fr w w' N_:=by
 obtain⟨i,d⟩:=y_ (λ(e:Ending) (w':World)=>e=.returned (gR (y.kind==105||y.kind==108))/\Fr w w' N_);rw[<- d.o];have h:=zy (λW (i:Fr w W N_)=>ay (hb.fr i u_) j);have l:=zy (λW (i:Fr w W N_)=>tQ (hb.fr i u_) j);have k:=zy (λ(W:World) (b:Bool)=>jD (w:=W) b);have A:=zy (λo i=>((A_ w N_).alloc o).alloc i);obtain⟨bT,bx,rfl⟩:=hb.iface;generalize (y.kind==105)=bb at d h;generalize (y.kind==108)=bl at d l;cases bb
 .cases bl;all_goals
   go_in;go_wp2_with (first
    |(go_at_call 140;apply(h.o _ (A.o _ _)).mono;rintro e w1 ⟨rfl,f⟩;have g:=zy ((A.o _ _).trans f u_))
    |(go_at_call 144;apply(l.o _ g).mono;rintro e i ⟨rfl,i⟩;have m:=zy (g.o.trans i u_))
    |(go_at_call 141;apply(k.o _ _).mono;rintro e q ⟨rfl,rfl⟩))
   try go_ret
   rw[d.o];exact⟨rfl,m⟩
 .go_in;go_wp2_with (first
   |(go_at_call 140;apply(h.o _ (A.o _ _)).mono;rintro e w1 ⟨rfl,f⟩;have g:=zy ((A.o _ _).trans f u_))
   |(go_at_call 141;apply(k.o _ _).mono;rintro e q ⟨rfl,rfl⟩))
  try go_ret
  rw[d.o];exact⟨rfl,g⟩
end
section
variable {w:Aw} {p p':Nat} {sa ra:Ao} {sn sc rn rc:Nat} {sT rT uT vT bT:As} {sx rx ux vx bx:Ax}
def cq25_{p:Prop}(h:p:=by
 obtain⟨f,d⟩:=y_ (λ(e:Ending) (w':World)=>e=.returned (.iface 228 (.agg #[.iface uT ux,.iface vT vx]))/\Fr w w' N_);rw[<- d.o];go_in;go_wp2;try go_ret
 rw[d.o];exact⟨rfl,(((A_ w N_).alloc _).alloc _).alloc _⟩):p:=h
def sW:Calls prog 97 #[.agg #[.slice sa sn sc,.iface sT sx,.slice ra rn rc,.iface rT rx],.iface 199 (.agg #[I_ p,.iface uT ux]),.iface 199 (.agg #[I_ p',.iface vT vx])] w λe w'=>e=.returned (.iface 228 (.agg #[.iface uT ux,.iface vT vx]))/\Fr w w' N_:=by
 exact cq25_
def cq31_{p:Prop}(h:p:=by
 obtain⟨g,d⟩:=y_ (λ(e:Ending) (w':World)=>e=.returned (.iface 277 (.agg #[]))/\Fr w w' N_);rw[<- d.o];(first|(have:=cc1;have f:=tE bT hT)|(have:=cc2;have f:=ww bT hT)|(have f:=gH bT hT));go_in;go_wp2;try go_ret
 rw[d.o];exact⟨rfl,(((A_ w N_).alloc _).alloc _).alloc _⟩):p:=h
def gV(hT:bT≠199):Calls prog 97 #[.agg #[.slice sa sn sc,.iface sT sx,.slice ra rn rc,.iface rT rx],.iface 199 (.agg #[I_ p,.iface uT ux]),.iface bT bx] w λe w'=>e=.returned (.iface 277 (.agg #[]))/\Fr w w' N_:=by
 have cc2:=Nat
 exact cq31_
def di:Calls prog 97 #[.agg #[.slice sa sn sc,.iface sT sx,.slice ra rn rc,.iface rT rx],.iface 201 (.agg #[I_ p,.iface uT ux]),.iface 201 (.agg #[I_ p',.iface vT vx])] w λe w'=>e=.returned (.iface 228 (.agg #[.iface uT ux,.iface vT vx]))/\Fr w w' N_:=by
 have cc1:=Nat
 exact cq25_
def wW(hT:bT≠201):Calls prog 97 #[.agg #[.slice sa sn sc,.iface sT sx,.slice ra rn rc,.iface rT rx],.iface 201 (.agg #[I_ p,.iface uT ux]),.iface bT bx] w λe w'=>e=.returned (.iface 277 (.agg #[]))/\Fr w w' N_:=by
 exact cq31_
def kV(hT:bT≠208):Calls prog 97 #[.agg #[.slice sa sn sc,.iface sT sx,.slice ra rn rc,.iface rT rx],.iface 208 (.agg #[I_ p,U_ c]),.iface bT bx] w λe w'=>e=.returned (.iface 277 (.agg #[]))/\Fr w w' N_:=by
 have cc1:=Nat
 exact cq31_
def uZ{d:Nat}(hc:¬((d:Int)=(c:Int))):Calls prog 97 #[.agg #[.slice sa sn sc,.iface sT sx,.slice ra rn rc,.iface rT rx],.iface 208 (.agg #[I_ p,U_ c]),.iface 208 (.agg #[I_ p',U_ d])] w λe w'=>e=.returned (.iface 277 (.agg #[]))/\Fr w w' N_:=by
 obtain⟨g,f⟩:=y_ (λ(e:Ending) (w':World)=>e=.returned (.iface 277 (.agg #[]))/\Fr w w' N_);rw[<- f.o];have g:((d:Int)==(c:Int))=false:=zb_
 go_in;go_wp2;all_goals first
  |((try go_ret);rw[f.o];exact⟨rfl,(((A_ w N_).alloc _).alloc _).alloc _⟩)
  |omega
end
def cz{w:Aw}{Q:Au}{ds ds':Ar}{sv sv':Ax}{xs xs':Az}{p p':Nat}{sT rT:As}{sx rx:Ax}{x y:PB}(D:xf w P s ds sv xs)(E:xf w Q s' ds' sv' xs')(hx:zx ds c=some x)(hy:zx ds' c=some y):Calls prog 97 #[.agg #[sv,.iface sT sx,sv',.iface rT rx],.iface 208 (.agg #[I_ p,U_ c]),.iface 208 (.agg #[I_ p',U_ c])] w λe w'=>∃a b v,e=.returned v/\Fr w w' N_/\yM w' P s x a/\yM w' Q s' y b/\ZV ds' xs' y b/\MbV x y a b v:=by
 obtain⟨T,J⟩:=y_ (λ(e:Ending) (w':World)=>∃a b v,e=.returned v/\Fr w w' N_/\yM w' P s x a/\yM w' Q s' y b/\ZV ds' xs' y b/\MbV x y a b v);rw[<- J.o];have L:=zy (λW (d:Fr w W N_)=>qw (rv:=.iface sT sx) c (D.fr d u_));have M:=zy (λW (d:Fr w W N_)=>tu (rv:=.iface rT rx) c (E.fr d u_));have N:=zy (λW a b (ha:yM W P s x a) (hb:yM W Q s' y b)=>eS ha hb);have hx:=zy hx;have hy:=zy hy;obtain⟨sa,sc,rfl⟩:=zh D.row;obtain⟨ra,rc,rfl⟩:=zh E.row;obtain⟨i,hwz⟩:=e_ (((w.alloc (.cells #[.slice sa ds.length sc,.iface sT sx,.slice ra ds'.length rc,.iface rT rx] 101)).alloc (.cells #[I_ p,U_ c] 208)).alloc (.cells #[I_ p',U_ c] 208));have k:Fr w i N_:=xt_
 have j:Blk i w.heap.size [.slice sa ds.length sc,.iface sT sx,.slice ra ds'.length rc,.iface rT rx] 101:=by
  rw[hwz];exact((B_ w #[.slice sa ds.length sc,.iface sT sx,.slice ra ds'.length rc,.iface rT rx] 101).alloc _).alloc _
 have B:Blk i (w.heap.size+1) [I_ p,U_ c] 208:=by
  rw[hwz];have h:=(B_ (w.alloc (.cells #[.slice sa ds.length sc,.iface sT sx,.slice ra ds'.length rc,.iface rT rx] 101)) #[I_ p,U_ c] 208).alloc (.cells #[I_ p',U_ c] 208);have hs:∀(u:World) (o:Obj),(u.alloc o).heap.size=u.heap.size+1:=λu o=>by show(u.heap.push _).size=_;simp
  simp only[hs]at h;exact h
 have F:Blk i (w.heap.size+1+1) [I_ p',U_ c] 208:=by
  rw[hwz];have h:=B_ ((w.alloc (.cells #[.slice sa ds.length sc,.iface sT sx,.slice ra ds'.length rc,.iface rT rx] 101)).alloc (.cells #[I_ p,U_ c] 208)) #[I_ p',U_ c] 208;have hs:∀(u:World) (o:Obj),(u.alloc o).heap.size=u.heap.size+1:=λu o=>by show(u.heap.push _).size=_;simp
  simp only[hs]at h;exact h
 obtain⟨G,hCL⟩:∃C:World->Prop,C=λW=>W.cell? ⟨w.heap.size,0,none⟩=some (.slice sa ds.length sc)/\W.cell? ⟨w.heap.size,1,none⟩=some (.iface sT sx)/\W.cell? ⟨w.heap.size,2,none⟩=some (.slice ra ds'.length rc)/\W.cell? ⟨w.heap.size,3,none⟩=some (.iface rT rx)/\W.cell? ⟨w.heap.size+1,1,none⟩=some (U_ c)/\W.cell? ⟨w.heap.size+1+1,1,none⟩=some (U_ c):=⟨_,rfl⟩;have m:=zy (λW (d:Fr i W N_)=>show G W by
  rw[hCL]
  exact⟨(d.bl j id).cell 0,(d.bl j id).cell 1,(d.bl j id).cell 2,(d.bl j id).cell 3,(d.bl B id).cell 1,(d.bl F id).cell 1⟩)
 replace k:=zy k;replace hwz:=zy hwz;replace hCL:=zy hCL;go_in;go_wp2;rw[<- hwz.o];refine tR_ G ?_;refine tA_ 0 rfl K_ (λ_ _ _ h=>h) xa_ ?_;refine tA_ 1 rfl K_ (λ_ _ _ h=>h) xa_ ?_;refine tA_ 2 rfl K_ (λ_ _ _ h=>h) xa_ ?_;refine tA_ 3 rfl K_ (λ_ _ _ h=>h) xa_ ?_;refine tA_ 5 rfl K_ (λ_ _ _ h=>h) xa_ ?_;refine tA_ 6 rfl K_ (λ_ _ _ h=>h) xa_ ?_;refine tA_ 7 rfl K_ (λ_ _ _ h=>h) xa_ ?_;refine tA_ 8 rfl K_ (λ_ _ _ h=>h) xa_ ?_;refine zd 4 rfl K_ (m.o _ (A_ i _).drew) (λl f=>?_);go_simp;apply(L.o _ k.o.drew).mono;rintro e w1 ⟨d,rfl,d,q⟩;rw[hx.o]at q;have t:=zy ((A_ i N_).drew.trans d u_);replace q:=zy q;refine f _ _ ?_;refine zd 9 rfl K_ (m.o _ t) (λl f=>?_);go_simp;apply(M.o _ (k.o.trans t u_)).mono;rintro e d ⟨d,rfl,d,g⟩;rw[hy.o]at g;obtain⟨g,A⟩:=g;replace A:=zy A;have H:=zy (t.o.trans d u_);have K:=zy (q.o.fr d u_);replace g:=zy g;refine f _ _ ?_;refine zd 10 rfl K_ (m.o _ H) (λl f=>?_);go_simp;apply(N.o _ _ _ K g).mono;rintro e d ⟨d,rfl,d,z⟩;have I:=zy (H.o.trans d u_);have O:=zy (K.o.fr d u_);have S:=zy (g.o.fr d u_);replace z:=zy z;refine f _ _ ?_;refine tY_ 11 ?_;refine zV K_ (m.o _ I) ?_ _;go_wp2;try go_ret
 rw[J.o];exact⟨_,_,_,rfl,k.o.trans I u_,O,S,A,z⟩
inductive MtV (w:Aw) (P Q:Au) (s s':BA) (ew er:Ay) (Z:Cl):PT->PT->Value->Prop
 |never {x y:PT} (h:yw ew er x y=false):MtV w P Q s s' ew er Z x y (.iface 277 (.agg #[]))
 |same {c p:Nat} {y:PT} (hc:zY c=true) (h:yw ew er (.leaf c p) y=true):MtV w P Q s s' ew er Z (.leaf c p) y (.iface 220 (.agg #[]))
 |items {c p p':Nat} {t t':PT} {a b:Value} (hc:c=91\/c=123) (ha:TyV w P t a) (hb:TyV w Q t' b):MtV w P Q s s' ew er Z (.wrap c p t) (.wrap c p' t') (.iface 228 (.agg #[a,b]))
 |body {c p p':Nat} {X Y:PB} {a b v:Value} (hc:zZ c=true) (hx:ew c=some X) (hy:er c=some Y) (ha:yM w P s X a) (hb:yM w Q s' Y b) (hz:Z Y b) (hm:MbV X Y a b v) (hs:xG X=xG Y):MtV w P Q s s' ew er Z (.leaf c p) (.leaf c p') v
def jI(h:zZ c=true):zY c=false:=by
 have hc:65<=c/\c<=70:=y3_
 cases e:zY c with
 |false=>rfl
 |true=>
  simp only[zY,av_,beq_iff_eq]at e;omega
def ib{d:Nat}(h:zZ c=true)(e:zY d=true):(c==d)=false:=by
 have hc:65<=c/\c<=70:=y3_
 simp only[zY,av_,beq_iff_eq]at e;rw[beq_eq_false_iff_ne];omega
def MbV.sort{X Y:PB}{b:Ax}(h:MbV X Y a b v):xG X=xG Y\/(xG X≠xG Y/\v=.iface 277 (.agg #[])):=by
 cases h with
 |flds=>exact .inl rfl
 |syms=>exact .inl rfl
 |same=>exact .inl rfl
 |never h=>exact .inr ⟨h,rfl⟩
def tm{w:Aw}{Q:Au}{ds ds':Ar}{sv sv':Ax}{xs xs':Az}{sT rT:As}{sx rx:Ax}{y:PT}{b:Ax}(D:xf w P s ds sv xs)(E:xf w Q s' ds' sv' xs')(ha:TyV w P x a)(hb:TyV w Q y b)(fx:vW x)(fy:vW y)(o:∀c p,x=.leaf c p->zZ c=true->∃X,zx ds c=some X)(t:∀c p,y=.leaf c p->zZ c=true->∃Y,zx ds' c=some Y):Calls prog 97 #[.agg #[sv,.iface sT sx,sv',.iface rT rx],a,b] w λe w'=>∃v,e=.returned v/\Fr w w' N_/\MtV w' P Q s s' (zx ds) (zx ds') (ZV ds' xs') x y v:=by
 obtain⟨sa,sc,j⟩:=zh D.row;obtain⟨ra,rc,i⟩:=zh E.row;have d:∀(e:Ending) (w':World),yw (zx ds) (zx ds') x y=false->e=.returned (.iface 277 (.agg #[]))/\Fr w w' N_->∃v,e=.returned v/\Fr w w' N_/\MtV w' P Q s s' (zx ds) (zx ds') (ZV ds' xs') x y v:=
  λe w' hm h=>⟨_,h.1,h.2,.never hm⟩
 cases ha with
 |base c p h=>
  have f:∀(e:Ending) (w':World),e=.returned (gR (y.kind==c||(c==105&&y.kind==108)))/\Fr w w' N_->∃v,e=.returned v/\Fr w w' N_/\MtV w' P Q s s' (zx ds) (zx ds') (ZV ds' xs') (.leaf c p) y v:=by
   rintro e w' ⟨h1,g⟩;rw[<- XU (ew:=zx ds) (er:=zx ds') (p:=p) h fy]at h1;cases hm:yw (zx ds) (zx ds') (.leaf c p) y with
   |true=>rw[hm]at h1;exact⟨_,h1,g,.same h hm⟩
   |false=>rw[hm]at h1;exact⟨_,h1,g,.never hm⟩
  rw[j,i];simp only[zY,av_,beq_iff_eq]at h;rcases h with(((rfl|rfl)|rfl)|rfl)|rfl
  .exact(XF hb fy).mono (λe w' q=>f e w' zi_)
  .exact(XW hb fy).mono (λe w' q=>f e w' zi_)
  .exact(XB hb fy).mono (λe w' q=>f e w' zi_)
  .exact(XP hb fy).mono (λe w' q=>f e w' zi_)
  .exact(XG hb fy).mono (λe w' q=>f e w' zi_)
 |name c p h=>
  have k:=jI h;cases hb with
  |base c' p' h'=>
   rw[j,i];exact(kV (jV c').2.2.2.1).mono (λe w'=>d e w' (by simp[yw,k,ib h h']))
  |name c' p' h'=>
   by_cases m:c=c'
   .subst m;obtain⟨X,hX⟩:=o c p rfl h;obtain⟨Y,f⟩:=t c p' rfl h;apply(cz D E hX f).mono;rintro e w' ⟨a,b,v,h1,g,z,A,hz,l⟩;rcases l.sort with hs|⟨hs,rfl⟩
    .exact⟨v,h1,g,.body h hX f z A hz l hs⟩
    .exact⟨_,h1,g,.never (by simp[yw,k,hX,f,hs])⟩
   .rw[j,i];exact(uZ M_).mono (λe w'=>d e w' (by simp[yw,k,m]))
  |wrap c' p' h'=>
   rw[j,i];rcases fy with rfl|rfl
   .exact(kV D_).mono (λe w'=>d e w' rfl)
   .exact(kV D_).mono (λe w'=>d e w' rfl)
  |alts p' X ho hP h'=>exact fy.elim
 |wrap c p h=>
  have f:c=91\/c=123:=fx;obtain⟨uT,ux,rfl⟩:=h.iface;rw[j,i];cases hb with
  |base c' p' h'=>
   rcases f with rfl|rfl
   .exact(gV (jV c').1).mono (λe w'=>d e w' rfl)
   .exact(wW (jV c').2.1).mono (λe w'=>d e w' rfl)
  |name c' p' h'=>
   rcases f with rfl|rfl
   .exact(gV D_).mono (λe w'=>d e w' rfl)
   .exact(wW D_).mono (λe w'=>d e w' rfl)
  |wrap c' p' h'=>
   obtain⟨vT,vx,rfl⟩:=h'.iface;have k:c'=91\/c'=123:=fy;rcases f with rfl|rfl<;>rcases k with rfl|rfl
   .exact sW.mono (λe w' q=>⟨_,q.1,q.2,.items (.inl rfl) (h.fr q.2 u_) (h'.fr q.2 u_)⟩)
   .exact(gV D_).mono (λe w'=>d e w' rfl)
   .exact(wW D_).mono (λe w'=>d e w' rfl)
   .exact di.mono (λe w' q=>⟨_,q.1,q.2,.items (.inr rfl) (h.fr q.2 u_) (h'.fr q.2 u_)⟩)
  |alts p' X ho hP h'=>exact fy.elim
 |alts p X ho hP h=>exact fx.elim
section
variable {w:Aw} {p:Nat} {sa ra:Ao} {sn sc rn rc:Nat} {sT rT aT bT:As} {sx rx ax bx:Ax}
def JH{d:Ao}{g f:Nat}:Calls prog 59 #[.agg #[.slice sa sn sc,.iface sT sx,.slice ra rn rc,.iface rT rx],.iface 205 (.agg #[I_ p,.slice d g f]),.iface bT bx] w λe w'=>e=.returned (.iface 222 (.agg #[.slice d g f,.iface bT bx]))/\Fr w w' N_:=by
 obtain⟨i,h⟩:=y_ (λ(e:Ending) (w':World)=>e=.returned (.iface 222 (.agg #[.slice d g f,.iface bT bx]))/\Fr w w' N_);rw[<- h.o];have A:=zy (λo d=>((A_ w N_).alloc o).alloc d);go_in;go_wp2;try go_ret
 rw[h.o];exact⟨rfl,A.o _ _⟩
def cq27_{p:Prop}(h:p:=by
 refine hq_ λj f=>?_;have A:=zy (λo g i=>(((A_ w N_).alloc o).alloc g).alloc i);replace h:=zy h;have k:=vG aT ha;(first|(have:=cc1)|(have l:=vG bT hb));go_in;go_wp2_with ((first|go_at_call 97|go_at_call 96);apply(h.o _ (A.o _ _ _)).mono;rintro e w1 ⟨v,rfl,d⟩;replace d:=zy d);try go_ret
 rw[f.o];exact d.o):p:=h
def XK{R:Cu}(ha:aT≠205)(hb:bT≠205)(h:∀W,Fr w W N_->Calls prog 97 #[.agg #[.slice sa sn sc,.iface sT sx,.slice ra rn rc,.iface rT rx],.iface aT ax,.iface bT bx] W (λe w'=>∃v,e=.returned v/\R (.returned v) w')):Calls prog 59 #[.agg #[.slice sa sn sc,.iface sT sx,.slice ra rn rc,.iface rT rx],.iface aT ax,.iface bT bx] w R:=by
 exact cq27_
end
def pE:∀(l:List PT) (i:Nat) (k:Option Nat),xp ew er x (l++[r]) i k=(if (yw ew er x r&&((xp ew er x l i k).isNone||r.kind==105))=true then some (i+l.length) else xp ew er x l i k)
 | [],i,k=>by simp[xp]
 |a::l,i,k=>by
  show xp ew er x (l++[r]) (i+1) _=_;rw[pE l];have:i+1+l.length=i+(a::l).length:=by simp only[au_];omega
  rw[this];rfl
def oh{rs:Af}{q:Nat}(h:rs[q]?=some r):xp ew er x (rs.take (q+1)) 0 none=(if (yw ew er x r&&((xp ew er x (rs.take q) 0 none).isNone||r.kind==105))=true then some q else xp ew er x (rs.take q) 0 none):=by
 have d:q<rs.length:=by
  rcases Nat.lt_or_ge q rs.length with d|d
  .exact d
  .rw[bq_ d]at h;exact absurd h x8_
 have e:rs.take (q+1)=rs.take q++[r]:=by rw[a8_,h];rfl
 have l:(rs.take q).length=q:=by rw[b8_];omega
 rw[e,pE,l,bp_]
def MtV.fr{w w':Aw}{Q S:Au}{y:PT}(h:MtV w P Q s s' ew er Z x y v)(d:Fr w w' S)(hP:∀g,P g->¬S g)(e:∀g,Q g->¬S g):MtV w' P Q s s' ew er Z x y v:=by
 cases h with
 |never h=>exact .never h
 |same hc h=>exact .same hc h
 |items hc ha hb=>exact .items hc (ha.fr d hP) (hb.fr d e)
 |body hc hx hy ha hb hz hm hs=>exact .body hc hx hy (ha.fr d hP) (hb.fr d e) hz hm hs
def MtV.kind{w:Aw}{Q:Au}{y:PT}(h:MtV w P Q s s' ew er Z x y v):(yw ew er x y=false/\v=.iface 277 (.agg #[]))\/(yw ew er x y=true/\∃T u,v=.iface T u/\T≠277/\T≠225):=by
 cases h with
 |never h=>exact .inl ⟨h,rfl⟩
 |same hc h=>exact .inr ⟨h,_,_,rfl,D_,D_⟩
 |items hc ha hb=>exact .inr ⟨by simp[yw],_,_,rfl,D_,D_⟩
 |body hc hx hy ha hb hz hm hs=>
  refine .inr ⟨by simp[yw,jI hc,hx,hy,hs],?_⟩;cases hm with
  |flds=>exact⟨_,_,rfl,D_,D_⟩
  |syms=>exact⟨_,_,rfl,D_,D_⟩
  |same=>exact⟨_,_,rfl,D_,D_⟩
  |never h=>exact absurd hs h
def BrV(w:Aw)(P Q:Au)(s s':BA)(ew er:Ay)(Z:Cl)(x:PT)(rs:Af)(k:Option Nat)(v:Ax):Prop:=
 match k with
 |none=>v=.iface 277 (.agg #[])
 |some i=>∃r T u,rs[i]?=some r/\v=.iface 225 (.agg #[I_ i,.iface T u])/\yw ew er x r=true/\MtV w P Q s s' ew er Z x r (.iface T u)
def BrV.fr{w w':Aw}{Q S:Au}{rs:Af}{k:Option Nat}(h:BrV w P Q s s' ew er Z x rs k v)(l:Fr w w' S)(hP:∀g,P g->¬S g)(j:∀g,Q g->¬S g):BrV w' P Q s s' ew er Z x rs k v:=by
 cases k with
 |none=>exact h
 |some i=>
  obtain⟨r,T,u,h1,d,e,f⟩:=h;exact⟨r,T,u,h1,d,e,f.fr l hP j⟩
end Go.Proofs.YtahhhgbojlkjnaaGreatDoor
