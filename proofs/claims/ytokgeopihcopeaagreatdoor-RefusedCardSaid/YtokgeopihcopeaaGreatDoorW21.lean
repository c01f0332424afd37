import Derived.Test.YtokgeopihcopeaaGreatDoorW20
set_option linter.unusedVariables false
set_option maxHeartbeats 16000000
set_option maxRecDepth 100000
set_option linter.defProp false
set_option linter.unusedSimpArgs false
open Go.Proofs.Tryz
namespace Go.Proofs.YtokgeopihcopeaaGreatDoor
open Go.RowKit
variable {s s':BA}{c:Nat}{P:Az}{n:Int}{ew er:Au}{x:PT}{v u a:Ax}{Z:Ds}
def Ps{keyed:Aq}{last:Ew}{i:Nat}{k:BA}(h:At s i (Wl keyed k))(hk:keyed=true->kV last k=true/\cF k/\k.size<=9223372036854775807):pe s keyed last i=some (if keyed=true then k else noB,i+(Wl keyed k).size):=by
 unfold pe;unfold Wl at h⊢;cases keyed with
 |false=>simp only[a1_,if_false];rfl
 |true=>
  simp only[if_true]at h⊢;obtain⟨a,b,c⟩:=hk rfl;rw[nL b c h];simp only;rw[i_ a]
def mz{R:Nat->Nat->Except Nat (DT×Nat×Nat)}{keyed:Aq}{N n0:Nat}:∀(ks:List BA) (ds:List DT) (last:Option BA) (i n:Nat),ks.length=ds.length->(keyed=true->Gc last ks)->
 (∀d∈ds,∀i n,n0<=n->At s i (byT d)->n+ndT d<=N->R i n=.ok (d,i+(byT d).size,n+ndT d))->n0<=n->At s i (yS keyed ks ds)->n+za ds<=N->
 ∃l,xP R s keyed ds.length last i n=.ok (l,i+(yS keyed ks ds).size,n+za ds)/\l.map Prod.snd=ds/\(keyed=true->l.map Prod.fst=ks)
 | [],[],last,i,n,_,_,_,_,h,_=>by
  refine⟨[],?_,rfl,λ_=>rfl⟩;simp only[av_,xP,yS,za];rfl
 |k::ks,d::ds,last,i,n,hl,hr,hR,hn,h,hN=>by
  rw[Qj]at h⊢;obtain⟨f,e⟩:=At.app.1 h;obtain⟨h1,o⟩:=At.app.1 f;rw[za]at hN;have hd:=hR d (bo_ ..) (i+(Wl keyed k).size) n hn o M_;rw[ah_,<- bd_]at e;obtain⟨l,g,j,m⟩:=mz ks ds (some (if keyed=true then k else noB)) _ (n+ndT d) yv_ (λhk=>by subst hk;exact(hr rfl).2.2.2) (λf o=>hR f (cf_ _ o)) M_ e M_;refine⟨(if keyed=true then k else noB,d)::l,?_,by simp[j],λhk=>by subst hk;simp[m]⟩;rw[au_];unfold xP;rw[Ps h1 (λhk=>⟨(hr hk).1,(hr hk).2.1,(hr hk).2.2.1⟩)];simp only;rw[hd];simp only;rw[g];simp only[ae_,ad_,true_and,za,ah_];omega
 | [],_::_,_,_,_,hl,_,_,_,_,_=>by simp at hl
 | _::_,[],_,_,_,hl,_,_,_,_,_=>by simp at hl
def rL{R:PT->Nat->Nat->Except Nat (DT×Nat×Nat)}{N n0:Nat}:∀(ts:List PT) (ds:List DT) (i n:Nat),ds.length=ts.length->
 (∀(q:Nat) (d:DT) (t:PT),ds[q]?=some d->ts[q]?=some t->∀i n,n0<=n->At s i (byT d)->n+ndT d<=N->R t i n=.ok (d,i+(byT d).size,n+ndT d))->n0<=n->At s i (yS false [] ds)->n+za ds<=N->
 xU R ts i n=.ok (ds,i+(yS false [] ds).size,n+za ds)
 | [],[],i,n,_,_,_,h,_=>by
  simp only[xU,yS,za];rfl
 |t::ts,d::ds,i,n,hl,hR,hn,h,hN=>by
  have e:yS false [] (d::ds)=byT d++yS false [] ds:=by simp only[yS,List.tail_nil];simp[jH]
  rw[e]at h⊢;obtain⟨f,j⟩:=At.app.1 h;rw[za]at hN;have hd:=hR 0 d t rfl rfl i n hn f M_;have g:=rL ts ds _ (n+ndT d) yv_ (λq f t' k l=>hR (q+1) f t' (by simpa using k) (by simpa using l)) M_ j M_;unfold xU;rw[hd];simp only;rw[g];simp only[ae_,ad_,true_and,za,ah_];omega
 | [],_::_,_,_,hl,_,_,_,_=>by simp at hl
 | _::_,[],_,_,hl,_,_,_,_=>by simp at hl
def yN(k:Nat)(n:Int)(x:BA)(ks:Dq)(ds:Ae):ndT (.mk k n x ks ds)=1+za ds:=by rw[ndT]
def xg(h:zi c=false):c≠110/\c≠116/\c≠105/\c≠108/\c≠115:=by
 simp[zi]at h;omega
def BI{env:Au}(I:qW env)(s:BA):∀(f:Nat) (d:DT) (t:PT) (i n:Nat),Dat env d t->At s i (byT d)->n+ndT d<=300->301<=f+n->rdB s env f t i n=.ok (d,i+(byT d).size,n+ndT d):=by
 intro f;induction f with
 |zero=>intro d t i n _ _ h1 H;cases d;rw[ndT]at h1;omega
 |succ f ih=>
  intro d t i n hd g h1 H;have hn:¬300<=n:=by cases d;rw[ndT]at h1;omega
  unfold rdB;rw[n_ hn];cases hd with
  |null=>
   have e:byT (.mk 110 0 noB [] [])=noB:=by simp[byT,yS,jH]
   simp only[jO,if_true,e,yN,za];rfl
  |bool hb=>
   rename_i p q;have e:byT (.mk 116 (q:Int) noB [] [])=bts [q]:=zh_
   rw[e]at g⊢;obtain⟨j,k⟩:=(At.one M_).1 g;simp only[jO];rw[n_ D_,i_ trivial,i_ ⟨j,M_⟩,k];simp only[yP,yN,za];rfl
  |num h0 h1'=>
   rename_i p q;have e:byT (.mk 105 q noB [] [])=zH q:=zh_
   rw[e]at g⊢;simp only[jO];rw[n_ D_,n_ D_,i_ trivial,fo M_ M_ h0 h1' g];simp only[yN,za]
  |long h0 h1'=>
   rename_i p q;have e:byT (.mk 108 q noB [] [])=zH q:=zh_
   rw[e]at g⊢;simp only[jO];rw[n_ D_,n_ D_,n_ D_,i_ trivial,Bk h0 h1' g];simp only[yN,za]
  |text hx h1'=>
   rename_i p x;have e:byT (.mk 115 0 x [] [])=zH x.size++x:=zh_
   rw[e]at g⊢;simp only[jO];rw[n_ D_,n_ D_,n_ D_,n_ D_,i_ trivial,nL hx h1' g];simp only[yN,za]
  |bytes he hb hx=>
   rename_i c p x;obtain⟨b1,b2,b3,m,r⟩:=xg hb;have e:byT (.mk 102 0 x [] [])=x:=zh_
   rw[e]at g⊢;simp only[jO];rw[n_ b1,n_ b2,n_ b3,n_ m,n_ r,he];simp only[kZ];rw[Zz hx g];simp only[yN,za]
  |sym he hb D=>
   rename_i c p q l o;obtain⟨b1,b2,b3,m,r⟩:=xg hb;have K:=(I c _ he).2;have e:byT (.mk 101 (q:Int) noB [] [])=zH q:=zh_
   rw[e]at g⊢;simp only[jO];rw[n_ b1,n_ b2,n_ b3,n_ m,n_ r,he];simp only[kZ];rw[fo M_ M_ M_ M_ g];simp only[yN,za]
  |recd he hb hl h=>
   rename_i c p fs ds;obtain⟨b1,b2,b3,m,r⟩:=xg hb;have e:byT (.mk 114 0 noB [] ds)=yS false [] ds:=by simp[byT,jH]
   rw[e]at g⊢;rw[yN]at h1⊢;simp only[jO];rw[n_ b1,n_ b2,n_ b3,n_ m,n_ r,he];simp only[kZ];rw[rL (N:=300) (n0:=n+1) (fs.map PF.ty) ds i (n+1) yv_ (λq d t hd J B C D z A=>ih d t B C (h q d t hd J) z A M_) l_ g M_];simp only[bd_]
  |list hl h=>
   rename_i p u ds;have e:byT (.mk 91 0 noB [] ds)=zH ds.length++yS false (ds.map λ_=>noB) ds:=by
    rw[rK ds _ []];simp[byT]
   rw[e]at g⊢;obtain⟨j,k⟩:=At.app.1 g;rw[yN]at h1⊢;simp only[uz,gQ];rw[fo M_ M_ M_ M_ j];simp only[bt_,show((91:Nat)==123)=false from rfl];obtain⟨l,E,F,G⟩:=mz (R:=rdB s env f u) (s:=s) (keyed:=false) (N:=300) (n0:=n+1) (ds.map λ_=>noB) ds none _ (n+1) x6_ (λhk=>by cases hk) (λd hd B C D z A=>ih d u B C (h d hd) z A M_) l_ k M_;rw[E];simp only[a1_,if_false,F,ah_,bd_]
  |map hl hk hr h=>
   rename_i p u ks ds;have e:byT (.mk 123 0 noB ks ds)=zH ds.length++yS true ks ds:=zh_
   rw[e]at g⊢;obtain⟨j,k⟩:=At.app.1 g;rw[yN]at h1⊢;simp only[uz,gQ];rw[fo M_ M_ M_ M_ j];simp only[bt_,show((123:Nat)==123)=true from rfl];obtain⟨l,E,F,G⟩:=mz (R:=rdB s env f u) (s:=s) (keyed:=true) (N:=300) (n0:=n+1) ks ds none _ (n+1) hk (λ_=>hr) (λd hd B C D z A=>ih d u B C (h d hd) z A M_) l_ k M_;rw[E];simp only[if_true,F,G,ah_,bd_]
  |alts D hl h=>
   rename_i q p l u d;have L:q<l.length:=(ak_.1 hl).1;have e:byT (.mk 40 (q:Int) noB [] [d])=zH q++byT d:=by simp[byT,yS,jH,wn]
   rw[e]at g⊢;obtain⟨j,k⟩:=At.app.1 g;rw[yN]at h1⊢;simp only[za,bp_]at h1⊢;simp only[fZ];rw[fo M_ M_ M_ M_ j];simp only[bt_,hl];rw[ih d u _ (n+1) h k M_ M_];simp only[ah_,bd_]
def vf:PB->Nat×Nat
 | .recd _=>(114,0)
 | .enum _ _=>(101,0)
 | .bytes n=>(102,n)
def xi(ew er:Au):PT->PT->Bool
 | .leaf c _,.leaf c' _=>
  if zi c=true then (c'==c||(c==105&&c'==108))
  else c==c'&&(match ew c,er c' with|some a,some b=>decide (vf a=vf b)|_,_=>false)
 | .wrap c _ _,.wrap c' _ _=>c==c'
 | _,_=>false
def xZ(ew er:Au)(w:PT):List PT->Nat->Option Nat->Option Nat
 | [],_,k=>k
 |r::rs,i,k=>xZ ew er w rs (i+1) (if (xi ew er w r&&(k.isNone||r.kind==105))=true then some i else k)
def vm{α β:Type}(g:α->Option β):List α->Option (List β)
 | []=>some []
 |a::r=>match g a with|none=>none|some b=>match vm g r with|none=>none|some l=>some (b::l)
def vV(fs:An)(c:Nat):Option Nat:=(fs.map PF.letter).findIdx? (λx=>x==c)
def qh(l:As)(o:Ac)(c:Nat):Option Nat:=
 match (l.map Prod.fst).findIdx? (λx=>x==c) with
 |some q=>some q
 |none=>match o with|none=>none|some (u,_)=>(l.map Prod.fst).findIdx? (λx=>x==u)
def mkF(R:Dp)(df:Dm)(fw:An)(ds:Ae)(g:PF):Option DT:=
 match vV fw g.letter with
 |some i=>match fw[i]?,ds[i]? with|some h,some d=>R h.ty g.ty d|_,_=>none
 |none=>df g
def mkB(R:Dp)(ew er:Au)(df:Dm):PT->PT->DT->Option DT
 | .leaf c _,.leaf c' _,.mk k n tx ks ds=>
  if zi c=true then some (.mk (if c'=108 then 108 else k) n tx ks ds)
  else match ew c,er c' with
   |some (.recd fw),some (.recd fr)=>(vm (mkF R df fw ds) fr).map (λl=>.mk 114 0 noB [] l)
   |some (.enum lw _),some (.enum lr o)=>(qh lr o ((lw.map Prod.fst).getD n.toNat 0)).map (λ(q:Nat)=>DT.mk 101 (q:Int) noB [] [])
   |some (.bytes _),some (.bytes _)=>some (.mk k n tx ks ds)
   | _,_=>none
 | .wrap _ _ u,.wrap _ _ u',.mk k n tx ks ds=>(vm (R u u') ds).map (λl=>.mk k n tx ks l)
 | _,_,_=>none
def mkP(ew er:Au)(df:Dm):Nat->PT->PT->DT->Option DT
 | 0,_,_,_=>none
 |f+1,w,r,d=>
  match w with
  | .alts _ ws=>match d with | .mk _ n _ _ ds=>match ws[n.toNat]?,ds with|some w1,d1::_=>mkP ew er df f w1 r d1|_,_=>none
  |w=>match r with
   | .alts _ rs=>match xZ ew er w rs 0 none with
    |none=>none
    |some k=>match rs[k]? with|none=>none|some r1=>(mkB (mkP ew er df f) ew er df w r1 d).map (λx=>.mk 40 (k:Int) noB [] [x])
   |r=>if xi ew er w r=true then mkB (mkP ew er df f) ew er df w r d else none
def oz{α β:Type}{g:α->Option β}:∀{l:List α}{m:List β},vm g l=some m->m.length=l.length/\∀(i:Nat) (a:α) (b:β),l[i]?=some a->m[i]?=some b->g a=some b
 | [],m,h=>by simp only[vm,af_]at h;subst h;exact⟨rfl,λi a b ha=>by simp at ha⟩
 |x::r,m,h=>by
  unfold vm at h;split at h
  .cases h
  .rename_i b hb;split at h
   .cases h
   .rename_i l hl;simp only[af_]at h;subst h;obtain⟨h1,d⟩:=oz hl;refine⟨by simp[h1],λi a c ha hc=>?_⟩;cases i with
    |zero=>simp at ha hc;subst ha hc;exact hb
    |succ i=>exact d i a c (by simpa using ha) z8_
def gv(o:Option Nat):Value:=.tuple #[Z_ ((o.getD 0:Nat):Int),.bool o.isSome]
def eH{w:Aw}{fs:An}{fv:Ax}{zs:Ay}{p:Int}(h:xh w P s fs fv zs)(hl:fs.length<=300):Calls prog 213 #[.agg #[Z_ p,fv],U_ c] w λe w'=>e=.returned (gv (vV fs c))/\Fr w w' N_:=by
 refine hq_ λG r=>?_;obtain⟨t,z,rfl⟩:=zw h.row;have j:Fr w (w.alloc (.cells #[Z_ p,.slice t fs.length z] 231)) N_:=(A_ w _).alloc _;have start:H_ (∃q:Nat,Value.int .i64 0=I_ q/\q<=fs.length/\fs.length+1-q<=fs.length+1/\Fr w (w.alloc (.cells #[Z_ p,.slice t fs.length z] 231)) N_/\c∉(fs.take q).map PF.letter):=zy ⟨0,rfl,am_ _,M_,j,by simp⟩;replace h:=zy h;go_in;go_wp2;go_loopg [6,11] (fs.length+1) (λm j v W=>∃q:Nat,v=I_ q/\q<=fs.length/\fs.length+1-q<=m/\Fr w W N_/\c∉(fs.take q).map PF.letter);case atStart=>exact start
 case round=>
  obtain⟨q,rfl,j,hm,hf,he⟩:=hrel;have j:=hf.size;by_cases A:q<fs.length
  .have D:(q:Int)<(fs.length:Int):=M_;have hd:fs[q]?=some fs[q]:=aj_ A;generalize fs[q]=f at hd;obtain⟨g,j,j⟩:=zg h.o.row M_;cases j;obtain⟨T,x,d,c0,c1,c2,c3,_,_⟩:=(h.o.fr hf u_).cells hd;obtain⟨l,i⟩:=x_ f.letter;obtain⟨F,E⟩:=x_ f.place;rw[i]at c1;rw[E]at c0;have k:=zy (hf.trans ((A_ wr N_).alloc (.cells #[I_ F,U_ l,.iface T x,.pointer d] 194)) u_);by_cases hb:l=c
   .subst hb;have B:((l:Int)==(l:Int))=true:=by rw[beq_iff_eq]
    have hr:=zy (show vV fs l=some q by unfold vV;exact cS _ q l (by rw[ax_,hd,<- i];rfl) yu_);go_wp2;try go_ret
    rw[r.o,hr.o];exact⟨rfl,k⟩
   .have B:((l:Int)==(c:Int))=false:=xg_
    have C:=zy (show c∉(fs.take (q+1)).map PF.letter by
     rw[a8_,hd]
     simp only[Option.toList_some,bf_,a0_,bn_,a4_,a2_,not_or]
     exact⟨he,λe=>hb (by rw[<- i];exact e.symm)⟩)
    go_wp2;go_roundg (fs.length+1-(q+1));case measure=>omega
    case rel=>exact⟨q+1,rfl,A,l_,k,C⟩
  .have D:¬((q:Int)<(fs.length:Int)):=M_;rw[bc_ M_]at he;have hr:=zy (show vV fs c=none by unfold vV;exact fh he);replace hf:=zy hf;go_wp2;try go_ret
   rw[r.o,hr.o];exact⟨rfl,hf⟩
def WQ{w:Aw}{lv:Ax}{l:As}{p:Int}(ho:w.ownsRow 0 191 2 lv l.length (zE l))(hu:∃d,u=.pointer d)(hl:l.length<=300):Calls prog 225 #[.agg #[Z_ p,lv,u],U_ c] w λe w'=>e=.returned (gv ((l.map Prod.fst).findIdx? (λx=>x==c)))/\Fr w w' N_:=by
 refine hq_ λE j=>?_;obtain⟨z,A,rfl⟩:=zw ho;obtain⟨r,rfl⟩:=hu;have h:Fr w (w.alloc (.cells #[Z_ p,.slice z l.length A,.pointer r] 236)) N_:=(A_ w _).alloc _;have start:H_ (∃q:Nat,Value.int .i64 0=I_ q/\q<=l.length/\l.length+1-q<=l.length+1/\Fr w (w.alloc (.cells #[Z_ p,.slice z l.length A,.pointer r] 236)) N_/\c∉(l.take q).map Prod.fst):=zy ⟨0,rfl,am_ _,M_,h,by simp⟩;replace ho:=zy ho;go_in;go_wp2;go_loopg [6,11] (l.length+1) (λm h v W=>∃q:Nat,v=I_ q/\q<=l.length/\l.length+1-q<=m/\Fr w W N_/\c∉(l.take q).map Prod.fst);case atStart=>exact start
 case round=>
  obtain⟨q,rfl,h,hm,hf,he⟩:=hrel;have h:=hf.size;by_cases t:q<l.length
  .have D:(q:Int)<(l.length:Int):=M_;have hd:l[q]?=some l[q]:=aj_ t;generalize l[q]=f at hd;obtain⟨k,r⟩:=f;obtain⟨g,h,h⟩:=zg ho M_;cases h;have h:=zj ho hf u_;have c0:=zr h rfl (xB hd).1;have c1:=zr h rfl (xB hd).2;have i:=zy (hf.trans ((A_ wr N_).alloc (.cells #[I_ r,U_ k] 191)) u_);by_cases hb:k=c
   .subst hb;have B:((k:Int)==(k:Int))=true:=by rw[beq_iff_eq]
    have hr:=zy (show(l.map Prod.fst).findIdx? (λx=>x==k)=some q from cS _ q k (by rw[ax_,hd];rfl) yu_);go_wp2;try go_ret
    rw[j.o,hr.o];exact⟨rfl,i⟩
   .have B:((k:Int)==(c:Int))=false:=xg_
    have C:=zy (show c∉(l.take (q+1)).map Prod.fst by
     rw[a8_,hd]
     simp only[Option.toList_some,bf_,a0_,bn_,a4_,a2_,not_or]
     exact⟨he,λe=>hb e.symm⟩)
    go_wp2;go_roundg (l.length+1-(q+1));case measure=>omega
    case rel=>exact⟨q+1,rfl,t,l_,i,C⟩
  .have D:¬((q:Int)<(l.length:Int)):=M_;rw[bc_ M_]at he;have hr:=zy (show(l.map Prod.fst).findIdx? (λx=>x==c)=none from fh he);replace hf:=zy hf;go_wp2;try go_ret
   rw[j.o,hr.o];exact⟨rfl,hf⟩
def rl{w:Aw}{lv:Ax}{l:As}{o:Ac}{p:Int}(ho:w.ownsRow 0 191 2 lv l.length (zE l))(hu:qb w P o u)(hl:l.length<=300):Calls prog 191 #[.agg #[Z_ p,lv,u],U_ c] w λe w'=>e=.returned (gv (qh l o c))/\Fr w w' N_:=by
 refine hq_ λI A=>?_;obtain⟨I,z⟩:∃d,u=.pointer d:=by
  unfold qb at hu;split at hu
  .exact⟨_,hu⟩
  .obtain⟨g',_,e,_⟩:=hu;exact⟨_,e⟩
 have t:=zy (λ(W:World) (J:Fr w W N_) (k:Nat)=>WQ (w:=W) (p:=p) (u:=u) (c:=k) (zj ho J u_) ⟨I,z⟩ hl);obtain⟨B,C,rfl⟩:=zw ho;have j:=zy ((A_ w _).alloc _:Fr w (w.alloc (.cells #[Z_ p,.slice B l.length C,u] 236)) N_);have r:=zy (B_ w #[Z_ p,.slice B l.length C,u] 236);cases h:(l.map Prod.fst).findIdx? (λx=>x==c) with
 |some q=>
  have hr:=zy (show qh l o c=some q by unfold qh;rw[h]);subst z;replace h:=zy h;go_in;go_wp2_with (go_at_call 225;apply(t.o _ j.o c).mono;rintro e w1 ⟨rfl,f⟩;rw[h.o];simp only[gv,b6_,Option.isSome_some];have i:=zy (j.o.trans f u_);have b2:=(f.bl r.o id).c2);try go_ret
  rw[A.o,hr.o];exact⟨rfl,i.o⟩
 |none=>
  cases o with
  |none=>
   have hr:=zy (show qh l none c=none by unfold qh;rw[h]);obtain rfl:u=.pointer none:=hu;cases z;replace h:=zy h;go_in;go_wp2_with (go_at_call 225;apply(t.o _ j.o c).mono;rintro e w1 ⟨rfl,f⟩;rw[h.o];simp only[gv,Option.getD_none,cc_];have i:=zy (j.o.trans f u_);have b2:=(f.bl r.o id).c2);try go_ret
   rw[A.o,hr.o];exact⟨rfl,i.o⟩
  |some cp=>
   obtain⟨m,I⟩:=cp;have hr:=zy (show qh l (some (m,I)) c=(l.map Prod.fst).findIdx? (λx=>x==m) by unfold qh;rw[h]);obtain⟨g,hg,rfl,hB⟩:=hu;cases z;replace h:=zy h;replace hB:=zy hB;go_in;go_wp2_with (go_at_call 225;with_reducible apply(t.o _ j.o c).mono;rintro e w1 ⟨rfl,f⟩;rw[h.o];simp only[gv,Option.getD_none,cc_];have i:=zy (j.o.trans f u_);obtain⟨b0,b1,b2⟩:=(f.bl r.o id).d3;have E:=(i.o.bl hB.o id).c1;have F:=zy (f.bl r.o id);have H:=zy (i.o.bl hB.o id));refine tR_ (λW=>z_ W w.heap.size 0 (Z_ p)/\z_ W w.heap.size 1 (.slice B l.length C)/\z_ W w.heap.size 2 (P_ g)/\z_ W g 1 (U_ m)) ?_;refine tY_ 0 ?_;refine tY_ 1 ?_;refine tY_ 2 ?_;refine tY_ 3 ?_;refine tY_ 4 ?_;refine tY_ 5 ?_;refine zJ 6 rfl K_ ⟨b0,b1,b2,E⟩ (λK D=>?_);go_simp;apply(t.o _ (i.o.drew) m).mono;rintro e f ⟨rfl,f⟩;refine D _ _ ?_;have h:=f.bl F.o.drew id;have j:=f.bl H.o.drew id;obtain⟨d0,d1,r⟩:=h.d3;have t:=j.c1;have G:=zy (i.o.drew.trans f u_);unfold gv;refine tY_ 7 ?_;refine tY_ 8 ?_;refine tY_ 9 ?_;refine tY_ 10 ?_;refine yq K_ ⟨d0,d1,r,t⟩ ?_ _;go_wp2;refine bodyPost_ret (v:=.tuple #[Z_ ((((l.map Prod.fst).findIdx? (λx=>x==m)).getD 0:Nat):Int),.bool ((l.map Prod.fst).findIdx? (λx=>x==m)).isSome]) (by simp[results,results191,go_sem];try rfl) rfl ?_;rw[A.o,hr.o];exact⟨rfl,G.o⟩
set_option maxRecDepth 100000
set_option linter.defProp false
@[go_sem]def Po:=yI 307 20
@[go_sem]def Zx:=vt 307 20 (.agg #[])
@[go_sem]def Bc:=yI 280 20
@[go_sem]def Xf:=vt 280 20 (.agg #[O_,.nilIface])
@[go_sem]def My:=yI 218 20
@[go_sem]def Qc:=vt 218 20 (.agg #[O_])
@[go_sem]def Gw:=yI 215 20
@[go_sem]def tf:=vt 215 20 (.agg #[O_])
@[go_sem]def Pa:=yI 217 20
@[go_sem]def Zy:=vt 217 20 (.agg #[O_])
@[go_sem]def Bm:=yI 219 20
@[go_sem]def Xg:=vt 219 20 (.agg #[O_])
@[go_sem]def Bu:=yI 220 20
@[go_sem]def Xw:=vt 220 20 (.agg #[O_])
def YW{w:Aw}(u:Av)(h:u≠307)(v:Ax):Calls prog 193 #[.iface u v] w λe w'=>e=.returned (.bool false)/\Fr w w' N_:=by
 have a:=Zx u h v;have d:=zy (λo=>(A_ w N_).alloc o);go_in;go_wp2;try go_ret
 exact⟨rfl,d.o _⟩
def JQ{w:Aw}(u:Av)(h:u≠280)(v:Ax):Calls prog 194 #[.iface u v] w λe w'=>e=.returned (.bool false)/\Fr w w' N_:=by
 have a:=Xf u h v;have d:=zy (λo=>(A_ w N_).alloc o);go_in;go_wp2;try go_ret
 exact⟨rfl,d.o _⟩
def bP{w:Aw}(u:Av)(h:u≠218)(v:Ax):Calls prog 195 #[.iface u v] w λe w'=>e=.returned (.bool false)/\Fr w w' N_:=by
 have a:=Qc u h v;have d:=zy (λo=>(A_ w N_).alloc o);go_in;go_wp2;try go_ret
 exact⟨rfl,d.o _⟩
def qt{w:Aw}(u:Av)(h:u≠215)(v:Ax):Calls prog 197 #[.iface u v] w λe w'=>e=.returned (.bool false)/\Fr w w' N_:=by
 have a:=tf u h v;have d:=zy (λo=>(A_ w N_).alloc o);go_in;go_wp2;try go_ret
 exact⟨rfl,d.o _⟩
def wm{w:Aw}(u:Av)(h:u≠217)(v:Ax):Calls prog 198 #[.iface u v] w λe w'=>e=.returned (.bool false)/\Fr w w' N_:=by
 have a:=Zy u h v;have d:=zy (λo=>(A_ w N_).alloc o);go_in;go_wp2;try go_ret
 exact⟨rfl,d.o _⟩
def fg{w:Aw}(u:Av)(h:u≠219)(v:Ax):Calls prog 199 #[.iface u v] w λe w'=>e=.returned (.bool false)/\Fr w w' N_:=by
 have a:=Xg u h v;have d:=zy (λo=>(A_ w N_).alloc o);go_in;go_wp2;try go_ret
 exact⟨rfl,d.o _⟩
def fk{w:Aw}(u:Av)(h:u≠220)(v:Ax):Calls prog 200 #[.iface u v] w λe w'=>e=.returned (.bool false)/\Fr w w' N_:=by
 have a:=Xw u h v;have d:=zy (λo=>(A_ w N_).alloc o);go_in;go_wp2;try go_ret
 exact⟨rfl,d.o _⟩
def oY{w:Aw}:Calls prog 193 #[.iface 307 (.agg #[])] w λe w'=>e=.returned (.bool true)/\Fr w w' N_:=by
 have d:=zy (λo=>(A_ w N_).alloc o);go_in;go_wp2;try go_ret
 exact⟨rfl,d.o _⟩
def rq{w:Aw}{T:Av}{x:Ax}:Calls prog 194 #[.iface 280 (.agg #[Z_ n,.iface T x])] w λe w'=>e=.returned (.bool true)/\Fr w w' N_:=by
 have d:=zy (λo=>(A_ w N_).alloc o);go_in;go_wp2;try go_ret
 exact⟨rfl,d.o _⟩
def JK{w:Aw}:Calls prog 195 #[.iface 218 (.agg #[Z_ n])] w λe w'=>e=.returned (.bool true)/\Fr w w' N_:=by
 have d:=zy (λo=>(A_ w N_).alloc o);go_in;go_wp2;try go_ret
 exact⟨rfl,d.o _⟩
def tz{w:Aw}:Calls prog 197 #[.iface 215 (.agg #[Z_ n])] w λe w'=>e=.returned (.bool true)/\Fr w w' N_:=by
 have d:=zy (λo=>(A_ w N_).alloc o);go_in;go_wp2;try go_ret
 exact⟨rfl,d.o _⟩
def oZ{w:Aw}:Calls prog 198 #[.iface 217 (.agg #[Z_ n])] w λe w'=>e=.returned (.bool true)/\Fr w w' N_:=by
 have d:=zy (λo=>(A_ w N_).alloc o);go_in;go_wp2;try go_ret
 exact⟨rfl,d.o _⟩
def YF{w:Aw}:Calls prog 199 #[.iface 219 (.agg #[Z_ n])] w λe w'=>e=.returned (.bool true)/\Fr w w' N_:=by
 have d:=zy (λo=>(A_ w N_).alloc o);go_in;go_wp2;try go_ret
 exact⟨rfl,d.o _⟩
def YQ{w:Aw}:Calls prog 200 #[.iface 220 (.agg #[Z_ n])] w λe w'=>e=.returned (.bool true)/\Fr w w' N_:=by
 have d:=zy (λo=>(A_ w N_).alloc o);go_in;go_wp2;try go_ret
 exact⟨rfl,d.o _⟩
def jU{w:Aw}(b:Aq):Calls prog 196 #[.bool b] w λe w'=>e=.returned (if b=true then .iface 275 (.agg #[]) else .iface 307 (.agg #[]))/\w'=w:=by
 cases b with
 |true=>
  go_in;go_wp2;try go_ret
  exact⟨rfl,rfl⟩
 |false=>
  go_in;go_wp2;try go_ret
  exact⟨rfl,rfl⟩
inductive MbV:PB->PB->Value->Value->Value->Prop
 |flds {fw fr:List PF} {p sv q rv:Value}:MbV (.recd fw) (.recd fr) (.iface 231 (.agg #[p,sv])) (.iface 231 (.agg #[q,rv])) (.iface 288 (.agg #[p,sv,q,rv]))
 |syms {lw lr:List (Nat×Nat)} {ow or':Option (Nat×Nat)} {p sv u q rv u':Value}:MbV (.enum lw ow) (.enum lr or') (.iface 236 (.agg #[p,sv,u])) (.iface 236 (.agg #[q,rv,u'])) (.iface 285 (.agg #[p,sv,u,q,rv,u']))
 |same {n:Nat} {a b:Value}:MbV (.bytes n) (.bytes n) a b (.iface 275 (.agg #[]))
 |never {x y:PB} {a b:Value} (h:vf x≠vf y):MbV x y a b (.iface 307 (.agg #[]))
def qb.ptr{w:Aw}{o:Ac}(hu:qb w P o u):∃d,u=.pointer d:=by
 unfold qb at hu;split at hu
 .exact⟨_,hu⟩
 .obtain⟨g',_,e,_⟩:=hu;exact⟨_,e⟩
def cwox1_{p:Prop}(h:p:=by
 obtain⟨sa,sc,rfl⟩:=zw ho;(first|(have:=cc1;obtain⟨du,rfl⟩:=hu.ptr;clear ho hP hu)|(clear ho hP h));cases hb with
 |recd p' ho' hP' h' hp'=>
  (first|(have:=cc1)|(obtain⟨ra,rc,rfl⟩:=zw ho'));clear ho' hP' h';go_in;go_wp2;try go_ret
  rw[Q_.o];(first|(have:=cc1;exact⟨_,rfl,hA.o _ _,.never zr_⟩)|(exact⟨_,rfl,hA.o _ _,.flds⟩))
 |enum p' ho' hP' hu' hp'=>
  (try have:=cc1;obtain⟨ra,rc,rfl⟩:=zw ho';obtain⟨du',rfl⟩:=hu'.ptr)
  clear ho' hP' hu';go_in;go_wp2;try go_ret
  rw[Q_.o];(first|(have:=cc1;exact⟨_,rfl,hA.o _ _,.syms⟩)|(exact⟨_,rfl,hA.o _ _,.never zr_⟩))
 |bytes p' n' hp'=>
  go_in;go_wp2;try go_ret
  rw[Q_.o];exact⟨_,rfl,hA.o _ _,.never zr_⟩):p:=h
def ox{w:Aw}{Q:Az}{x y:PB}{b:Ax}(ha:yV w P s x a)(hb:yV w Q s' y b):Calls prog 201 #[a,b] w λe w'=>∃v,e=.returned v/\Fr w w' N_/\MbV x y a b v:=by
 obtain⟨j,Q_⟩:=y_ (λ(e:Ending) (w':World)=>∃v,e=.returned v/\Fr w w' N_/\MbV x y a b v);rw[<- Q_.o];have hA:=zy (λo j=>((A_ w N_).alloc o).alloc j);cases ha with
 |recd p ho hP h hp=>
  exact cwox1_
 |enum p ho hP hu hp=>
  have cc1:=Nat;exact cwox1_
 |bytes p n hp=>
  have d:=zy (λ(W:World) (b:Bool)=>jU (w:=W) b);cases hb with
  |recd p' ho' hP' h' hp'=>
   go_in;go_wp2_with (go_at_call 196;apply(d.o _ _).mono;rintro e w1 ⟨rfl,rfl⟩);try go_ret
   rw[Q_.o];exact⟨_,rfl,hA.o _ _,.never zr_⟩
  |enum p' ho' hP' hu' hp'=>
   go_in;go_wp2_with (go_at_call 196;apply(d.o _ _).mono;rintro e w1 ⟨rfl,rfl⟩);try go_ret
   rw[Q_.o];exact⟨_,rfl,hA.o _ _,.never zr_⟩
  |bytes p' n' hp'=>
   by_cases f:n=n'
   .subst f;have g:((n:Int)==(n:Int))=true:=by rw[beq_iff_eq]
    go_in;go_wp2_with (go_at_call 196;apply(d.o _ _).mono;rintro e w1 ⟨rfl,rfl⟩);try go_ret
    rw[Q_.o];exact⟨_,rfl,hA.o _ _,.same⟩
   .have g:((n':Int)==(n:Int))=false:=xg_
    have i:=zy f;go_in;go_wp2_with (go_at_call 196;apply(d.o _ _).mono;rintro e w1 ⟨rfl,rfl⟩);try go_ret
    rw[Q_.o];exact⟨_,rfl,hA.o _ _,.never (by simp[vf];exact i)⟩
def vJ:PT->Prop
 | .leaf _ _=>True
 | .wrap c _ _=>c=91\/c=123
 | .alts _ _=>False
def oX{w:Aw}{Q:Az}{y:PT}{b:Ax}(hb:TyV w Q y b)(hf:vJ y):Calls prog 195 #[b] w λe w'=>e=.returned (.bool (y.kind==105))/\Fr w w' N_:=by
 cases hb with
 |base c p h=>
  simp only[zi,ay_,beq_iff_eq]at h;rcases h with(((rfl|rfl)|rfl)|rfl)|rfl;all_goals first
   |exact JK
   |exact bP _ D_ _
 |name c p h=>
  have hc:65<=c/\c<=70:=y3_
  have e:((PT.leaf c p).kind==105)=false:=by
   rw[beq_eq_false_iff_ne];show c≠105;omega
  rw[e];exact bP _ D_ _
 |wrap c p h=>
  rcases hf with rfl|rfl
  .exact bP _ D_ _
  .exact bP _ D_ _
 |alts p X ho hP h=>exact hf.elim
def iG{w:Aw}{Q:Az}{y:PT}{b:Ax}(hb:TyV w Q y b)(hf:vJ y):Calls prog 197 #[b] w λe w'=>e=.returned (.bool (y.kind==110))/\Fr w w' N_:=by
 cases hb with
 |base c p h=>
  simp only[zi,ay_,beq_iff_eq]at h;rcases h with(((rfl|rfl)|rfl)|rfl)|rfl;all_goals first
   |exact tz
   |exact qt _ D_ _
 |name c p h=>
  have hc:65<=c/\c<=70:=y3_
  have e:((PT.leaf c p).kind==110)=false:=by
   rw[beq_eq_false_iff_ne];show c≠110;omega
  rw[e];exact qt _ D_ _
 |wrap c p h=>
  rcases hf with rfl|rfl
  .exact qt _ D_ _
  .exact qt _ D_ _
 |alts p X ho hP h=>exact hf.elim
def YJ{w:Aw}{Q:Az}{y:PT}{b:Ax}(hb:TyV w Q y b)(hf:vJ y):Calls prog 198 #[b] w λe w'=>e=.returned (.bool (y.kind==116))/\Fr w w' N_:=by
 cases hb with
 |base c p h=>
  simp only[zi,ay_,beq_iff_eq]at h;rcases h with(((rfl|rfl)|rfl)|rfl)|rfl;all_goals first
   |exact oZ
   |exact wm _ D_ _
 |name c p h=>
  have hc:65<=c/\c<=70:=y3_
  have e:((PT.leaf c p).kind==116)=false:=by
   rw[beq_eq_false_iff_ne];show c≠116;omega
  rw[e];exact wm _ D_ _
 |wrap c p h=>
  rcases hf with rfl|rfl
  .exact wm _ D_ _
  .exact wm _ D_ _
 |alts p X ho hP h=>exact hf.elim
def nh{w:Aw}{Q:Az}{y:PT}{b:Ax}(hb:TyV w Q y b)(hf:vJ y):Calls prog 199 #[b] w λe w'=>e=.returned (.bool (y.kind==108))/\Fr w w' N_:=by
 cases hb with
 |base c p h=>
  simp only[zi,ay_,beq_iff_eq]at h;rcases h with(((rfl|rfl)|rfl)|rfl)|rfl;all_goals first
   |exact YF
   |exact fg _ D_ _
 |name c p h=>
  have hc:65<=c/\c<=70:=y3_
  have e:((PT.leaf c p).kind==108)=false:=by
   rw[beq_eq_false_iff_ne];show c≠108;omega
  rw[e];exact fg _ D_ _
 |wrap c p h=>
  rcases hf with rfl|rfl
  .exact fg _ D_ _
  .exact fg _ D_ _
 |alts p X ho hP h=>exact hf.elim
def JV{w:Aw}{Q:Az}{y:PT}{b:Ax}(hb:TyV w Q y b)(hf:vJ y):Calls prog 200 #[b] w λe w'=>e=.returned (.bool (y.kind==115))/\Fr w w' N_:=by
 cases hb with
 |base c p h=>
  simp only[zi,ay_,beq_iff_eq]at h;rcases h with(((rfl|rfl)|rfl)|rfl)|rfl;all_goals first
   |exact YQ
   |exact fk _ D_ _
 |name c p h=>
  have hc:65<=c/\c<=70:=y3_
  have e:((PT.leaf c p).kind==115)=false:=by
   rw[beq_eq_false_iff_ne];show c≠115;omega
  rw[e];exact fk _ D_ _
 |wrap c p h=>
  rcases hf with rfl|rfl
  .exact fk _ D_ _
  .exact fk _ D_ _
 |alts p X ho hP h=>exact hf.elim
def Jd{p:Nat}{y:PT}(hc:zi c=true)(hf:vJ y):xi ew er (.leaf c p) y=(y.kind==c||(c==105&&y.kind==108)):=by
 cases y with
 |leaf c' p'=>simp only[xi,hc,if_true,PT.kind]
 |wrap c' p' u=>
  simp only[zi,ay_,beq_iff_eq]at hc;have:c'=91\/c'=123:=hf;simp only[xi,PT.kind];rcases hc with(((rfl|rfl)|rfl)|rfl)|rfl<;>rcases this with rfl|rfl<;>rfl
 |alts p' l=>exact hf.elim
def gG(b:Aq):Value:=if b=true then .iface 275 (.agg #[]) else .iface 307 (.agg #[])
section
variable {w:Aw} {Q:Az} {y:PT} {b:Ax} {p:Nat} {sa ra:Am} {sn sc rn rc:Nat} {sT rT:Av} {sx rx:Ax}
def cq14_{p:Prop}(h:p:=by
 (first|(have:=cc1;obtain⟨i,d⟩:∃R,H_ (R=λ(e:Ending) (w':World)=>e=.returned (gG (y.kind==115))/\Fr w w' N_):=⟨_,rfl⟩)|(have:=cc2;obtain⟨i,d⟩:∃R,H_ (R=λ(e:Ending) (w':World)=>e=.returned (gG (y.kind==116))/\Fr w w' N_):=⟨_,rfl⟩)|(have:=cc3;obtain⟨i,d⟩:∃R,H_ (R=λ(e:Ending) (w':World)=>e=.returned (gG (y.kind==110))/\Fr w w' N_):=⟨_,rfl⟩)|(obtain⟨i,d⟩:∃R,H_ (R=λ(e:Ending) (w':World)=>e=.returned (gG (y.kind==108))/\Fr w w' N_):=⟨_,rfl⟩));rw[<- d.o];(first|(have:=cc1;have f:=zy (λW (g:Fr w W N_)=>JV (hb.fr g u_) hf))|(have:=cc2;have f:=zy (λW (g:Fr w W N_)=>YJ (hb.fr g u_) hf))|(have:=cc3;have f:=zy (λW (g:Fr w W N_)=>iG (hb.fr g u_) hf))|(have f:=zy (λW (g:Fr w W N_)=>nh (hb.fr g u_) hf)));have l:=zy (λ(W:World) (b:Bool)=>jU (w:=W) b);have A:=zy (λo m=>((A_ w N_).alloc o).alloc m);obtain⟨bT,bx,rfl⟩:=hb.iface;clear hb hf;(first|(have:=cc1;generalize (y.kind==115)=bb at d f)|(have:=cc2;generalize (y.kind==116)=bb at d f)|(have:=cc3;generalize (y.kind==110)=bb at d f)|(generalize (y.kind==108)=bb at d f));cases bb;all_goals
  go_in;go_wp2_with (first
   |((first|go_at_call 199|go_at_call 200|go_at_call 198|go_at_call 197);apply(f.o _ (A.o _ _)).mono;rintro e w1 ⟨rfl,j⟩;have k:=zy ((A.o _ _).trans j u_);clear j)
   |(go_at_call 196;apply(l.o _ _).mono;rintro e q ⟨rfl,rfl⟩))
  try go_ret
  rw[d.o];exact⟨rfl,k.o⟩):p:=h
def Jl(hb:TyV w Q y b)(hf:vJ y):Calls prog 145 #[.agg #[.slice sa sn sc,.iface sT sx,.slice ra rn rc,.iface rT rx],.iface 215 (.agg #[I_ p]),b] w λe w'=>e=.returned (gG (y.kind==110))/\Fr w w' N_:=by
 have cc3:=Nat
 exact cq14_
def Jm(hb:TyV w Q y b)(hf:vJ y):Calls prog 145 #[.agg #[.slice sa sn sc,.iface sT sx,.slice ra rn rc,.iface rT rx],.iface 217 (.agg #[I_ p]),b] w λe w'=>e=.returned (gG (y.kind==116))/\Fr w w' N_:=by
 have cc2:=Nat
 exact cq14_
def Jh(hb:TyV w Q y b)(hf:vJ y):Calls prog 145 #[.agg #[.slice sa sn sc,.iface sT sx,.slice ra rn rc,.iface rT rx],.iface 219 (.agg #[I_ p]),b] w λe w'=>e=.returned (gG (y.kind==108))/\Fr w w' N_:=by
 exact cq14_
def Jc(hb:TyV w Q y b)(hf:vJ y):Calls prog 145 #[.agg #[.slice sa sn sc,.iface sT sx,.slice ra rn rc,.iface rT rx],.iface 220 (.agg #[I_ p]),b] w λe w'=>e=.returned (gG (y.kind==115))/\Fr w w' N_:=by
 have cc1:=Nat
 exact cq14_
end
section
variable {w:Aw} {Q:Az} {y:PT} {b:Ax} {p:Nat} {sa ra:Am} {sn sc rn rc:Nat} {sT rT:Av} {sx rx:Ax}
def Jr(hb:TyV w Q y b)(hf:vJ y):Calls prog 145 #[.agg #[.slice sa sn sc,.iface sT sx,.slice ra rn rc,.iface rT rx],.iface 218 (.agg #[I_ p]),b] w λe w'=>e=.returned (gG (y.kind==105||y.kind==108))/\Fr w w' N_:=by
 obtain⟨i,d⟩:=y_ (λ(e:Ending) (w':World)=>e=.returned (gG (y.kind==105||y.kind==108))/\Fr w w' N_);rw[<- d.o];have h:=zy (λW (i:Fr w W N_)=>oX (hb.fr i u_) hf);have k:=zy (λW (i:Fr w W N_)=>nh (hb.fr i u_) hf);have j:=zy (λ(W:World) (b:Bool)=>jU (w:=W) b);have A:=zy (λo i=>((A_ w N_).alloc o).alloc i);obtain⟨bT,bx,rfl⟩:=hb.iface;generalize (y.kind==105)=bb at d h;generalize (y.kind==108)=bl at d k;cases bb
 .cases bl;all_goals
   go_in;go_wp2_with (first
    |(go_at_call 195;apply(h.o _ (A.o _ _)).mono;rintro e w1 ⟨rfl,f⟩;have g:=zy ((A.o _ _).trans f u_))
    |(go_at_call 199;apply(k.o _ g).mono;rintro e i ⟨rfl,i⟩;have l:=zy (g.o.trans i u_))
    |(go_at_call 196;apply(j.o _ _).mono;rintro e m ⟨rfl,rfl⟩))
   try go_ret
   rw[d.o];exact⟨rfl,l⟩
 .go_in;go_wp2_with (first
   |(go_at_call 195;apply(h.o _ (A.o _ _)).mono;rintro e w1 ⟨rfl,f⟩;have g:=zy ((A.o _ _).trans f u_))
   |(go_at_call 196;apply(j.o _ _).mono;rintro e m ⟨rfl,rfl⟩))
  try go_ret
  rw[d.o];exact⟨rfl,g⟩
end
section
variable {w:Aw} {p p':Nat} {sa ra:Am} {sn sc rn rc:Nat} {sT rT uT vT bT:Av} {sx rx ux vx bx:Ax}
def cq20_{p:Prop}(h:p:=by
 obtain⟨f,d⟩:=y_ (λ(e:Ending) (w':World)=>e=.returned (.iface 282 (.agg #[.iface uT ux,.iface vT vx]))/\Fr w w' N_);rw[<- d.o];go_in;go_wp2;try go_ret
 rw[d.o];exact⟨rfl,(((A_ w N_).alloc _).alloc _).alloc _⟩):p:=h
def ie:Calls prog 145 #[.agg #[.slice sa sn sc,.iface sT sx,.slice ra rn rc,.iface rT rx],.iface 222 (.agg #[I_ p,.iface uT ux]),.iface 222 (.agg #[I_ p',.iface vT vx])] w λe w'=>e=.returned (.iface 282 (.agg #[.iface uT ux,.iface vT vx]))/\Fr w w' N_:=by
 exact cq20_
def cq27_{p:Prop}(h:p:=by
 obtain⟨g,d⟩:=y_ (λ(e:Ending) (w':World)=>e=.returned (.iface 307 (.agg #[]))/\Fr w w' N_);rw[<- d.o];(first|(have:=cc1;have f:=nH bT hT)|(have:=cc2;have f:=kC bT hT)|(have f:=gW bT hT));go_in;go_wp2;try go_ret
 rw[d.o];exact⟨rfl,(((A_ w N_).alloc _).alloc _).alloc _⟩):p:=h
def gq(hT:bT≠222):Calls prog 145 #[.agg #[.slice sa sn sc,.iface sT sx,.slice ra rn rc,.iface rT rx],.iface 222 (.agg #[I_ p,.iface uT ux]),.iface bT bx] w λe w'=>e=.returned (.iface 307 (.agg #[]))/\Fr w w' N_:=by
 have cc2:=Nat
 exact cq27_
def dR:Calls prog 145 #[.agg #[.slice sa sn sc,.iface sT sx,.slice ra rn rc,.iface rT rx],.iface 223 (.agg #[I_ p,.iface uT ux]),.iface 223 (.agg #[I_ p',.iface vT vx])] w λe w'=>e=.returned (.iface 282 (.agg #[.iface uT ux,.iface vT vx]))/\Fr w w' N_:=by
 have cc1:=Nat
 exact cq20_
def ww(hT:bT≠223):Calls prog 145 #[.agg #[.slice sa sn sc,.iface sT sx,.slice ra rn rc,.iface rT rx],.iface 223 (.agg #[I_ p,.iface uT ux]),.iface bT bx] w λe w'=>e=.returned (.iface 307 (.agg #[]))/\Fr w w' N_:=by
 exact cq27_
def kw(hT:bT≠229):Calls prog 145 #[.agg #[.slice sa sn sc,.iface sT sx,.slice ra rn rc,.iface rT rx],.iface 229 (.agg #[I_ p,U_ c]),.iface bT bx] w λe w'=>e=.returned (.iface 307 (.agg #[]))/\Fr w w' N_:=by
 have cc1:=Nat
 exact cq27_
def uG{d:Nat}(hc:¬((d:Int)=(c:Int))):Calls prog 145 #[.agg #[.slice sa sn sc,.iface sT sx,.slice ra rn rc,.iface rT rx],.iface 229 (.agg #[I_ p,U_ c]),.iface 229 (.agg #[I_ p',U_ d])] w λe w'=>e=.returned (.iface 307 (.agg #[]))/\Fr w w' N_:=by
 obtain⟨g,f⟩:=y_ (λ(e:Ending) (w':World)=>e=.returned (.iface 307 (.agg #[]))/\Fr w w' N_);rw[<- f.o];have g:((d:Int)==(c:Int))=false:=z8_
 have g:decide ((d:Int)=(c:Int))=false:=z8_
 go_in;go_wp2;all_goals first
  |((try go_ret);rw[f.o];exact⟨rfl,(((A_ w N_).alloc _).alloc _).alloc _⟩)
  |omega
end
def cY{w:Aw}{Q:Az}{ds ds':Ar}{sv sv':Ax}{xs xs':Ay}{p p':Nat}{sT rT:Av}{sx rx:Ax}{x y:PB}(D:yR w P s ds sv xs)(E:yR w Q s' ds' sv' xs')(hx:zx ds c=some x)(hy:zx ds' c=some y):Calls prog 145 #[.agg #[sv,.iface sT sx,sv',.iface rT rx],.iface 229 (.agg #[I_ p,U_ c]),.iface 229 (.agg #[I_ p',U_ c])] w λe w'=>∃a b v,e=.returned v/\Fr w w' N_/\yV w' P s x a/\yV w' Q s' y b/\ZV ds' xs' y b/\MbV x y a b v:=by
 obtain⟨S,I⟩:=y_ (λ(e:Ending) (w':World)=>∃a b v,e=.returned v/\Fr w w' N_/\yV w' P s x a/\yV w' Q s' y b/\ZV ds' xs' y b/\MbV x y a b v);rw[<- I.o];have K:=zy (λW (d:Fr w W N_)=>jp (rv:=.iface sT sx) c (D.fr d u_));have L:=zy (λW (d:Fr w W N_)=>tE (rv:=.iface rT rx) c (E.fr d u_));have M:=zy (λW a b (ha:yV W P s x a) (hb:yV W Q s' y b)=>ox ha hb);have hx:=zy hx;have hy:=zy hy;obtain⟨sa,sc,rfl⟩:=zw D.row;obtain⟨ra,rc,rfl⟩:=zw E.row;obtain⟨i,hwz⟩:=e_ (((w.alloc (.cells #[.slice sa ds.length sc,.iface sT sx,.slice ra ds'.length rc,.iface rT rx] 83)).alloc (.cells #[I_ p,U_ c] 229)).alloc (.cells #[I_ p',U_ c] 229));have k:Fr w i N_:=xk_
 have j:Blk i w.heap.size [.slice sa ds.length sc,.iface sT sx,.slice ra ds'.length rc,.iface rT rx] 83:=by
  rw[hwz];exact((B_ w #[.slice sa ds.length sc,.iface sT sx,.slice ra ds'.length rc,.iface rT rx] 83).alloc _).alloc _
 have A:Blk i (w.heap.size+1) [I_ p,U_ c] 229:=by
  rw[hwz];have h:=(B_ (w.alloc (.cells #[.slice sa ds.length sc,.iface sT sx,.slice ra ds'.length rc,.iface rT rx] 83)) #[I_ p,U_ c] 229).alloc (.cells #[I_ p',U_ c] 229);have hs:∀(u:World) (o:Obj),(u.alloc o).heap.size=u.heap.size+1:=λu o=>by show(u.heap.push _).size=_;simp
  simp only[hs]at h;exact h
 have B:Blk i (w.heap.size+1+1) [I_ p',U_ c] 229:=by
  rw[hwz];have h:=B_ ((w.alloc (.cells #[.slice sa ds.length sc,.iface sT sx,.slice ra ds'.length rc,.iface rT rx] 83)).alloc (.cells #[I_ p,U_ c] 229)) #[I_ p',U_ c] 229;have hs:∀(u:World) (o:Obj),(u.alloc o).heap.size=u.heap.size+1:=λu o=>by show(u.heap.push _).size=_;simp
  simp only[hs]at h;exact h
 obtain⟨F,hCL⟩:∃C:World->Prop,C=λW=>W.cell? ⟨w.heap.size,0,none⟩=some (.slice sa ds.length sc)/\W.cell? ⟨w.heap.size,1,none⟩=some (.iface sT sx)/\W.cell? ⟨w.heap.size,2,none⟩=some (.slice ra ds'.length rc)/\W.cell? ⟨w.heap.size,3,none⟩=some (.iface rT rx)/\W.cell? ⟨w.heap.size+1,1,none⟩=some (U_ c)/\W.cell? ⟨w.heap.size+1+1,1,none⟩=some (U_ c):=⟨_,rfl⟩;have m:=zy (λW (d:Fr i W N_)=>show F W by
  rw[hCL]
  exact⟨(d.bl j id).cell 0,(d.bl j id).cell 1,(d.bl j id).cell 2,(d.bl j id).cell 3,(d.bl A id).cell 1,(d.bl B id).cell 1⟩)
 replace k:=zy k;replace hwz:=zy hwz;replace hCL:=zy hCL;go_in;go_wp2;rw[<- hwz.o];refine tR_ F ?_;refine tA_ 0 rfl K_ (λ_ _ _ h=>h) x4_ ?_;refine tA_ 1 rfl K_ (λ_ _ _ h=>h) x4_ ?_;refine tA_ 2 rfl K_ (λ_ _ _ h=>h) x4_ ?_;refine tA_ 3 rfl K_ (λ_ _ _ h=>h) x4_ ?_;refine tA_ 5 rfl K_ (λ_ _ _ h=>h) x4_ ?_;refine tA_ 6 rfl K_ (λ_ _ _ h=>h) x4_ ?_;refine tA_ 7 rfl K_ (λ_ _ _ h=>h) x4_ ?_;refine tA_ 8 rfl K_ (λ_ _ _ h=>h) x4_ ?_;refine zJ 4 rfl K_ (m.o _ (A_ i _).drew) (λl f=>?_);go_simp;apply(K.o _ k.o.drew).mono;rintro e w1 ⟨d,rfl,d,q⟩;rw[hx.o]at q;have r:=zy ((A_ i N_).drew.trans d u_);replace q:=zy q;refine f _ _ ?_;refine zJ 9 rfl K_ (m.o _ r) (λl f=>?_);go_simp;apply(L.o _ (k.o.trans r u_)).mono;rintro e d ⟨d,rfl,d,g⟩;rw[hy.o]at g;obtain⟨g,z⟩:=g;replace z:=zy z;have G:=zy (r.o.trans d u_);have J:=zy (q.o.fr d u_);replace g:=zy g;refine f _ _ ?_;refine zJ 10 rfl K_ (m.o _ G) (λl f=>?_);go_simp;apply(M.o _ _ _ J g).mono;rintro e d ⟨d,rfl,d,t⟩;have H:=zy (G.o.trans d u_);have N:=zy (J.o.fr d u_);have O:=zy (g.o.fr d u_);replace t:=zy t;refine f _ _ ?_;refine tY_ 11 ?_;refine yq K_ (m.o _ H) ?_ _;go_wp2;try go_ret
 rw[I.o];exact⟨_,_,_,rfl,k.o.trans H u_,N,O,z,t⟩
inductive MtV (w:Aw) (P Q:Az) (s s':BA) (ew er:Au) (Z:Ds):PT->PT->Value->Prop
 |never {x y:PT} (h:xi ew er x y=false):MtV w P Q s s' ew er Z x y (.iface 307 (.agg #[]))
 |same {c p:Nat} {y:PT} (hc:zi c=true) (h:xi ew er (.leaf c p) y=true):MtV w P Q s s' ew er Z (.leaf c p) y (.iface 275 (.agg #[]))
 |items {c p p':Nat} {t t':PT} {a b:Value} (hc:c=91\/c=123) (ha:TyV w P t a) (hb:TyV w Q t' b):MtV w P Q s s' ew er Z (.wrap c p t) (.wrap c p' t') (.iface 282 (.agg #[a,b]))
 |body {c p p':Nat} {X Y:PB} {a b v:Value} (hc:zY c=true) (hx:ew c=some X) (hy:er c=some Y) (ha:yV w P s X a) (hb:yV w Q s' Y b) (hz:Z Y b) (hm:MbV X Y a b v) (hs:vf X=vf Y):MtV w P Q s s' ew er Z (.leaf c p) (.leaf c p') v
def xM(h:zY c=true):zi c=false:=by
 have hc:65<=c/\c<=70:=y3_
 cases e:zi c with
 |false=>rfl
 |true=>
  simp only[zi,ay_,beq_iff_eq]at e;omega
def ek{d:Nat}(h:zY c=true)(e:zi d=true):(c==d)=false:=by
 have hc:65<=c/\c<=70:=y3_
 simp only[zi,ay_,beq_iff_eq]at e;rw[beq_eq_false_iff_ne];omega
def MbV.sort{X Y:PB}{b:Ax}(h:MbV X Y a b v):vf X=vf Y\/(vf X≠vf Y/\v=.iface 307 (.agg #[])):=by
 cases h with
 |flds=>exact .inl rfl
 |syms=>exact .inl rfl
 |same=>exact .inl rfl
 |never h=>exact .inr ⟨h,rfl⟩
def tA{w:Aw}{Q:Az}{ds ds':Ar}{sv sv':Ax}{xs xs':Ay}{sT rT:Av}{sx rx:Ax}{y:PT}{b:Ax}(D:yR w P s ds sv xs)(E:yR w Q s' ds' sv' xs')(ha:TyV w P x a)(hb:TyV w Q y b)(fx:vJ x)(fy:vJ y)(m:∀c p,x=.leaf c p->zY c=true->∃X,zx ds c=some X)(o:∀c p,y=.leaf c p->zY c=true->∃Y,zx ds' c=some Y):Calls prog 145 #[.agg #[sv,.iface sT sx,sv',.iface rT rx],a,b] w λe w'=>∃v,e=.returned v/\Fr w w' N_/\MtV w' P Q s s' (zx ds) (zx ds') (ZV ds' xs') x y v:=by
 obtain⟨sa,sc,g⟩:=zw D.row;obtain⟨ra,rc,f⟩:=zw E.row;have nev:∀(e:Ending) (w':World),xi (zx ds) (zx ds') x y=false->e=.returned (.iface 307 (.agg #[]))/\Fr w w' N_->∃v,e=.returned v/\Fr w w' N_/\MtV w' P Q s s' (zx ds) (zx ds') (ZV ds' xs') x y v:=
  λe w' hm h=>⟨_,h.1,h.2,.never hm⟩
 cases ha with
 |base c p h=>
  have fin:∀(e:Ending) (w':World),e=.returned (gG (y.kind==c||(c==105&&y.kind==108)))/\Fr w w' N_->∃v,e=.returned v/\Fr w w' N_/\MtV w' P Q s s' (zx ds) (zx ds') (ZV ds' xs') (.leaf c p) y v:=by
   rintro e w' ⟨h1,d⟩;rw[<- Jd (ew:=zx ds) (er:=zx ds') (p:=p) h fy]at h1;cases hm:xi (zx ds) (zx ds') (.leaf c p) y with
   |true=>rw[hm]at h1;exact⟨_,h1,d,.same h hm⟩
   |false=>rw[hm]at h1;exact⟨_,h1,d,.never hm⟩
  rw[g,f];simp only[zi,ay_,beq_iff_eq]at h;rcases h with(((rfl|rfl)|rfl)|rfl)|rfl
  .exact(Jl hb fy).mono (λe w' q=>fin e w' zb_)
  .exact(Jm hb fy).mono (λe w' q=>fin e w' zb_)
  .exact(Jr hb fy).mono (λe w' q=>fin e w' zb_)
  .exact(Jh hb fy).mono (λe w' q=>fin e w' zb_)
  .exact(Jc hb fy).mono (λe w' q=>fin e w' zb_)
 |name c p h=>
  have j:=xM h;cases hb with
  |base c' p' h'=>
   rw[g,f];exact(kw (je c').2.2.2.1).mono (λe w'=>nev e w' (by simp[xi,j,ek h h']))
  |name c' p' h'=>
   by_cases l:c=c'
   .subst l;obtain⟨X,hX⟩:=m c p rfl h;obtain⟨Y,i⟩:=o c p' rfl h;apply(cY D E hX i).mono;rintro e w' ⟨a,b,v,h1,d,r,t,hz,k⟩;rcases k.sort with hs|⟨hs,rfl⟩
    .exact⟨v,h1,d,.body h hX i r t hz k hs⟩
    .exact⟨_,h1,d,.never (by simp[xi,j,hX,i,hs])⟩
   .rw[g,f];exact(uG M_).mono (λe w'=>nev e w' (by simp[xi,j,l]))
  |wrap c' p' h'=>
   rw[g,f];rcases fy with rfl|rfl
   .exact(kw D_).mono (λe w'=>nev e w' rfl)
   .exact(kw D_).mono (λe w'=>nev e w' rfl)
  |alts p' X ho hP h'=>exact fy.elim
 |wrap c p h=>
  have i:c=91\/c=123:=fx;obtain⟨uT,ux,rfl⟩:=h.iface;rw[g,f];cases hb with
  |base c' p' h'=>
   rcases i with rfl|rfl
   .exact(gq (je c').1).mono (λe w'=>nev e w' rfl)
   .exact(ww (je c').2.1).mono (λe w'=>nev e w' rfl)
  |name c' p' h'=>
   rcases i with rfl|rfl
   .exact(gq D_).mono (λe w'=>nev e w' rfl)
   .exact(ww D_).mono (λe w'=>nev e w' rfl)
  |wrap c' p' h'=>
   obtain⟨vT,vx,rfl⟩:=h'.iface;have j:c'=91\/c'=123:=fy;rcases i with rfl|rfl<;>rcases j with rfl|rfl
   .exact ie.mono (λe w' q=>⟨_,q.1,q.2,.items (.inl rfl) (h.fr q.2 u_) (h'.fr q.2 u_)⟩)
   .exact(gq D_).mono (λe w'=>nev e w' rfl)
   .exact(ww D_).mono (λe w'=>nev e w' rfl)
   .exact dR.mono (λe w' q=>⟨_,q.1,q.2,.items (.inr rfl) (h.fr q.2 u_) (h'.fr q.2 u_)⟩)
  |alts p' X ho hP h'=>exact fy.elim
 |alts p X ho hP h=>exact fx.elim
section
variable {w:Aw} {p:Nat} {sa ra:Am} {sn sc rn rc:Nat} {sT rT aT bT:Av} {sx rx ax bx:Ax}
def Wk{d:Am}{g f:Nat}:Calls prog 86 #[.agg #[.slice sa sn sc,.iface sT sx,.slice ra rn rc,.iface rT rx],.iface 226 (.agg #[I_ p,.slice d g f]),.iface bT bx] w λe w'=>e=.returned (.iface 277 (.agg #[.slice d g f,.iface bT bx]))/\Fr w w' N_:=by
 obtain⟨i,h⟩:=y_ (λ(e:Ending) (w':World)=>e=.returned (.iface 277 (.agg #[.slice d g f,.iface bT bx]))/\Fr w w' N_);rw[<- h.o];have A:=zy (λo d=>((A_ w N_).alloc o).alloc d);go_in;go_wp2;try go_ret
 rw[h.o];exact⟨rfl,A.o _ _⟩
def cq23_{p:Prop}(h:p:=by
 refine hq_ λj f=>?_;have A:=zy (λo g i=>(((A_ w N_).alloc o).alloc g).alloc i);replace h:=zy h;have k:=vQ aT ha;(first|(have:=cc1)|(have l:=vQ bT hb));go_in;go_wp2_with ((first|go_at_call 145|go_at_call 144);apply(h.o _ (A.o _ _ _)).mono;rintro e w1 ⟨v,rfl,d⟩;replace d:=zy d);try go_ret
 rw[f.o];exact d.o):p:=h
def Ju{R:Bt}(ha:aT≠226)(hb:bT≠226)(h:∀W,Fr w W N_->Calls prog 145 #[.agg #[.slice sa sn sc,.iface sT sx,.slice ra rn rc,.iface rT rx],.iface aT ax,.iface bT bx] W (λe w'=>∃v,e=.returned v/\R (.returned v) w')):Calls prog 86 #[.agg #[.slice sa sn sc,.iface sT sx,.slice ra rn rc,.iface rT rx],.iface aT ax,.iface bT bx] w R:=by
 exact cq23_
end
def pI{r:PT}:∀(l:List PT) (i:Nat) (k:Option Nat),xZ ew er x (l++[r]) i k=(if (xi ew er x r&&((xZ ew er x l i k).isNone||r.kind==105))=true then some (i+l.length) else xZ ew er x l i k)
 | [],i,k=>by simp[xZ]
 |a::l,i,k=>by
  show xZ ew er x (l++[r]) (i+1) _=_;rw[pI l];have:i+1+l.length=i+(a::l).length:=by simp only[au_];omega
  rw[this];rfl
def ZG{r:PT}{rs:Af}{q:Nat}(h:rs[q]?=some r):xZ ew er x (rs.take (q+1)) 0 none=(if (xi ew er x r&&((xZ ew er x (rs.take q) 0 none).isNone||r.kind==105))=true then some q else xZ ew er x (rs.take q) 0 none):=by
 have d:q<rs.length:=by
  rcases Nat.lt_or_ge q rs.length with d|d
  .exact d
  .rw[bm_ d]at h;exact absurd h x6_
 have e:rs.take (q+1)=rs.take q++[r]:=by rw[a8_,h];rfl
 have l:(rs.take q).length=q:=by rw[b9_];omega
 rw[e,pI,l,be_]
def MtV.fr{w w':Aw}{Q S:Az}{y:PT}(h:MtV w P Q s s' ew er Z x y v)(hf:Fr w w' S)(hP:∀g,P g->¬S g)(d:∀g,Q g->¬S g):MtV w' P Q s s' ew er Z x y v:=by
 cases h with
 |never h=>exact .never h
 |same hc h=>exact .same hc h
 |items hc ha hb=>exact .items hc (ha.fr hf hP) (hb.fr hf d)
 |body hc hx hy ha hb hz hm hs=>exact .body hc hx hy (ha.fr hf hP) (hb.fr hf d) hz hm hs
def MtV.kind{w:Aw}{Q:Az}{y:PT}(h:MtV w P Q s s' ew er Z x y v):(xi ew er x y=false/\v=.iface 307 (.agg #[]))\/(xi ew er x y=true/\∃T u,v=.iface T u/\T≠307/\T≠280):=by
 cases h with
 |never h=>exact .inl ⟨h,rfl⟩
 |same hc h=>exact .inr ⟨h,_,_,rfl,D_,D_⟩
 |items hc ha hb=>exact .inr ⟨by simp[xi],_,_,rfl,D_,D_⟩
 |body hc hx hy ha hb hz hm hs=>
  refine .inr ⟨by simp[xi,xM hc,hx,hy,hs],?_⟩;cases hm with
  |flds=>exact⟨_,_,rfl,D_,D_⟩
  |syms=>exact⟨_,_,rfl,D_,D_⟩
  |same=>exact⟨_,_,rfl,D_,D_⟩
  |never h=>exact absurd hs h
def BrV(w:Aw)(P Q:Az)(s s':BA)(ew er:Au)(Z:Ds)(x:PT)(rs:Af)(k:Option Nat)(v:Ax):Prop:=
 match k with
 |none=>v=.iface 307 (.agg #[])
 |some i=>∃r T u,rs[i]?=some r/\v=.iface 280 (.agg #[I_ i,.iface T u])/\xi ew er x r=true/\MtV w P Q s s' ew er Z x r (.iface T u)
def BrV.fr{w w':Aw}{Q S:Az}{rs:Af}{k:Option Nat}(h:BrV w P Q s s' ew er Z x rs k v)(hf:Fr w w' S)(hP:∀g,P g->¬S g)(j:∀g,Q g->¬S g):BrV w' P Q s s' ew er Z x rs k v:=by
 cases k with
 |none=>exact h
 |some i=>
  obtain⟨r,T,u,h1,d,e,f⟩:=h;exact⟨r,T,u,h1,d,e,f.fr hf hP j⟩
end Go.Proofs.YtokgeopihcopeaaGreatDoor
