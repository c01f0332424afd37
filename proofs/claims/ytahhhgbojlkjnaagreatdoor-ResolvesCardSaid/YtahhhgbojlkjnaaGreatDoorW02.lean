import Derived.Test.YtahhhgbojlkjnaaGreatDoorW01
import Derived.Deep.DeepCutAuto
set_option maxHeartbeats 16000000
set_option maxRecDepth 100000
set_option linter.defProp false
set_option linter.unusedSimpArgs false
open Go.Proofs.Tryz
namespace Go.Proofs.YtahhhgbojlkjnaaGreatDoor
open Go.RowKit
variable {i p l t b:Nat}{mx wr num MX0 wg5:Int}{ts TS0:Aq}{us US0:Av}{ds:Am}{u3 v5:Ax}{R_:Except Nat (List PF×Nat)}{ty:PT}{kb:BA}
def aq(c:Nat):decide (0<=plc ⟨#[40,91,123,60]⟩ c)=ku c:=by
 rw[Bool.eq_iff_iff];simp only[decide_eq_true_eq,wX,ku,av_,beq_iff_eq];simp;omega
def tK(c:Nat):decide (0<=plc ⟨#[41,93,125,62]⟩ c)=jR c:=by
 rw[Bool.eq_iff_iff];simp only[decide_eq_true_eq,wX,jR,av_,beq_iff_eq];simp;omega
def lX{c:Nat}(h:ku c=true)(a:jR c=true):False:=by
 simp only[ku,jR,av_,beq_iff_eq]at h a;omega
def pG(w:Aw)(X:Au)(br bz B:Nat)(s:BA)(i:Nat)(wr mx:Int)(ts:Aq)(us:Av)(zs:Az)(tv u:Ax)(e:Ah)(w':Aw):Prop:=
 zI w w' br bz tv u tv u/\
 match pD s i 0 with
 |some k=>e=.returned (.string (s.extract i k))/\Rep w' X br bz B s k false wr mx ts us zs tv u
 |none=>e=.returned (.string ⟨#[]⟩)/\Rep w' X br bz B s s.size true wr mx ts us zs tv u
def uI(w:Aw)(X:Au)(br bz B:Nat)(s:BA)(i:Nat)(wr mx:Int)(ts:Aq)(us:Av)(zs:Az)(tv u:Ax)(n:Nat)(ov:Ax)(W:Aw):Prop:=
 ∃k o:Nat,ov=I_ o/\pD s i 0=pD s k o/\i<=k/\o<=k/\Rep W X br bz B s k false wr mx ts us zs tv u/\zI w W br bz tv u tv u/\s.size-k<=n
def cwol1_{p:Prop}(h:p:=by
 (first|(have:=cc1;have hop:(0:Int)<(o:Int):=M_)|(have n0:((o:Int)==0)=true:=x4_))
 (first|(have:=cc1;have hoN:H_ (0<o):=by show 0<o;omega)|(have hop:(o:Int)<=0:=M_));(first|(have:=cc1;have n0:((o:Int)==0)=false:=x4_)|(replace ho0:H_ _:=ho0));(first|(have:=cc1;have hob:(o:Int)<=300:=M_)|((have n1:((c:Int)==44)=false:=by have:=hns.o;have:=ho0.o;simp;omega);have n2:((c:Int)==41)=false:=by have:=hns.o;have:=ho0.o;simp;omega))
 cases ho:ku c<;>cases hcl:jR c
 case true.true=>exact(lX ho hcl).elim
 all_goals
  go_wp2;go_quiet (fail);go_wp2;go_quiet (fail);go_wp2_with (go_at_call 101;apply(fQ _ c _ D_).mono;rintro e w' ⟨rfl,rfl⟩;first|rw[aq]|rw[tK]);go_roundg (s.size-(k+1));case measure=>omega
  case rel=>first|exact hUp.o ho _ x2_|(first|(have:=cc1;exact hDown.o ho hcl hoN.o _ x2_)|(exact hSame.o ho (.inl hcl) _ x2_))|(first|(have:=cc1;exact hSame.o ho (.inl hcl) _ x2_)|(exact hSame.o ho (.inr ho0.o) _ x2_))):p:=h
def ol{w:Aw}{X:Au}{br bz B:Nat}{s:BA}{wg:Int}{zs:Az}{tv u:Ax}(R:Rep w X br bz B s i false wg mx ts us zs tv u):Calls prog 102 #[P_ br] w (pG w X br bz B s i wg mx ts us zs tv u):=by
 have E:=R.sl;have c1:=R.here.c1;have x:uI w X br bz B s i wg mx ts us zs tv u (s.size-i) (O_) w:=⟨i,0,rfl,rfl,l_,aj_ _,R,zI.refl _ _ _ _ _,l_⟩;replace x:H_ _:=x;obtain⟨E,y⟩:=y_ (pG w X br bz B s i wg mx ts us zs tv u);rw[<- y.o];go_in;go_wp2;go_loopg [4] (s.size-i) (λn E W=>uI w X br bz B s i wg mx ts us zs tv u n E W);case atStart=>exact x
 case round=>
  obtain⟨k,o,rfl,v,x,x,a,A,hn⟩:=hrel;have x:=a.il;have c0:=a.here.c0;have c1:=a.here.c1;replace v:H_ _:=v;by_cases hk:k<s.size
  .have D:(k:Int)<(s.size:Int):=M_;obtain⟨c,hc⟩:=x_ (bt s k);have x:((s[k]'hk).toNat:Int)=(c:Int):=by rw[<- hc,vS s k hk]
   have d:=Yv o hk;rw[hc,<- v.o]at d;replace hc:H_ _:=hc;have x:=a.here.th 1;by_cases r:o=0/\(c=44\/c=41)
   .rw[i_ r]at d;replace d:H_ (pD s i 0=some k):=d;have key:H_ (∀W,zw wr W->pG w X br bz B s i wg mx ts us zs tv u (.returned (.string (s.extract i k))) W):=by
     intro W m;refine⟨A.si m,?_⟩;rw[d.o];exact⟨rfl,a.si m⟩
    obtain⟨rfl,f⟩:=r;rcases f with rfl|rfl;all_goals
     go_wp2;go_quiet (fail);go_wp2;go_quiet (fail);go_wp2;go_quiet (fail);go_wp2;try go_ret
     rw[y.o];exact key.o _ x2_
   .rw[n_ r]at d;replace d:H_ _:=d;have z:H_ (∀(x:Nat) (W:World),x=qn c o->zw wr W->uI w X br bz B s i wg mx ts us zs tv u (s.size-(k+1)) (Z_ (x:Int)) (W.setCell ⟨br,1,none⟩ (Z_ ((k:Int)+1)))):=by
     intro x W C f;have g:=a.si f;exact⟨k+1,x,rfl,by rw[C];exact d,M_,by rw[C];unfold qn;split<;>(try split)<;>omega,(g.inc hk).1,(A.si f).trans (g.inc hk).2,l_⟩
    have hUp:H_ (ku c=true->∀W,zw wr W->uI w X br bz B s i wg mx ts us zs tv u (s.size-(k+1)) (Z_ ((o:Int)+1)) (W.setCell ⟨br,1,none⟩ (Z_ ((k:Int)+1)))):=λh W f=>z.o (o+1) W (by simp[qn,h]) f;have hDown:H_ (ku c=false->jR c=true->0<o->∀W,zw wr W->uI w X br bz B s i wg mx ts us zs tv u (s.size-(k+1)) (Z_ ((o:Int)-1)) (W.setCell ⟨br,1,none⟩ (Z_ ((k:Int)+1)))):=λh d x W f=>by
     have q:=z.o (o-1) W (by simp[qn,h,d]) f;rw[show((o-1:Nat):Int)=(o:Int)-1 by omega]at q;exact q
    have hSame:H_ (ku c=false->(jR c=false\/o=0)->∀W,zw wr W->uI w X br bz B s i wg mx ts us zs tv u (s.size-(k+1)) (Z_ (o:Int)) (W.setCell ⟨br,1,none⟩ (Z_ ((k:Int)+1)))):=λh d W f=>z.o o W (by rcases d with d|d<;>simp[qn,h,d]) f;have hns:H_ (¬(o=0/\(c=44\/c=41))):=r;by_cases ho0:o=0
    .exact cwol1_
    .have cc1:=Nat;exact cwol1_
  .have D:¬(k:Int)<(s.size:Int):=M_;have f:=a.here.th 2;have c2:=a.here.c2;go_wp2;go_quiet (fail);go_wp2;try go_ret
   rw[y.o];have m:=zw.drewN wr nq;have d:k=s.size:=M_;have g:=a.si m;refine⟨(A.si m).trans g.sp.2,?_⟩;rw[v.o,Jo M_];exact⟨rfl,by rw[<- d];exact g.sp.1⟩
def uy(w:Aw)(X:Au)(br bz B:Nat)(s:BA)(i:Nat)(wr mx:Int)(ts:Aq)(us:Av)(zs:Az)(tv u:Ax)(w':Aw):Prop:=
 (if zt (bt s i)=true then Rep w' X br bz B s (i+1) false wr mx ts us zs tv u else Rep w' X br bz B s i true wr mx ts us zs tv u)/\zI w w' br bz tv u tv u
def jb{w:Aw}{X:Au}{br bz B:Nat}{s:BA}{zs:Az}{tv u:Ax}(R:Rep w X br bz B s i false wr mx ts us zs tv u):Calls prog 100 #[P_ br] w λe w'=>e=.returned (.int .u8 ((if zt (bt s i)=true then bt s i else 0:Nat):Int))/\uy w X br bz B s i wr mx ts us zs tv u w':=by
 have h1:=R.il;have d:=R.sl;apply(YT R.here R.sl y5_).mono;rintro e w' ⟨rfl,ha,c⟩;unfold uy;unfold RV.small at ha;unfold RV.smallR;simp only[iO]at ha⊢;by_cases hb:zt (bt s i)=true
 .have a:97<=(bt s i:Int)/\(bt s i:Int)<=122:=yl_
  rw[i_ a]at ha⊢;rw[i_ hb,i_ hb];exact⟨rfl,R.move c ha M_ (zr (xo hb))⟩
 .have a:¬(97<=(bt s i:Int)/\(bt s i:Int)<=122):=yl_
  rw[n_ a]at ha⊢;rw[n_ hb,n_ hb];exact⟨rfl,R.move c ha M_ h1⟩
def zC(a:Int)(m:Int):Int:=if m<0\/a<m then a else m
def QF(w:Aw)(X:Au)(br bz B:Nat)(s:BA)(i:Nat)(bad:Ap)(wr mx:Int)(ts:Aq)(us:Av)(zs:Az)(tv u:Ax)(p:Int)(w':Aw):Prop:=
 Rep w' X br bz B s i bad (zC p wr) mx ts us zs tv u/\zI w w' br bz tv u tv u
def qK{w:Aw}{X:Au}{br bz B:Nat}{s:BA}{bad:Ap}{zs:Az}{tv u:Ax}{p:Int}(R:Rep w X br bz B s i bad wr mx ts us zs tv u):Calls prog 24 #[P_ br,Z_ p] w λe w'=>e=.returned (.tuple #[])/\QF w X br bz B s i bad wr mx ts us zs tv u p w':=by
 apply(YK R.here).mono;rintro e w' ⟨rfl,ha,a⟩;refine⟨rfl,?_⟩;refine R.move a ?_ l_ R.il;unfold RV.wrong at ha;unfold zC;simp only at ha;split at ha
 .rename_i h;rw[i_ h];exact ha
 .rename_i h;rw[n_ h];exact ha
def eg{w:Aw}{X:Au}{br bz B:Nat}{s:BA}{zs:Az}{tv u:Ax}(R:Rep w X br bz B s i true wr mx ts us zs tv u):Calls prog 40 #[P_ br] w λe w'=>e=.returned (.int .u8 0)/\zw w w':=by
 have h1:=R.il;have a:=R.sl;apply(gn R.here R.sl y5_).mono;rintro e w' ⟨rfl,a⟩;exact⟨by simp[pk],a⟩
def sS(s:BA)(f:PF)(num:Nat):List Value:=
 [U_ f.letter,I_ num,.bool f.dflt.isSome,Z_ ((f.dflt.map Prod.fst).getD 0:Nat),.string (match f.dflt with|none=>⟨#[]⟩|some (a,b)=>s.extract a b),
  .int .u8 0,O_,.string ⟨#[]⟩,L_,L_]
def yR(s:BA)(b:Nat)(ds:Am):List Value:=(List.zipWith (sS s) ds (qk b (ds.map PF.ty))).flatten
def rI(s:BA)(b:Nat)(ds:Am)(f:PF):yR s b (ds++[f])=yR s b ds++sS s f (b+(zA b (ds.map PF.ty)).length+(flat (b+(zA b (ds.map PF.ty)).length) f.ty).length-1):=by
 unfold yR;rw[bh_];simp only[aw_,a5_];rw[dA,List.zipWith_append (by rw[ma,bm_]),List.flatten_append];simp
def wrF(seen:Ai):List PF->Int->Int
 | [],m=>m
 |f::r,m=>wrF (seen++[f.letter]) r (if f.letter∈seen then zC f.place m else m)
def VW(a:Ai)(ds:Am)(f:PF)(m:Int):wrF a (ds++[f]) m=if f.letter∈a++ds.map PF.letter then zC f.place (wrF a ds m) else wrF a ds m:=by
 induction ds generalizing a m with
 |nil=>simp[wrF]
 |cons d r ih=>simp[wrF,ih]
def kN(ds:Am)(m:Int):Int:=ds.foldl (λm f=>mix f.ty m) m
def XY(ds:Am)(f:PF)(m:Int):kN (ds++[f]) m=mix f.ty (kN ds m):=by simp[kN]
def mP(s:BA)(ds:Am)(j:Nat):Except Nat (List PF×Nat):=
 if bt s j=41 then .ok (ds,j+1) else if bt s j=44 then vF ds (xe s (j+1)) else .error j
def fT(s:BA)(ds:Am)(i:Nat)(a:i<=s.size):vF ds (xe s i) =
 match zS s i with
 | .error k=>.error k
 | .ok (f,j)=>mP s (ds++[f]) j:=by
 rw[bq s i a];cases zS s i with
 |error k=>rfl
 |ok r=>
  obtain⟨f,j⟩:=r;simp only[mP];split
  .rfl
  .split
   .rw[fN]
   .rfl
def zy{p:Prop}(h:p):H_ p:=h
def zO:List Value:=[.int .u8 0,L_,.string ⟨#[]⟩,O_,O_]
def jB(fv:Ax):List Value:=[.int .u8 114,fv,.string ⟨#[]⟩,Z_ (-1),O_]
def RX(w:Aw)(X:Au)(fv:Ax)(Y:Au):Nat->Prop:=λg=>X g\/g=w.heap.size\/g=w.heap.size+1\/fv.ownBlock=some g\/Y g
structure RM(w:Aw)(X:Au)(br bz B:Nat)(s:BA)(j:Nat)(bad:Ap)(wg MX:Int)(TS:Aq)(US:Av)(zs:Az)(tv u tv2 u2 fv:Ax)(n:Nat)(xs:Az)(Y:Au)(W:Aw):Prop where
 R:Rep W (RX w X fv Y) br bz B s j bad wg MX TS US zs tv2 u2
 b2:Blk W w.heap.size zO 39
 b3:Blk W (w.heap.size+1) (jB fv) 39
 own:W.ownsRow B 60 10 fv n xs
 sn:∀g,fv.ownBlock=some g->w.heap.size+2<=g
 yn:∀g,Y g->w.heap.size+2<=g/\fv.ownBlock≠some g
 st:zI w W br bz tv u tv2 u2
section
variable {w W W':Aw} {X Y:Au} {br bz B:Nat} {s:BA} {j:Nat} {bad:Ap} {wg MX:Int} {TS:Aq} {US:Av} {zs:Az} {tv u tv2 u2 fv:Ax} {n:Nat} {xs:Az}
def RM.call(M:RM w X br bz B s j bad wg MX TS US zs tv u tv2 u2 fv n xs Y W){j':Nat}{f:Ap}{g c:Int}{d:Aq}{e:Av}{a:Ax}(h:Rep W' (RX w X fv Y) br bz B s j' f g c d e zs a u3)(st:zI W W' br bz tv2 u2 a u3):RM w X br bz B s j' f g c d e zs tv u a u3 fv n xs Y W':=
 ⟨h,st.fr.bl M.b2 (M.R.offS (.inr (.inl rfl))),st.fr.bl M.b3 (M.R.offS (.inr (.inr (.inl rfl)))),zk M.own st.fr (λ_ hg=>M.R.offS (.inr (.inr (.inr (.inl hg))))),M.sn,M.yn,M.st.trans st⟩
def RM.ke(M:RM w X br bz B s j bad wg MX TS US zs tv u tv2 u2 fv n xs Y W){a:Ax}(st:zI W W' br bz tv2 u2 a u3){g:Nat}{cs:Az}(hg:Y g)(hb:Blk W g cs t):Blk W' g cs t:=
 st.fr.bl hb (M.R.offS (.inr (.inr (.inr (.inr hg)))))
def RM.si(M:RM w X br bz B s j bad wg MX TS US zs tv u tv2 u2 fv n xs Y W)(h:zw W W'):RM w X br bz B s j bad wg MX TS US zs tv u tv2 u2 fv n xs Y W':=M.call (M.R.si h) (zI.oS h)
def RM.inc(M:RM w X br bz B s j bad wg MX TS US zs tv u tv2 u2 fv n xs Y W)(h:j<s.size):RM w X br bz B s (j+1) bad wg MX TS US zs tv u tv2 u2 fv n xs Y (W.setCell ⟨br,1,none⟩ (Z_ ((j:Int)+1))):=M.call (M.R.inc h).1 (M.R.inc h).2
def RM.o(M:RM w X br bz B s j bad wg MX TS US zs tv u tv2 u2 fv n xs Y W)(a:Fr W W' Y):RM w X br bz B s j bad wg MX TS US zs tv u tv2 u2 fv n xs (λg=>Y g\/(W.heap.size<=g/\g<W'.heap.size)) W':=by
 have c:=M.b3.lt;have hX:Fr W W' (RX w X fv Y):=a.mono (λ_ _ h=>.inr (.inr (.inr (.inr h))));refine⟨(M.R.o hX).fe (λg hg=>?_),a.bl M.b2 (λh=>by have:=M.yn _ h;omega),a.bl M.b3 (λh=>by have:=M.yn _ h;omega),zk M.own a (λg hg h=>(M.yn g h).2 hg),M.sn,λg hg=>?_,M.st.o a (λg hg=>by have:=M.yn g hg;omega)⟩
 .rcases hg with h|h|h|h|h|h
  .exact .inl (.inl h)
  .exact .inl (.inr (.inl h))
  .exact .inl (.inr (.inr (.inl h)))
  .exact .inl (.inr (.inr (.inr (.inl h))))
  .exact .inl (.inr (.inr (.inr (.inr h))))
  .exact .inr h
 .rcases hg with h|h
  .exact M.yn g h
  .exact⟨M_,λe=>by have:=M.own.lt g e;omega⟩
def RM.ls(M:RM w X br bz B s j bad wg MX TS US zs tv u tv2 u2 fv n xs Y W){Z:Au}(a:∀g,Z g->Y g):RM w X br bz B s j bad wg MX TS US zs tv u tv2 u2 fv n xs Z W:=
 ⟨M.R.fe (λg hg=>by
  rcases hg with h|h|h|h|h
  .exact .inl h
  .exact .inr (.inl h)
  .exact .inr (.inr (.inl h))
  .exact .inr (.inr (.inr (.inl h)))
  .exact .inr (.inr (.inr (.inr (a g h))))),M.b2,M.b3,M.own,M.sn,λg hg=>M.yn g (a g hg),M.st⟩
def RM.alloc(M:RM w X br bz B s j bad wg MX TS US zs tv u tv2 u2 fv n xs Y W)(o:Cj):RM w X br bz B s j bad wg MX TS US zs tv u tv2 u2 fv n xs Y (W.alloc o):=(M.o ((A_ W Y).alloc o)).ls (λ_ h=>.inl h)
def RM.mine(M:RM w X br bz B s j bad wg MX TS US zs tv u tv2 u2 fv n xs N_ W)(o:Cj):RM w X br bz B s j bad wg MX TS US zs tv u tv2 u2 fv n xs (λg=>g=W.heap.size) (W.alloc o):=
 (M.o ((A_ W _).alloc o)).ls (λg h=>.inr ⟨M_,by simp;omega⟩)
def RM.put(M:RM w X br bz B s j bad wg MX TS US zs tv u tv2 u2 fv n xs Y W)(g o:Nat)(v:Ax)(hg:Y g):RM w X br bz B s j bad wg MX TS US zs tv u tv2 u2 fv n xs Y (W.setCell ⟨g,o,none⟩ v):=
 (M.o ((A_ W Y).setCell ⟨g,o,none⟩ v (λ_=>hg))).ls (λ_ h=>.inl h)
def RM.grow(M:RM w X br bz B s j bad wg MX TS US zs tv u tv2 u2 fv n xs Y W){b:Cj}{w5:Aw}{ys:Az}(hg:(W.alloc b).grownBy w5 fv.ownBlock)(ho:w5.ownsRow B 60 10 v5 (n+1) ys)(hl:v5.ownBlock=fv.ownBlock\/v5.ownBlock=some (W.alloc b).heap.size):RM w X br bz B s j bad wg MX TS US zs tv u tv2 u2 v5 (n+1) ys N_ (w5.setCell ⟨w.heap.size+1,1,none⟩ v5):=by
 have c:Fr W w5 (λg=>fv.ownBlock=some g):=T_ ((A_ W _).alloc b) hg (λk e _=>e);have a:=M.b3.lt;have f:∀g,v5.ownBlock=some g->w.heap.size+2<=g/\(fv.ownBlock=some g\/W.heap.size<=g):=λg a=>by
  rcases hl with e|e
  .exact⟨M.sn g (e▸a),.inl (e▸a)⟩
  .rw[e]at a;simp only[ae_]at a;have:(W.alloc b).heap.size=W.heap.size+1:=x8_
   exact⟨M_,.inr M_⟩
 have h:=c.bl M.b2 (λe=>by have:=M.sn _ e;omega);have r:=c.bl M.b3 (λe=>by have:=M.sn _ e;omega);have d:Fr w5 (w5.setCell ⟨w.heap.size+1,1,none⟩ v5) (λg=>g=w.heap.size+1):=(A_ w5 (λg=>g=w.heap.size+1)).setCell ⟨w.heap.size+1,1,none⟩ v5 (λ_=>rfl);have m:=d.bl h M_;have v:Blk (w5.setCell ⟨w.heap.size+1,1,none⟩ v5) (w.heap.size+1) (jB v5) 39:=r.set 1 v5;have h:=zk ho d (λg a e=>by have:=f g a;omega);have r:Fr W (w5.setCell ⟨w.heap.size+1,1,none⟩ v5) (RX w X fv Y):=(c.mono (λ_ _ e=>.inr (.inr (.inr (.inl e))))).trans d (λ_ _ e=>.inr (.inr (.inl e)));have x:Fr W (w5.setCell ⟨w.heap.size+1,1,none⟩ v5) (λg=>fv.ownBlock=some g\/g=w.heap.size+1):=(c.mono (λ_ _ e=>.inl e)).trans d (λ_ _ e=>.inr e);refine⟨(M.R.o r).fe (λg a=>?_),m,v,h,λg a=>(f g a).1,λg a=>a.elim,M.st.o x (λg a=>?_)⟩
 .rcases a with e|e|e|e|e
  .exact .inl (.inl e)
  .exact .inl (.inr (.inl e))
  .exact .inl (.inr (.inr (.inl e)))
  .rcases(f g e).2 with q|q
   .exact .inl (.inr (.inr (.inr (.inl q))))
   .exact .inr ⟨q,(h.lt g e).2⟩
  .exact e.elim
 .rcases a with e|e
  .have:=M.sn g e;omega
  .omega
def RM.gw(M:RM w X br bz B s j bad wg MX TS US zs tv u tv2 u2 fv n xs Y W){b:Cj}{w5:Aw}(hg:(W.alloc b).grownBy w5 fv.ownBlock):w5.cell? ⟨w.heap.size+1,1,none⟩=some fv/\w5.frozen? ⟨w.heap.size+1,1,none⟩=false:=by
 have c:Fr W w5 (λg=>fv.ownBlock=some g):=T_ ((A_ W _).alloc b) hg (λk e _=>e);have a:=c.bl M.b3 (λe=>by have:=M.sn _ e;omega);exact⟨a.cell 1,a.th 1⟩
end
def Fc(l num:Int)(h:Ap)(a:Int)(t:BA):List Value:=
 [.int .u8 l,Z_ num,.bool h,Z_ a,.string t,.int .u8 0,O_,.string ⟨#[]⟩,L_,L_]
def uy.any{w:Aw}{X:Au}{br bz B:Nat}{s:BA}{zs:Az}{tv u:Ax}{w':Aw}(h:uy w X br bz B s i wr mx ts us zs tv u w'):∃j bad,Rep w' X br bz B s j bad wr mx ts us zs tv u/\zI w w' br bz tv u tv u/\H_ ((zt (bt s i)=true/\j=i+1/\bad=false)\/(zt (bt s i)=false/\j=i/\bad=true)):=by
 obtain⟨h1,a⟩:=h;cases hs:zt (bt s i) with
 |true=>rw[i_ hs]at h1;exact⟨_,_,h1,a,.inl ⟨rfl,rfl,rfl⟩⟩
 |false=>rw[n_ (by rw[hs];decide)]at h1;exact⟨_,_,h1,a,.inr ⟨rfl,rfl,rfl⟩⟩
def Ka{w:Aw}{X:Au}{br bz B:Nat}{s:BA}{bad:Ap}{zs:Az}{tv u:Ax}(R:Rep w X br bz B s i bad wr mx ts us zs tv u):Calls prog 40 #[P_ br] w λe w'=>e=.returned (.int .u8 (pk s i bad))/\zw w w':=by
 have h1:=R.il;have a:=R.sl;exact gn R.here R.sl y5_
def VZ(s:BA)(p j:Nat)(bad:Ap):Prop:=
 (bad=true/\zS s p=.error j)\/(bad=false/\zt (bt s p)=true/\bt s (p+1)=58/\j=p+2)
def QC(s:BA)(p:Nat)(MX0:Int)(TS0:Aq)(US0:Av)(j:Nat)(bad:Ap)(MX:Int)(TS:Aq)(US:Av)(num:Int):Prop:=
 (bad=true/\zS s p=.error j)\/
 (bad=false/\zt (bt s p)=true/\bt s (p+1)=58/\∃ty,pT s (p+2)=.ok (ty,j)/\MX=mix ty MX0/\TS=TS0++flat TS0.length ty/\US=US0++zK ty/\num=((TS0.length+(flat TS0.length ty).length-1:Nat):Int))
def Vo(s:BA)(p:Nat)(MX0:Int)(TS0:Aq)(US0:Av)(l:Nat)(j:Nat)(bad:Ap)(MX:Int)(TS:Aq)(US:Av)(num:Int)(h:Ap)(a:Int)(t:BA):Prop:=
 (bad=true/\zS s p=.error j)\/
 (bad=false/\∃f,zS s p=.ok (f,j)/\f.letter=bt s p/\f.place=p/\l=bt s p/\MX=mix f.ty MX0/\TS=TS0++flat TS0.length f.ty/\US=US0++zK f.ty/\Fc (bt s p) num h a t=sS s f (TS0.length+(flat TS0.length f.ty).length-1))
def JY{s:BA}{j:Nat}{bad:Ap}(h:(zt (bt s p)=true/\j=p+1/\bad=false)\/(zt (bt s p)=false/\j=p/\bad=true))(hb:bad=true):VZ s p j true:=by
 rcases h with⟨_,_,h⟩|⟨h1,rfl,_⟩
 .rw[hb]at h;cases h
 .exact .inl ⟨rfl,by unfold zS;rw[n_ (by rw[h1];decide)]⟩
def Xm{s:BA}{j:Nat}{bad:Ap}(h:(zt (bt s p)=true/\j=p+1/\bad=false)\/(zt (bt s p)=false/\j=p/\bad=true))(hb:bad=false):(bt s j=58->VZ s p (j+1) false)/\(bt s j≠58->VZ s p j true):=by
 rcases h with⟨h1,rfl,_⟩|⟨_,_,h⟩
 .exact⟨λa=>.inr ⟨rfl,h1,a,rfl⟩,λa=>.inl ⟨rfl,by unfold zS;rw[i_ h1,n_ a]⟩⟩
 .rw[hb]at h;cases h
def JZ{s:BA}{j:Nat}{MX:Int}{TS:Aq}{US:Av}(h:VZ s p j true):QC s p MX0 TS0 US0 j true MX TS US num:=by
 rcases h with h|⟨h,_⟩
 .exact .inl h
 .cases h
def Xu{s:BA}{j:Nat}(h:VZ s p j false):j=p+2/\zt (bt s p)=true/\bt s (p+1)=58:=by
 rcases h with⟨h,_⟩|⟨_,h1,a,c⟩
 .cases h
 .exact⟨c,h1,a⟩
def oV{s:BA}{k:Nat}(h1:zt (bt s p)=true)(a:bt s (p+1)=58)(h:pT s (p+2)=.error k):zS s p=.error k:=by
 unfold zS;rw[i_ h1,i_ a,h]
def sp{s:BA}{j:Nat}(h1:zt (bt s p)=true)(a:bt s (p+1)=58)(h:pT s (p+2)=.ok (ty,j))(c:bt s j≠61):zS s p=.ok (⟨bt s p,p,ty,none⟩,j):=by
 unfold zS;rw[i_ h1,i_ a,h];simp only;rw[n_ c]
def eY{s:BA}{j e:Nat}(h1:zt (bt s p)=true)(a:bt s (p+1)=58)(h:pT s (p+2)=.ok (ty,j))(c:bt s j=61)(d:pD s (j+1) 0=some e):zS s p=.ok (⟨bt s p,p,ty,some (j+1,e)⟩,e):=by
 unfold zS;rw[i_ h1,i_ a,h];simp only;rw[i_ c,d]
def eZ{s:BA}{j:Nat}(h1:zt (bt s p)=true)(a:bt s (p+1)=58)(h:pT s (p+2)=.ok (ty,j))(c:bt s j=61)(d:pD s (j+1) 0=none):zS s p=.error s.size:=by
 unfold zS;rw[i_ h1,i_ a,h];simp only;rw[i_ c,d]
def cE(s:BA)(i:Nat):Except Nat (List PF×Nat):=if bt s i=41 then .ok ([],i+1) else xe s i
def ic(w:Aw)(X:Au)(br bz B:Nat)(s:BA)(i:Nat)(wr mx:Int)(ts:Aq)(us:Av)(zs:Az)(tv u:Ax)(e:Ah)(w':Aw):Prop:=
 ∃fv n xs tv' u',e=.returned (.agg (jB fv).toArray)/\zI w w' br bz tv u tv' u'/\w'.ownsRow B 60 10 fv n xs/\(∀g,fv.ownBlock=some g->w.heap.size<=g/\tv'.ownBlock≠some g/\u'.ownBlock≠some g)/\
 match yh s i with
 | .ok (ds,j)=>n=ds.length/\xs=yR s ts.length ds/\Rep w' (λg=>X g\/fv.ownBlock=some g) br bz B s j false (wrF [] ds wr) (kN ds mx) (ts++zA ts.length (ds.map PF.ty)) (us++zG (ds.map PF.ty)) zs tv' u'
 | .error k=>∃wr' mx' ts' us',Rep w' (λg=>X g\/fv.ownBlock=some g) br bz B s k true wr' mx' ts' us' zs tv' u'
def ir(R_:Except Nat (List PF×Nat))(w:Aw)(X:Au)(br bz B:Nat)(s:BA)(i:Nat)(wr mx:Int)(ts:Aq)(us:Av)(zs:Az)(tv u:Ax)(m:Nat)(kv:Ax)(W:Aw):Prop:=
 ∃(kb:BA) (fv tv' u':Value),kv=.string kb/\kb.size<=300/\
  ((∃(ds:List PF) (j:Nat),RM w X br bz B s j false (wrF [] ds wr) (kN ds mx) (ts++zA ts.length (ds.map PF.ty)) (us++zG (ds.map PF.ty)) zs tv u tv' u' fv ds.length (yR s ts.length ds) N_ W/\
   kb.data.toList.map UInt8.toNat=ds.map PF.letter/\i+ds.length<=j/\s.size+2-j<=m/\((ds=[]/\j=i/\R_=cE s i)\/(ds≠[]/\R_=mP s ds j)))\/
   (∃k n xs wg MX TS US,RM w X br bz B s k true wg MX TS US zs tv u tv' u' fv n xs N_ W/\R_=.error k))
def sk{s:BA}{f:PF}{j:Nat}(h:zS s p=.ok (f,j)):zt (bt s p)=true:=by
 unfold zS at h;split at h
 .assumption
 .cases h
def PP{s:BA}{j:Nat}{bad:Ap}(h:pk s j bad=61):bad=false/\bt s j=61:=by
 cases bad with
 |true=>simp[pk]at h
 |false=>rw[iO]at h;exact⟨rfl,M_⟩
def Blk.si{w w':Aw}{cs:Az}(h:Blk w b cs t)(a:zw w w'):Blk w' b cs t:=by
 obtain⟨n,rfl⟩:=a;exact h
def oW{s:BA}{j:Nat}{bad:Ap}{MX:Int}{TS:Aq}{US:Av}(h:QC s p MX0 TS0 US0 j bad MX TS US num)(hl:l=if zt (bt s p)=true then bt s p else 0)(g:pk s j bad≠61):Vo s p MX0 TS0 US0 l j bad MX TS US num false 0 ⟨#[]⟩:=by
 rcases h with h|⟨rfl,h1,a,ty,c,d,e,f,k⟩
 .exact .inl h
 .rw[iO]at g;rw[i_ h1]at hl;exact .inr ⟨rfl,_,sp h1 a c M_,rfl,rfl,hl,d,e,f,by rw[k];rfl⟩
def Xp{s:BA}{j:Nat}{MX:Int}{TS:Aq}{US:Av}(h:QC s p MX0 TS0 US0 j false MX TS US num)(e:bt s j=61)(hd:pD s (j+1) 0=none)(b:Ap)(a:Int)(t:BA):Vo s p MX0 TS0 US0 l s.size true MX TS US num b a t:=by
 rcases h with⟨h,_⟩|⟨_,h1,c,ty,d,_⟩
 .cases h
 .exact .inl ⟨rfl,eZ h1 c d e hd⟩
def Xb{s:BA}{j e:Nat}{MX:Int}{TS:Aq}{US:Av}(h:QC s p MX0 TS0 US0 j false MX TS US num)(hl:l=if zt (bt s p)=true then bt s p else 0)(k:bt s j=61)(hd:pD s (j+1) 0=some e):Vo s p MX0 TS0 US0 l e false MX TS US num true ((j:Int)+1) (s.extract (j+1) e):=by
 rcases h with⟨h,_⟩|⟨_,h1,a,ty,c,d,f,g,m⟩
 .cases h
 .rw[i_ h1]at hl;exact .inr ⟨rfl,_,eY h1 a c k hd,rfl,rfl,hl,d,f,g,by rw[m];rfl⟩
def Jj{w W:Aw}{X:Au}{br bz B:Nat}{s:BA}{q c:Nat}{d D:Ap}{wg MX a:Int}{TS:Aq}{US:Av}{zs:Az}{tv u r v:Ax}{t:BA}{h:Ap}(n:Nat)(G:R_=vF ds (xe s p))(hp:p<=s.size)(hs:s.size<=300)(y:i+ds.length<=p)(k:kb.data.toList.map UInt8.toNat=ds.map PF.letter)(o:Vo s p (kN ds mx) (ts++zA ts.length (ds.map PF.ty)) (us++zG (ds.map PF.ty)) l c false MX TS US num h a t)(I:wg5=if D=true then zC p (wrF [] ds wg) else wrF [] ds wg)(z:D=(decide (0<=plc kb l) && !d))(y:(zt (bt s p)=true/\q=p+1/\d=false)\/(zt (bt s p)=false/\q=p/\d=true))(M:RM w X br bz B s c false wg5 MX TS US zs tv u r v v5 (ds.length+1) (yR s ts.length ds++Fc l num h a t) N_ W)(hn:s.size+2-c<=n):ir R_ w X br bz B s i wg mx ts us zs tv u n (.string (kb++⟨#[UInt8.ofNat l]⟩)) W:=by
 rcases o with⟨h0,_⟩|⟨_,f,g,hl,F,e,A,m,C,hc⟩
 .cases h0
 .have H:=sk g;have q:d=false:=by
   rcases y with⟨_,_,h⟩|⟨h,_⟩
   .exact h
   .rw[H]at h;cases h
  have d:=(vl hp).1 f c g;have E:l<256:=by rw[e];exact qD _ _
  have J:wrF [] (ds++[f]) wg=wg5:=by
   rw[VW,I,z,q,F];have hm:f.letter∈[]++ds.map PF.letter↔0<=plc kb l:=by rw[wX,k,hl,e];simp
   by_cases d:0<=plc kb l
   .rw[i_ (hm.2 d),i_ (by simp[d])]
   .rw[n_ (λx=>d (hm.1 x)),n_ (by simp[d])]
  have d:=congrArg List.length k;simp only[bm_,Array.length_toList]at d;have d:kb.size=kb.data.size:=rfl;refine⟨_,v5,r,v,rfl,?_,.inl ⟨ds++[f],c,?_,?_,?_,hn,.inr ⟨by simp,?_⟩⟩⟩
  .rw[as_];have:(⟨#[UInt8.ofNat l]⟩:BA).size=1:=rfl;omega
  .rw[J,XY,bh_,aw_,a5_,lI,pC,rI,<- bw_,<- bw_,ah_,au_,ar_];rw[ah_]at m hc;rw[<- A,<- m,<- C,<- hc,<- e];exact M
  .rw[sU k E,bh_,e,<- hl];rfl
  .rw[ah_,au_,ar_];omega
  .rw[G,fT s ds p hp,g]
def Wg(h:kb.data.toList.map UInt8.toNat=ds.map PF.letter)(x:UInt8):(kb++⟨#[x]⟩:BA).size=ds.length+1:=by
 have a:=congrArg List.length h;simp only[bm_,Array.length_toList]at a;have a:kb.size=kb.data.size:=rfl;rw[as_];have:(⟨#[x]⟩:BA).size=1:=rfl;omega
def Kd{w W:Aw}{X:Au}{br bz B:Nat}{s:BA}{c:Nat}{wg MX a:Int}{TS:Aq}{US:Av}{zs:Az}{tv u d e:Ax}{t:BA}{h:Ap}{m:Nat}{xs:Az}(n:Nat)(g:R_=vF ds (xe s p))(hp:p<=s.size)(f:(kb++⟨#[UInt8.ofNat l]⟩:BA).size<=300)(o:Vo s p MX0 TS0 US0 l c true MX TS US num h a t)(M:RM w X br bz B s c true wg5 MX TS US zs tv u d e v5 m xs N_ W):ir R_ w X br bz B s i wg mx ts us zs tv u n (.string (kb++⟨#[UInt8.ofNat l]⟩)) W:=by
 rcases o with⟨_,he⟩|⟨h0,_⟩
 .refine⟨_,v5,d,e,rfl,f,.inr ⟨c,_,_,_,_,_,_,M,?_⟩⟩;rw[g,fT s ds p hp,he]
 .cases h0
def YE{w:Aw}{X:Au}{br bz B:Nat}{s:BA}{wg:Int}{zs:Az}{tv u:Ax}(R:Rep w X br bz B s i false wg mx ts us zs tv u):RM w X br bz B s i false wg mx ts us zs tv u tv u (L_) 0 [] N_ ((w.alloc (.cells zO.toArray 39)).alloc (.cells (jB (L_)).toArray 39)):=by
 have h1:=R.o (((A_ w X).alloc (.cells zO.toArray 39)).alloc (.cells (jB (L_)).toArray 39));refine⟨h1.fe (λg hg=>?_),(B_ w _ _).alloc _,?_,World.ownsRow_nil _ _ _ _,λg hg=>by simp[Value.ownBlock]at hg,λg hg=>hg.elim,⟨((A_ w _).alloc _).alloc _,.inl rfl,.inl rfl⟩⟩
 .rcases hg with hg|hg|hg|hg|hg
  .exact .inl hg
  .exact .inr x4_
  .exact .inr x4_
  .simp[Value.ownBlock]at hg
  .exact hg.elim
 .have:=B_ (w.alloc (.cells zO.toArray 39)) (jB (L_)).toArray 39;simpa using this
def wZ{w W W':Aw}{X:Au}{br bz B:Nat}{s:BA}{j:Nat}{bad:Ap}{wg MX:Int}{TS:Aq}{US:Av}{zs:Az}{tv u tv2 u2 fv:Ax}{n:Nat}{xs:Az}(M:RM w X br bz B s j bad wg MX TS US zs tv u tv2 u2 fv n xs N_ W)(a:Fr W W' (λg=>g=w.heap.size))(h:match yh s i with
  | .ok (ds,j')=>j=j'/\bad=false/\n=ds.length/\xs=yR s ts.length ds/\wg=wrF [] ds wr/\MX=kN ds mx/\TS=ts++zA ts.length (ds.map PF.ty)/\US=us++zG (ds.map PF.ty)
  | .error k=>j=k/\bad=true):ic w X br bz B s i wr mx ts us zs tv u (.returned (.agg (jB fv).toArray)) W':=by
 have c:=(M.R.o (a.mono (λ_ _ e=>.inr (.inl e)))).fe (Y:=λg=>X g\/fv.ownBlock=some g) (λg hg=>by
  rcases hg with e|e
  .exact .inl (.inl e)
  .exact .inl (.inr (.inr (.inr (.inl e)))))
 refine⟨fv,n,xs,tv2,u2,rfl,M.st.o a (λg hg=>M_),zk M.own a (λg hg e=>by have:=M.sn g hg;omega),λg hg=>?_,?_⟩
 .have:=M.sn g hg;have a:=M.R.av g (.inr (.inr (.inr (.inl hg))));exact⟨M_,a.2.2.2.1,a.2.2.2.2⟩
 .cases hp:yh s i with
  |error k=>
   rw[hp]at h;obtain⟨rfl,rfl⟩:=h;exact⟨_,_,_,_,c⟩
  |ok q=>
   obtain⟨ds,j'⟩:=q;rw[hp]at h;obtain⟨rfl,rfl,rfl,rfl,rfl,rfl,rfl,rfl⟩:=h;exact⟨rfl,rfl,c⟩
def Fr.fi(w:Aw)(b:Nat)(v0 a c d e:Ax):Fr w (((((w.setCell ⟨b,0,none⟩ v0).setCell ⟨b,1,none⟩ a).setCell ⟨b,2,none⟩ c).setCell ⟨b,3,none⟩ d).setCell ⟨b,4,none⟩ e) (λg=>g=b):=
 (((((A_ w (λg=>g=b)).setCell ⟨b,0,none⟩ v0 (λ_=>rfl)).setCell ⟨b,1,none⟩ a (λ_=>rfl)).setCell ⟨b,2,none⟩ c (λ_=>rfl)).setCell ⟨b,3,none⟩ d (λ_=>rfl)).setCell ⟨b,4,none⟩ e (λ_=>rfl)
def Blk.fi{w:Aw}{u0 a u2 c:Ax}(h:Blk w b [u0,a,u2,u3,c] t)(v0 a c d e:Ax):Blk (((((w.setCell ⟨b,0,none⟩ v0).setCell ⟨b,1,none⟩ a).setCell ⟨b,2,none⟩ c).setCell ⟨b,3,none⟩ d).setCell ⟨b,4,none⟩ e) b [v0,a,c,d,e] t:=
 ((((h.set 0 v0).set 1 a).set 2 c).set 3 d).set 4 e
def zi{P:Cc}{fn:Func}{R:Cu}{a:Act}{w:Aw}{u0 m u2 o v0 c d f k:Ax}{r}(e:fn.results=r)(h:Blk w b [u0,m,u2,u3,o] t)(m:∀W,Fr w W (λg=>g=b)->Blk W b [v0,c,d,f,k] t->R (.returned (.agg #[v0,c,d,f,k])) W)(hr:∀W,fn.results=r->Blk W b [v0,c,d,f,k] t->(results fn a.tmps).run P W=.ok (.agg #[v0,c,d,f,k]) W:=by
  intro W e h
  obtain⟨o,q,v,q3,x⟩:=h.d5
  simp[results,e,go_sem,o,q,v,q3,x])(hd:a.defers=[]:=by rfl):bodyPost P fn R .ret a (((((w.setCell ⟨b,0,none⟩ v0).setCell ⟨b,1,none⟩ c).setCell ⟨b,2,none⟩ d).setCell ⟨b,3,none⟩ f).setCell ⟨b,4,none⟩ k):=
 bodyPost_ret (hr _ e (h.fi v0 c d f k)) hd (m _ (Fr.fi w b v0 c d f k) (h.fi v0 c d f k))
def Pf(R_:Except Nat (List PF×Nat))(w:Aw)(X:Au)(br bz B:Nat)(s:BA)(i:Nat)(wr mx:Int)(ts:Aq)(us:Av)(zs:Az)(tv u tv2 u2 fv:Ax)(ds:Am)(j:Nat)(W:Aw):Prop:=
 ∃p,RM w X br bz B s p false (wrF [] ds wr) (kN ds mx) (ts++zA ts.length (ds.map PF.ty)) (us++zG (ds.map PF.ty)) zs tv u tv2 u2 fv ds.length (yR s ts.length ds) N_ W/\
  j<=p/\i+ds.length<=p/\R_=vF ds (xe s p)
def Kr{s:BA}{j:Nat}(h:(ds=[]/\j=i/\R_=cE s i)\/(ds≠[]/\R_=mP s ds j))(a:bt s j=41):R_=.ok (ds,j+1):=by
 rcases h with⟨rfl,rfl,rfl⟩|⟨_,rfl⟩
 .unfold cE;rw[i_ a]
 .unfold mP;rw[i_ a]
def Jv{s:BA}{j:Nat}(h:(ds=[]/\j=i/\R_=cE s i)\/(ds≠[]/\R_=mP s ds j))(a:bt s j≠41):(ds=[]->R_=vF ds (xe s j))/\(ds≠[]->bt s j=44->R_=vF ds (xe s (j+1)))/\(ds≠[]->bt s j≠44->R_=.error j):=by
 rcases h with⟨rfl,rfl,rfl⟩|⟨h,rfl⟩
 .exact⟨λ_=>by unfold cE;rw[n_ a,ri],λh=>(h rfl).elim,λh=>(h rfl).elim⟩
 .exact⟨λe=>(h e).elim,λ_ c=>by unfold mP;rw[n_ a,i_ c],λ_ c=>by unfold mP;rw[n_ a,n_ c]⟩
def VC:Tryz.prog.underlying 37=some (.slice 60):=K_
def Wb:(Tryz.prog.info? 60).map (λi=>(i.zero,i.size,i.bytes))=some (some (.agg (Fc 0 0 false 0 ⟨#[]⟩).toArray),10,128):=K_
def cwoy1_{p:Prop}(h:p:=by
 (first|(have:=cc1;have hO:=zy (Xb oD.o hl.o hbt hd))|(have hO:=zy (Xp (l:=l) oD.o hbt hd true ((j5:Int)+1) ⟨#[]⟩)));replace hd:=zy hd;go_wp2_with (go_at_call 102;apply hP.o.mono;(first|(have:=cc1;rintro e' w13 ⟨st13,hh⟩)|(rintro e w13 ⟨st13,hh⟩));rw[hd.o]at hh;obtain⟨rfl,R13⟩:=hh;have M13:=M12.o.call R13 st13;have F13:=M12.o.ke st13 rfl F12.o;have k4:=F13.cell 4;have m4:=F13.th 4;simp only[Fc,an_,ao_,aa_,ab_]at k4;replace M13:=zy M13;replace F13:=zy F13);go_meet;case rel=>exact⟨_,_,_,_,_,M13.o.put bf 4 _ rfl,C_ F13.o 4 _,hO.o⟩):p:=h
def cwoy2_{p:Prop}(h:p:=by
 (first|(have:=cc1;obtain⟨ty,j5⟩:=q)|(have hOut:=zy (oV hsm hcol hp)));replace hp:=zy hp;(first|(have:=cc1;replace hsm:=zy hsm;replace hcol:=zy hcol)|(clear hsm hcol));go_wp2_with (go_at_call 43;apply hT.o.mono;intro e w8 hh;unfold yc at hh;rw[hp.o]at hh;(first|(have:=cc1;obtain⟨rfl,tv8,u8,R8,st8⟩:=hh)|(obtain⟨⟨v,rfl⟩,mx8,ts8,us8,tv8,u8,R8,hl8,st8⟩:=hh));have M8:=M7.o.call R8 st8;have F8:=M7.o.ke st8 rfl F7.o;have k1:=F8.cell 1;have m1:=F8.th 1;simp only[Fc,aa_,ab_]at k1;replace M8:=zy M8;replace F8:=zy F8);go_meet;case rel=>(first|(have:=cc1;exact⟨_,_,_,_,_,_,_,_,M8.o.put bf 1 _ rfl,C_ F8.o 1 _,.inr ⟨rfl,hsm.o,hcol.o,ty,hp.o,rfl,rfl,rfl,by simp⟩⟩)|(exact⟨_,_,_,_,_,_,_,_,M8.o.put bf 1 _ rfl,C_ F8.o 1 _,.inl ⟨rfl,hOut.o⟩⟩))):p:=h
def oy{w:Aw}{X:Au}{br bz B:Nat}{s:BA}{wg:Int}{zs:Az}{tv u:Ax}(R:Rep w X br bz B s i false wg mx ts us zs tv u):Calls prog 66 #[P_ br] w (ic w X br bz B s i wg mx ts us zs tv u):=by
 have f6:=R.sl;have g5:=R.il;have M0:=zy (YE R);obtain⟨f9,Q_⟩:=y_ (ic w X br bz B s i wg mx ts us zs tv u);rw[<- Q_.o];go_in;go_wp2_with (go_at_call 41;apply(yT 40 M0.o.R rfl D_).mono;rintro e w1 ⟨rfl,y,e8⟩);have b9:ir (yh s i) w X br bz B s (i+1) wg mx ts us zs tv u (s.size+3) (.string ⟨#[]⟩) w1:=by
  refine⟨⟨#[]⟩,L_,tv,u,rfl,D_,?_⟩;unfold yh;by_cases e0:bt s i=40
  .rw[i_ e0]at y⊢;refine .inl ⟨[],i+1,?_,rfl,by simp,M_,.inl ⟨rfl,rfl,rfl⟩⟩;have:=M0.o.call y e8;simpa[wrF,kN,zA,zG,yR] using this
  .rw[n_ e0]at y⊢;exact .inr ⟨i,_,_,_,_,_,_,M0.o.call y e8,rfl⟩
 replace b9:=zy b9;go_loopg [4] (s.size+3) (λm kv W=>ir (yh s i) w X br bz B s (i+1) wg mx ts us zs tv u m kv W);case atStart=>exact b9
 case round=>
  obtain⟨kb,fv,tv',u',rfl,g7,hA|hC⟩:=hrel
  .obtain⟨ds,j,M,a7,e4,hm,a5⟩:=hA;obtain⟨L,sn,N,rfl⟩:=zW M.own;have g6:=M.R.il;have c2:=M.R.here.c2;have c1:=M.R.here.c1;have a8:ds=[]/\kb.size=0\/ds≠[]/\0<kb.size:=by
    have h1:=congrArg List.length a7;simp only[bm_,Array.length_toList]at h1;have h2:kb.size=kb.data.size:=rfl;cases ds with
    |nil=>exact .inl ⟨rfl,by simp only[ar_]at h1;omega⟩
    |cons d r=>exact .inr ⟨by simp,by simp only[au_]at h1;omega⟩
   replace a7:=zy a7;replace M:=zy M;replace a5:=zy a5;by_cases U:bt s j=41
   .have e5:j<s.size:=zr M_;have hres:=zy (Kr a5 U);rcases a8 with⟨E,d1⟩|⟨E,d1⟩
    .have e6:decide ((0:Int)<(kb.size:Int))=false:=decide_eq_false M_;go_wp2_with (first
      |(go_at_call 40;apply(zR M.o.R U).mono;rintro e w2 ⟨rfl,a9⟩;have z:=M.o.si a9;have x:=z.R.here.c2;replace z:=zy z)
      |(go_at_call 41;apply(yT 41 z.o.R rfl D_).mono;rintro e w3 ⟨rfl,y,b8⟩;rw[i_ U]at y;have a:=z.o.call y b8;obtain⟨O,F,Q,t3,t4⟩:=a.b3.f5;obtain⟨r0,r1,I,J,K⟩:=a.b2.f5;obtain⟨g0,g1,g2,g3,g4⟩:=a.b2.t5;simp only[jB,zO,aa_,ab_]at O F Q t3 t4 r0 r1 I J K;replace a:=zy a))
     refine zi results66 a.o.b2 (λW5 H _=>?_);rw[Q_.o];exact wZ a H yi_
    .have e6:(0:Int)<(kb.size:Int):=M_;go_wp2_with (first
      |(go_at_call 40;apply(zR M.o.R U).mono;rintro e w2 ⟨rfl,a9⟩;have z:=M.o.si a9;replace M:=z;have c1:=z.R.here.c1;have f1:=z.R.here.th 1;have a:=z.inc e5;obtain⟨O,F,Q,t3,t4⟩:=a.b3.f5;obtain⟨r0,r1,I,J,K⟩:=a.b2.f5;obtain⟨g0,g1,g2,g3,g4⟩:=a.b2.t5;simp only[jB,zO,aa_,ab_]at O F Q t3 t4 r0 r1 I J K;replace a:=zy a;replace M:=zy M))
     refine zi results66 a.o.b2 (λW5 H _=>?_);rw[Q_.o];exact wZ a H yi_
   .obtain⟨cj,V⟩:=x_ (bt s j);have Z:=Jv a5 U;have f8:((cj:Int) != 41)=true:=x4_
    have f7:((cj:Int)==41)=false:=x4_
    replace Z:=zy Z;replace V:=zy V;replace a8:=zy a8;go_upto_if 27 with(go_at_call 40;apply(zR M.o.R V).mono;rintro e w2 ⟨rfl,a9⟩;have z:=zy (M.o.si a9));go_cut [] (λW=>Pf (yh s i) w X br bz B s (i+1) wg mx ts us zs tv u tv' u' (.slice L sn N) ds j W);case first=>
     rcases a8.o with⟨E,d1⟩|⟨E,d1⟩
     .have e6:decide (0<kb.size)=false:=decide_eq_false M_;have hd:H_ (yh s i=vF ds (xe s j)):=Z.o.1 E;go_wp2;go_meet;case rel=>exact⟨j,z,l_,e4,hd⟩
     .by_cases A:bt s j=44
      .have e5:j<s.size:=zr M_;have hd:H_ (yh s i=vF ds (xe s (j+1))):=Z.o.2.1 E A;go_wp2_with (first
        |(go_at_call 40;apply(zR z.o.R V).mono;rintro e w3 ⟨rfl,C⟩;have a:=zy (z.o.si C))
        |(go_at_call 41;apply(yT 44 a.o.R rfl D_).mono;rintro e T ⟨rfl,y,G⟩;rw[i_ A]at y;have x:=a.o.call y G;have S:=x.R.here.c2;replace x:=zy x))
       go_meet;case rel=>exact⟨j+1,x,M_,M_,hd⟩
      .have hd:H_ (yh s i=.error j):=Z.o.2.2 E A;go_wp2_with (first
        |(go_at_call 40;apply(zR z.o.R V).mono;rintro e w3 ⟨rfl,C⟩;have a:=zy (z.o.si C))
        |(go_at_call 41;apply(yT 44 a.o.R rfl D_).mono;rintro e T ⟨rfl,y,G⟩;rw[n_ A]at y;have x:=a.o.call y G;have S:=x.R.here.c2;obtain⟨O,F,Q,t3,t4⟩:=x.b3.f5;obtain⟨r0,r1,I,J,K⟩:=x.b2.f5;obtain⟨g0,g1,g2,g3,g4⟩:=x.b2.t5;simp only[jB,zO,aa_,ab_]at O F Q t3 t4 r0 r1 I J K;replace x:=zy x))
       refine zi results66 x.o.b2 (λW5 H _=>?_);rw[Q_.o];exact wZ x H (by rw[hd.o];exact⟨rfl,rfl⟩)
    case rest=>
     obtain⟨p,M,z,f0,hres⟩:=hcut;have d6:=M.R.il;have c1:=M.R.here.c1;obtain⟨l,hl⟩:∃l:Nat,H_ (l=if zt (bt s p)=true then bt s p else 0):=⟨_,rfl⟩;replace M:=zy M;replace hres:=zy hres;go_upto_region 15 with(go_at_call 100;apply(jb (M.o.mine (.cells (Fc 0 0 false 0 ⟨#[]⟩).toArray 60)).R).mono;rintro e w3 ⟨rfl,E⟩;rw[<- hl.o];obtain⟨j3,b4,z,b8,h3⟩:=E.any;have a:=(M.o.mine (.cells (Fc 0 0 false 0 ⟨#[]⟩).toArray 60)).call z b8;have z:=(M.o.mine (.cells (Fc 0 0 false 0 ⟨#[]⟩).toArray 60)).ke b8 rfl (B_ wc _ _);have k0:=z.cell 0;have E:=z.th 0;simp only[Fc,aa_]at k0;replace a:=zy a;replace z:=zy z);have x:=a.o.put wc.heap.size 0 (U_ l) rfl;have S:Blk (w3.setCell ⟨wc.heap.size,0,none⟩ (U_ l)) wc.heap.size (Fc l 0 false 0 ⟨#[]⟩) 60:=C_ z 0 (U_ l);generalize w3.setCell ⟨wc.heap.size,0,none⟩ (U_ l)=W4 at *;generalize wc.heap.size=bf at *;have k0:=S.cell 0;have c2:=x.R.here.c2;simp only[Fc,aa_]at k0;replace x:=zy x;replace S:=zy S;go_cut [64] (λa W=>a=.bool (decide (0<=plc kb l) && !b4)/\W=W4);case first=>
      cases hh:decide (0<=plc kb l);all_goals
       go_wp2_with (go_at_call 101;apply(fQ kb l _ M_).mono;rintro e w' ⟨rfl,rfl⟩;rw[hh]);go_meet;case rel=>exact⟨by rw[hh];rfl,rfl⟩
     case rest=>
      obtain⟨rfl,rfl⟩:=hcut;obtain⟨D,hD⟩:=e_ ((decide (0<=plc kb l) && !b4));rw[<- hD];replace hD:=zy hD;go_upto_if 64 with fail;go_cut [] (λW=>∃d9,RM w X br bz B s j3 b4 d9 (kN ds mx) (ts++zA ts.length (ds.map PF.ty)) (us++zG (ds.map PF.ty)) zs tv u tv' u' (.slice L sn N) ds.length (yR s ts.length ds) (λg=>g=bf) W/\Blk W bf (Fc l 0 false 0 ⟨#[]⟩) 60/\d9=if D=true then zC p (wrF [] ds wg) else wrF [] ds wg);case first=>
       cases D
       .go_wp2;go_meet;case rel=>exact⟨_,x,S,rfl⟩
       .go_wp2_with (go_at_call 24;apply(qK x.o.R).mono;rintro e w5 ⟨rfl,z,a⟩);go_meet;case rel=>exact⟨_,x.o.call z a,x.o.ke a rfl S,rfl⟩
      case rest=>
       obtain⟨wg5,z,a,d7⟩:=hcut;have k0:=a.cell 0;simp only[Fc,aa_]at k0;have C:=z.alloc (.cells #[U_ l] 5);have T:=a.alloc (.cells #[U_ l] 5);have c2:=C.R.here.c2;have E:=λ(W:World) (g:Nat) (c:Int) (h:W.heap.size=g)=>rp W g c h;revert d7 C T;refine h_ λd7 C T=>?_;go_upto_if 78 with fail;generalize wc.alloc (.cells #[U_ l] 5)=W6 at *;go_cut [] (λW=>∃j4 b5,RM w X br bz B s j4 b5 wg5 (kN ds mx) (ts++zA ts.length (ds.map PF.ty)) (us++zG (ds.map PF.ty)) zs tv u tv' u' (.slice L sn N) ds.length (yR s ts.length ds) (λg=>g=bf) W/\Blk W bf (Fc l 0 false 0 ⟨#[]⟩) 60/\VZ s p j4 b5);case first=>
        cases e1:b4
        .subst e1;have hO:=zy (Xm h3 rfl);by_cases G:bt s j3=58
         .go_wp2_with (go_at_call 41;apply(yT 58 C.o.R rfl D_).mono;rintro e w7 ⟨rfl,y,A⟩;rw[i_ G]at y);go_meet;case rel=>exact⟨_,_,C.o.call y A,C.o.ke A rfl T,hO.o.1 G⟩
         .go_wp2_with (go_at_call 41;apply(yT 58 C.o.R rfl D_).mono;rintro e w7 ⟨rfl,y,A⟩;rw[n_ G]at y);go_meet;case rel=>exact⟨_,_,C.o.call y A,C.o.ke A rfl T,hO.o.2 G⟩
        .subst e1;have hO:=zy (JY h3 rfl);go_wp2;go_meet;case rel=>exact⟨_,_,C,T,hO⟩
       case rest=>
        obtain⟨j4,b5,M7,F7,oC⟩:=hcut;have c2:=M7.R.here.c2;revert M7 F7 oC;refine h_ λM7 F7 oC=>?_;go_upto_if 85 with fail;go_cut [] (λW=>∃j5 a4 a1 a2 a3 d8 u5 num,RM w X br bz B s j5 a4 wg5 a1 a2 a3 zs tv u d8 u5 (.slice L sn N) ds.length (yR s ts.length ds) (λg=>g=bf) W/\Blk W bf (Fc l num false 0 ⟨#[]⟩) 60/\QC s p (kN ds mx) (ts++zA ts.length (ds.map PF.ty)) (us++zG (ds.map PF.ty)) j5 a4 a1 a2 a3 num);case first=>
         cases e2:b5
         .subst e2;obtain⟨A,hsm,hcol⟩:=Xu oC;subst A;have hT:=zy (VH M7.o.R.il _ _ _ _ _ _ _ _ _ _ _ _ M7.o.R);cases hp:pT s (p+2) with
          |error k=>
           exact cwoy2_
          |ok q=>
           have cc1:=Nat;exact cwoy2_
         .subst e2;have a:=zy (JZ (MX0:=kN ds mx) (MX:=kN ds mx) (TS0:=ts++zA ts.length (ds.map PF.ty)) (TS:=ts++zA ts.length (ds.map PF.ty)) (US0:=us++zG (ds.map PF.ty)) (US:=us++zG (ds.map PF.ty)) (num:=0) oC);go_wp2;go_meet;case rel=>exact⟨_,_,_,_,_,_,_,_,M7,F7,a⟩
        case rest=>
         obtain⟨j5,a4,a1,a2,a3,d8,u5,num,M9,F9,oD⟩:=hcut;revert M9 F9 oD;refine h_ λM9 F9 oD=>?_;go_upto_if 91 with(go_at_call 40;apply(Ka M9.o.R).mono;rintro e a ⟨rfl,a⟩);have A:=M9.o.si a;have G:=Blk.si F9 a;go_cut [] (λW=>∃j6 b6 h6 a6 t6,RM w X br bz B s j6 b6 wg5 a1 a2 a3 zs tv u d8 u5 (.slice L sn N) ds.length (yR s ts.length ds) (λg=>g=bf) W/\Blk W bf (Fc l num h6 a6 t6) 60/\Vo s p (kN ds mx) (ts++zA ts.length (ds.map PF.ty)) (us++zG (ds.map PF.ty)) l j6 b6 a1 a2 a3 num h6 a6 t6);case first=>
          by_cases b7:pk s j5 a4=61
          .obtain⟨e9,hbt⟩:=PP b7;subst e9;have x:j5<s.size:=zr M_;have c1:=A.R.here.c1;have f1:=A.R.here.th 1;have z:=A.inc x;have a:=A.ke (A.R.inc x).2 rfl G;have x:=a.cell 2;have y:=a.th 2;have y:=a.cell 3;have C:=a.th 3;simp only[Fc,aa_,ab_]at x y;have M12:=(z.put bf 2 (.bool true) rfl).put bf 3 (Z_ ((j5:Int)+1)) rfl;have F12:=zy ((a.set 2 (.bool true)).set 3 (Z_ ((j5:Int)+1)));have hP:=zy (ol M12.R);replace M12:=zy M12;replace A:=zy A;replace G:=zy G;cases hd:pD s (j5+1) 0 with
           |none=>
            exact cwoy1_
           |some e=>
            have cc1:=Nat;exact cwoy1_
          .have a:(pk s j5 a4==61)=false:=by simpa using b7
           have hO:=zy (oW oD hl b7);replace A:=zy A;replace G:=zy G;go_wp2;go_meet;case rel=>exact⟨_,_,_,_,_,A,G,hO⟩
         case rest=>
          obtain⟨j6,b6,h6,a6,t6,a,z,oE⟩:=hcut;have F:=a.b3.cell 1;obtain⟨k0,k1,x,y,k4,A,C,E,G,S⟩:=z.f10;simp only[Fc,jB,aa_,ab_]at F k0 k1 x y k4 A C E G S;obtain⟨ti,x,y,A,C⟩:=info_parts Wb;have E:ds.length<=300:=M_;have E:=a.R.hB;replace a:=zy a;replace oE:=zy oE;go_wp2_with (first
           |(at_builtin;go_must (refine wpList_append_own_at _ rfl _ _ 37 rfl B 60 ti _ 10 128 VC x y A C rfl D_ (.slice L sn N) ds.length (yR s ts.length ds) rfl ?hown _ 1 1 (Fc l num h6 a6 t6) rfl rfl (zL _ (Fc l num h6 a6 t6).toArray _ _ ?nn) ?one ?b1 ?b2 ?b3 ?_)
             case hown=>exact World.ownsRow.alloc a.o.own _
             case nn=>simp
             case one=>simp[Fc,Value.oneCell']
             case b1=>unfold maxLen;omega
             case b2=>omega
             case b3=>simp;omega
             intro v5 w5 d2 d0 f2 e7
             have a0:=a.o.grow d0 d2 e7
             obtain⟨x,f5⟩:=a.o.gw d0
             obtain⟨a,a,rfl⟩:=zu d2 M_
             replace a0:=zy a0))
          have a:=a0.o.R.il;cases e3:b6
          .subst e3;have a:p<j6:=by
            rcases oE.o with⟨h,_⟩|⟨_,f,a,_⟩
            .cases h
            .have:=(vl d6).1 f j6 a;omega
           go_roundg (s.size+2-j6);case measure=>omega
           case rel=>exact Jj _ hres d6 f6 f0 a7 oE d7 hD h3 a0 l_
          .subst e3;go_roundg 0;case measure=>omega
           case rel=>exact Kd _ hres d6 (by rw[Wg a7.o];omega) oE a0
  .obtain⟨k,n,xs,d9,MX,TS,US,M,hres⟩:=hC;obtain⟨L,sn,N,rfl⟩:=zW M.own;have c2:=M.R.here.c2;obtain⟨O,F,Q,t3,t4⟩:=M.b3.f5;obtain⟨r0,r1,I,J,K⟩:=M.b2.f5;obtain⟨g0,g1,g2,g3,g4⟩:=M.b2.t5;simp only[jB,zO,aa_,ab_]at O F Q t3 t4 r0 r1 I J K;replace M:=zy M;replace hres:=zy hres;go_wp2;refine zi results66 M.o.b2 (λW5 H _=>?_);rw[Q_.o];exact wZ M H (by rw[hres.o];exact⟨rfl,rfl⟩)
structure SM(w:Aw)(X:Au)(br bz B:Nat)(s:BA)(j:Nat)(bad:Ap)(wg MX:Int)(TS:Aq)(US:Av)(zs:Az)(tv u:Ax)(cs:Az)(W:Aw):Prop where
 R:Rep W (λg=>X g\/g=w.heap.size\/g=w.heap.size+1) br bz B s j bad wg MX TS US zs tv u
 b2:Blk W w.heap.size zO 39
 b3:Blk W (w.heap.size+1) cs 39
 st:zI w W br bz tv u tv u
section
variable {w W W':Aw} {X:Au} {br bz B:Nat} {s:BA} {j:Nat} {bad:Ap} {wg MX:Int} {TS:Aq} {US:Av} {zs:Az} {tv u:Ax} {cs:Az}
def SM.call(M:SM w X br bz B s j bad wg MX TS US zs tv u cs W){j':Nat}{a:Ap}{c:Int}(d:Rep W' (λg=>X g\/g=w.heap.size\/g=w.heap.size+1) br bz B s j' a c MX TS US zs tv u)(st:zI W W' br bz tv u tv u):SM w X br bz B s j' a c MX TS US zs tv u cs W':=
 ⟨d,st.fr.bl M.b2 (M.R.offS (.inr (.inl rfl))),st.fr.bl M.b3 (M.R.offS (.inr (.inr rfl))),M.st.trans st⟩
def SM.si(M:SM w X br bz B s j bad wg MX TS US zs tv u cs W)(h:zw W W'):SM w X br bz B s j bad wg MX TS US zs tv u cs W':=M.call (M.R.si h) (zI.oS h)
def SM.inc(M:SM w X br bz B s j bad wg MX TS US zs tv u cs W)(h:j<s.size):SM w X br bz B s (j+1) bad wg MX TS US zs tv u cs (W.setCell ⟨br,1,none⟩ (Z_ ((j:Int)+1))):=M.call (M.R.inc h).1 (M.R.inc h).2
def SM.alloc(M:SM w X br bz B s j bad wg MX TS US zs tv u cs W)(o:Cj):SM w X br bz B s j bad wg MX TS US zs tv u cs (W.alloc o):=M.call (M.R.alloc o).1 (M.R.alloc o).2
def SM.put(M:SM w X br bz B s j bad wg MX TS US zs tv u cs W)(o:Nat)(v:Ax):SM w X br bz B s j bad wg MX TS US zs tv u (cs.set o v) (W.setCell ⟨w.heap.size+1,o,none⟩ v):=by
 have a:Fr W (W.setCell ⟨w.heap.size+1,o,none⟩ v) (λg=>g=w.heap.size+1):=(A_ W (λg=>g=w.heap.size+1)).setCell ⟨w.heap.size+1,o,none⟩ v (λ_=>rfl);exact⟨(M.R.o (a.mono (λ_ _ e=>.inr (.inr e)))).fe (λ_ h=>.inl h),a.bl M.b2 M_,M.b3.set o v,M.st.o a (λg hg=>M_)⟩
end
def yj(sb:BA)(o:Int):List Value:=[.int .u8 101,L_,.string sb,Z_ o,O_]
def wrS(seen:Ai):List (Nat×Nat)->Int->Int
 | [],m=>m
 |f::r,m=>wrS (seen++[f.1]) r (if f.1∈seen then zC f.2 m else m)
def VQ(a:Ai)(ds:Av)(f:Ct)(m:Int):wrS a (ds++[f]) m=if f.1∈a++ds.map Prod.fst then zC f.2 (wrS a ds m) else wrS a ds m:=by
 induction ds generalizing a m with
 |nil=>simp[wrS]
 |cons d r ih=>rw[bf_,wrS,wrS,ih,bw_];rfl
def wrE(l:Av)(o:Ac)(m:Int):Int:=
 match o with
 |none=>wrS [] l m
 |some (c,at_)=>if c∈l.map Prod.fst then wrS [] l m else zC at_ (wrS [] l m)
def rW(w:Aw)(X:Au)(br bz B:Nat)(s:BA)(i:Nat)(wr mx:Int)(ts:Aq)(us:Av)(zs:Az)(tv u:Ax)(e:Ah)(w':Aw):Prop:=
 ∃sb o,e=.returned (.agg (yj sb o).toArray)/\zI w w' br bz tv u tv u/\
 match xZ s i with
 | .ok ((l,unk),j)=>sb.data.toList.map UInt8.toNat=l.map Prod.fst/\o=(match unk with|none=>-1|some (c,_)=>plc sb c)/\Rep w' X br bz B s j false (wrE l unk wr) mx ts us zs tv u
 | .error k=>∃wr',Rep w' X br bz B s k true wr' mx ts us zs tv u
def Kv(R_:Except Nat ((List (Nat×Nat)×Option (Nat×Nat))×Nat))(w:Aw)(X:Au)(br bz B:Nat)(s:BA)(i:Nat)(wr mx:Int)(ts:Aq)(us:Av)(zs:Az)(tv u:Ax)(m:Nat)(mv:Ax)(W:Aw):Prop:=
 ∃(sb:BA) (more:Bool),mv=.bool more/\sb.size<=300/\
  ((∃(ds:List (Nat×Nat)) (j:Nat),SM w X br bz B s j false (wrS [] ds wr) mx ts us zs tv u (yj sb (-1)) W/\sb.data.toList.map UInt8.toNat=ds.map Prod.fst/\i+ds.length<=j/\s.size+2-j<=m/\
   R_=if more=true then gS s ds (kw s j) else au s ds j)\/
   (∃k wg',SM w X br bz B s k true wg' mx ts us zs tv u (yj sb (-1)) W/\R_=.error k))
def Qg{w:Aw}{X:Au}{br bz B:Nat}{s:BA}{wg:Int}{zs:Az}{tv u:Ax}(R:Rep w X br bz B s i false wg mx ts us zs tv u):SM w X br bz B s i false wg mx ts us zs tv u (yj ⟨#[]⟩ (-1)) ((w.alloc (.cells zO.toArray 39)).alloc (.cells (yj ⟨#[]⟩ (-1)).toArray 39)):=by
 have h1:=R.o (((A_ w X).alloc (.cells zO.toArray 39)).alloc (.cells (yj ⟨#[]⟩ (-1)).toArray 39));refine⟨h1.fe (λg hg=>?_),(B_ w _ _).alloc _,?_,⟨((A_ w _).alloc _).alloc _,.inl rfl,.inl rfl⟩⟩
 .rcases hg with hg|hg|hg
  .exact .inl hg
  .exact .inr x4_
  .exact .inr x4_
 .have:=B_ (w.alloc (.cells zO.toArray 39)) (yj ⟨#[]⟩ (-1)).toArray 39;simpa using this
def vC{w W W':Aw}{X:Au}{br bz B:Nat}{s:BA}{j:Nat}{bad:Ap}{wg:Int}{zs:Az}{tv u:Ax}{sb:BA}{o:Int}(M:SM w X br bz B s j bad wg mx ts us zs tv u (yj sb o) W)(d:Fr W W' (λg=>g=w.heap.size))(h:match xZ s i with
  | .ok ((l,a),j')=>j=j'/\bad=false/\sb.data.toList.map UInt8.toNat=l.map Prod.fst/\o=(match a with|none=>-1|some (c,_)=>plc sb c)/\wg=wrE l a wr
  | .error k=>j=k/\bad=true):rW w X br bz B s i wr mx ts us zs tv u (.returned (.agg (yj sb o).toArray)) W':=by
 have f:=(M.R.o (d.mono (λ_ _ e=>.inr (.inl e)))).fe (Y:=X) (λg hg=>.inl (.inl hg));refine⟨sb,o,rfl,M.st.o d (λg hg=>M_),?_⟩;cases hp:xZ s i with
 |error k=>
  rw[hp]at h;obtain⟨rfl,rfl⟩:=h;exact⟨_,f⟩
 |ok q=>
  obtain⟨⟨l,a⟩,j'⟩:=q;rw[hp]at h;obtain⟨rfl,rfl,h1,m,rfl⟩:=h;exact⟨h1,m,f⟩
def Yc{R_:Except Nat ((List (Nat×Nat)×Option (Nat×Nat))×Nat)}{w W:Aw}{X:Au}{br bz B:Nat}{s:BA}{j:Nat}{wg:Int}{zs:Az}{tv u:Ax}{ds:Av}{sb:BA}(n j':Nat)(more:Ap)(f:R_=gS s ds (kw s j))(hs:s.size<=300)(a:i+ds.length<=j)(a:sb.data.toList.map UInt8.toNat=ds.map Prod.fst)(e:zt (bt s j)=true)(h:wg5=if 0<=plc sb (bt s j) then zC j (wrS [] ds wg) else wrS [] ds wg)(M:SM w X br bz B s j' false wg5 mx ts us zs tv u (yj (sb++⟨#[UInt8.ofNat (bt s j)]⟩) (-1)) W)(hn:s.size+2-j'<=n)(hm:(more=true/\bt s (j+1)=44/\j'=j+2)\/(more=false/\bt s (j+1)≠44/\j'=j+1)):Kv R_ w X br bz B s i wg mx ts us zs tv u n (.bool more) W:=by
 have hl:=zr (xo e);have d:=sU a (qD s j);have g:=congrArg List.length d;simp only[bm_,Array.length_toList,ah_,au_,ar_]at g;have g:(sb++⟨#[UInt8.ofNat (bt s j)]⟩:BA).size=(sb++⟨#[UInt8.ofNat (bt s j)]⟩:BA).data.size:=rfl;have k:wrS [] (ds++[(bt s j,j)]) wg=wg5:=by
  rw[VQ,h];have hm:bt s j∈[]++ds.map Prod.fst↔0<=plc sb (bt s j):=by rw[wX,a];simp
  by_cases a:0<=plc sb (bt s j)
  .rw[i_ (hm.2 a),i_ a]
  .rw[n_ (λx=>a (hm.1 x)),n_ a]
 refine⟨sb++⟨#[UInt8.ofNat (bt s j)]⟩,more,rfl,M_,.inl ⟨ds++[(bt s j,j)],j',by rw[k];exact M,by rw[d,bh_];rfl,?_,hn,?_⟩⟩
 .rw[ah_,au_,ar_];rcases hm with⟨_,_,rfl⟩|⟨_,_,rfl⟩<;>omega
 .rw[f,gN,i_ e];rcases hm with⟨rfl,c,rfl⟩|⟨rfl,c,rfl⟩
  .rw[i_ c,i_ rfl]
  .rw[n_ c,n_ D_]
end Go.Proofs.YtahhhgbojlkjnaaGreatDoor
