import Derived.Test.YtjkiencmjggakaaGreatDoorW27
set_option maxHeartbeats 16000000
set_option maxRecDepth 100000
set_option linter.unusedVariables false
set_option linter.defProp false
set_option linter.unusedSimpArgs false
open Go.Proofs.Tryz
namespace Go.Proofs.YtjkiencmjggakaaGreatDoor
open Go.RowKit
variable {c:Nat}{fs:List (Nat×Nat×Bool)}
def pW:Option Nat->Int
 |none=>-1
 |some k=>(k:Int)
def JA{i:Nat}{x:Nat×Nat×Bool}(h:∀(j:Nat) y,j<i->fs[j]?=some y->y.1≠c)(hi:fs[i]?=some x)(hx:x.1=c):jT fs c=some i:=by
 unfold jT;have hl:=(ae_.1 hi).1;rw[List.findIdx?_eq_some_iff_getElem];refine⟨by simpa using hl,?_,λj a=>?_⟩
 .rw[List.getElem_map];have:=af_ hl;rw[hi]at this;cases this;simp[hx]
 .rw[List.getElem_map];have:=h j _ a (af_ M_);simpa using this
def JO(h:∀(j:Nat) y,fs[j]?=some y->y.1≠c):jT fs c=none:=by
 unfold jT;rw[List.findIdx?_eq_none_iff];intro x hx;obtain⟨y,hy,rfl⟩:=ay_.1 hx;obtain⟨j,a⟩:=a5_ hy;simpa using h j y a
def XQ{W:World}{P:Nat->Prop}{fv:Value}(h:KFs W P fv fs)(B:fs.length<=300):Calls prog 42 #[fv,U_ c] W λe w'=>e=.returned (z_ (pW (jT fs c)))/\w'=W:=by
 obtain⟨POST,a⟩:=y_ (λ(e:Ending) (w':World)=>e=.returned (z_ (pW (jT fs c)))/\w'=W);rw[<- a.o];have item:H_ (∀i x,fs[i]?=some x->∃g cap,fv=S_ g fs.length cap/\W.cell? ⟨g,i*10,none⟩=some (U_ x.1)):=zy (λi x hi=>by
  obtain⟨g,cap,e,n,_⟩:=h.at hi
  exact⟨g,cap,e,n⟩)
 have q:∃fa fc,fv=.slice fa fs.length fc:=by
  obtain⟨xs,h1,_⟩:=h;exact zl h1
 obtain⟨fa,fc,rfl⟩:=q;have b:H_ (∀i x,(∀(j:Nat) y,j<i->fs[j]?=some y->y.1≠c)->fs[i]?=some x->x.1=c->POST (.returned (z_ ((i:Nat):Int))) W):=zy (λi x t u z=>by
  rw[a.o,JA t u z]
  exact⟨rfl,rfl⟩)
 have A:H_ ((∀(j:Nat) y,fs[j]?=some y->y.1≠c)->POST (.returned (z_ (-1))) W):=zy (λk=>by
  rw[a.o,JO k]
  exact⟨rfl,rfl⟩)
 go_in;go_wp2;go_loopg [5] (fs.length+1) (λmm v V=>∃i:Nat,v=I_ i/\V=W/\i<=fs.length/\fs.length+1-i<=mm/\H_ (∀(j:Nat) y,j<i->fs[j]?=some y->y.1≠c));case atStart=>exact⟨0,rfl,rfl,al_ _,M_,zy (λj y d=>absurd d (bt_ j))⟩
 case round=>
  obtain⟨i,rfl,rfl,hi,C,hn⟩:=hrel;by_cases m:i<fs.length
  .have s:(i:Int)<(fs.length:Int):=M_;obtain⟨x,hx⟩:∃x,fs[i]?=some x:=⟨_,af_ m⟩;obtain⟨g,cap,e,n⟩:=item.o i x hx;cases e;by_cases hc:x.1=c
   .have p:((x.1:Int)==(c:Int))=true:=by simp;omega
    have fin:=zy (b.o i x hn hx hc);replace hc:=zy hc;generalize x.1=xc at *;go_wp2;try go_ret
    exact fin
   .have p:((x.1:Int)==(c:Int))=false:=by simp;omega
    have nx:H_ (∀(j:Nat) y,j<i+1->fs[j]?=some y->y.1≠c):=zy (λj y d hy=>by
     by_cases e:j=i
     .subst e
      rw[hx]at hy
      cases hy
      exact hc
     .exact hn.o j y M_ hy)
    replace hc:=zy hc;generalize x.1=xc at *;go_wp2;go_roundg (fs.length+1-(i+1));case measure=>omega
    case rel=>exact⟨i+1,by simp,rfl,m,l_,nx⟩
  .have s:¬((i:Int)<(fs.length:Int)):=M_;have fin:=zy (A.o (λj y hy=>hn.o j y (by have:=(ae_.1 hy).1;omega) hy));go_wp2;try go_ret
   exact fin
def mP{W:World}{P Q:Nat->Prop}{ba bb w r:Nat}{ta tb:List TR}{ka kb:Nat->KD}{x y:TR}(Za:ZK W P ba ta ka)(Zb:ZK W Q bb tb kb)(hx:ta[w]?=some x)(hy:tb[r]?=some y)(kx:x.kind<256)(ky:y.kind<256):Calls prog 25 #[P_ ba,I_ w,P_ bb,I_ r] W λe w'=>e=.returned (.bool (vO ka kb x.kind y.kind))/\Fr W w' N_:=by
 obtain⟨POST,U⟩:=y_ (λ(e:Ending) (w':World)=>e=.returned (.bool (vO ka kb x.kind y.kind))/\Fr W w' N_);rw[<- U.o];obtain⟨g,cap,sa,sc,c0,c1,-,-,-⟩:=Za.type hx;obtain⟨g',a0,a2,a5,d0,d1,-,-,-⟩:=Zb.type hy;have hw:(w:Int)<(ta.length:Int):=by have:=(ae_.1 hx).1;omega
 have hr:(r:Int)<(tb.length:Int):=by have:=(ae_.1 hy).1;omega
 have N:=zy (kR Za hx kx);have O:=zy (λV (S:Fr W V N_)=>kR (Zb.fr S u_) hy ky);have fin:H_ (∀V b,Fr W V N_->b=vO ka kb x.kind y.kind->POST (.returned (.bool b)) V):=zy (λV b S e=>by rw[U.o,e];exact⟨rfl,S⟩);replace hx:=zy hx;replace hy:=zy hy;generalize x.kind=c at *;generalize y.kind=c' at *;have hv:H_ (vO ka kb c c'=if c=c' then decide ((zM ka c).so=(zM kb c').so)&&(decide ((zM ka c).so≠102)||decide ((zM ka c).n=(zM kb c').n)) else c==105&&c'==108):=zy rfl;by_cases T:c=c'
 .subst T
  generalize zM ka c=d at *;generalize zM kb c=d' at *;have H:H_ (∀V b,Fr W V N_->b=(decide (d.so=d'.so)&&(decide (d.so≠102)||decide (d.n=d'.n)))->POST (.returned (.bool b)) V):=zy (λV b S e=>fin.o V b S (by rw[hv.o,i_ rfl];exact e));obtain⟨so,nv,ov,a3,fs⟩:=d;obtain⟨v,u,J,a4,a1⟩:=d';dsimp only at H N O;by_cases h1:so=v
  .have X:(so==v)=true:=by simp[h1]
   by_cases t:so=102
   .have Y:(so==102)=true:=by simp[t]
    by_cases I:nv=u
    .have e4:(nv==u)=true:=by simp[I]
     have M:H_ (true=(decide (so=v)&&(decide (so≠102)||decide (nv=u)))):=zy (by simp[h1,I]);revert h1 t I;refine h_ λh1 t I=>?_;go_in;go_upto_region 6 with(go_at_call 26;apply N.o.mono;rintro e j ⟨fa,s,fc,sb,rfl,B,-⟩;obtain⟨G,i⟩:=e_ (j.alloc (.cells #[.int .u8 so,.slice fa s fc,.string sb,z_ ov,z_ nv] 44));have h:Fr W G N_:=(by rw[i];exact B.alloc _);have b3:Blk G j.heap.size [.int .u8 so,.slice fa s fc,.string sb,z_ ov,z_ nv] 44:=(by rw[i];exact B_ j _ _);replace i:=zy i);go_upto_region 7 with(go_at_call 26;rw[<- i.o];apply(O.o _ h).mono;rintro e z ⟨C,E,D,F,rfl,p,-⟩;obtain⟨A,a⟩:=e_ (z.alloc (.cells #[.int .u8 v,.slice C E D,.string F,z_ J,z_ u] 44));have q:Fr W A N_:=(by rw[a];exact(h.trans p u_).alloc _);have k:Blk A z.heap.size [.int .u8 v,.slice C E D,.string F,z_ J,z_ u] 44:=(by rw[a];exact B_ z _ _);have m:Blk A j.heap.size [.int .u8 so,.slice fa s fc,.string sb,z_ ov,z_ nv] 44:=(by rw[a];exact(p.bl b3 id).alloc _);replace a:=zy a;have Z:=m.c0;have k4:=m.c4;have m0:=k.c0;have m4:=k.c4;replace q:=zy q);rw[<- a.o];go_wp2;try go_ret
     exact H.o _ _ q M
    .have e4:(nv==u)=false:=by simp[I]
     have M:H_ (false=(decide (so=v)&&(decide (so≠102)||decide (nv=u)))):=zy (by simp[h1,I];omega);revert h1 t I;refine h_ λh1 t I=>?_;go_in;go_upto_region 6 with(go_at_call 26;apply N.o.mono;rintro e j ⟨fa,s,fc,sb,rfl,B,-⟩;obtain⟨G,i⟩:=e_ (j.alloc (.cells #[.int .u8 so,.slice fa s fc,.string sb,z_ ov,z_ nv] 44));have h:Fr W G N_:=(by rw[i];exact B.alloc _);have b3:Blk G j.heap.size [.int .u8 so,.slice fa s fc,.string sb,z_ ov,z_ nv] 44:=(by rw[i];exact B_ j _ _);replace i:=zy i);go_upto_region 7 with(go_at_call 26;rw[<- i.o];apply(O.o _ h).mono;rintro e z ⟨C,E,D,F,rfl,p,-⟩;obtain⟨A,a⟩:=e_ (z.alloc (.cells #[.int .u8 v,.slice C E D,.string F,z_ J,z_ u] 44));have q:Fr W A N_:=(by rw[a];exact(h.trans p u_).alloc _);have k:Blk A z.heap.size [.int .u8 v,.slice C E D,.string F,z_ J,z_ u] 44:=(by rw[a];exact B_ z _ _);have m:Blk A j.heap.size [.int .u8 so,.slice fa s fc,.string sb,z_ ov,z_ nv] 44:=(by rw[a];exact(p.bl b3 id).alloc _);replace a:=zy a;have Z:=m.c0;have k4:=m.c4;have m0:=k.c0;have m4:=k.c4;replace q:=zy q);rw[<- a.o];go_wp2;try go_ret
     exact H.o _ _ q M
   .have Y:(so==102)=false:=by simp[t]
    have M:H_ (true=(decide (so=v)&&(decide (so≠102)||decide (nv=u)))):=zy (by simp[h1];omega);replace h1:=zy h1;replace t:=zy t;go_in;go_upto_region 6 with(go_at_call 26;apply N.o.mono;rintro e j ⟨fa,s,fc,sb,rfl,B,-⟩;obtain⟨G,i⟩:=e_ (j.alloc (.cells #[.int .u8 so,.slice fa s fc,.string sb,z_ ov,z_ nv] 44));have h:Fr W G N_:=(by rw[i];exact B.alloc _);have b3:Blk G j.heap.size [.int .u8 so,.slice fa s fc,.string sb,z_ ov,z_ nv] 44:=(by rw[i];exact B_ j _ _);replace i:=zy i);go_upto_region 7 with(go_at_call 26;rw[<- i.o];apply(O.o _ h).mono;rintro e z ⟨C,E,D,F,rfl,p,-⟩;obtain⟨A,a⟩:=e_ (z.alloc (.cells #[.int .u8 v,.slice C E D,.string F,z_ J,z_ u] 44));have q:Fr W A N_:=(by rw[a];exact(h.trans p u_).alloc _);have k:Blk A z.heap.size [.int .u8 v,.slice C E D,.string F,z_ J,z_ u] 44:=(by rw[a];exact B_ z _ _);have m:Blk A j.heap.size [.int .u8 so,.slice fa s fc,.string sb,z_ ov,z_ nv] 44:=(by rw[a];exact(p.bl b3 id).alloc _);replace a:=zy a;have Z:=m.c0;have m0:=k.c0;replace q:=zy q);rw[<- a.o];go_wp2;try go_ret
    exact H.o _ _ q M
  .have X:(so==v)=false:=by simp[h1]
   have M:H_ (false=(decide (so=v)&&(decide (so≠102)||decide (nv=u)))):=zy (by simp[h1]);replace h1:=zy h1;go_in;go_upto_region 6 with(go_at_call 26;apply N.o.mono;rintro e j ⟨fa,s,fc,sb,rfl,B,-⟩;obtain⟨G,i⟩:=e_ (j.alloc (.cells #[.int .u8 so,.slice fa s fc,.string sb,z_ ov,z_ nv] 44));have h:Fr W G N_:=(by rw[i];exact B.alloc _);have b3:Blk G j.heap.size [.int .u8 so,.slice fa s fc,.string sb,z_ ov,z_ nv] 44:=(by rw[i];exact B_ j _ _);replace i:=zy i);go_upto_region 7 with(go_at_call 26;rw[<- i.o];apply(O.o _ h).mono;rintro e z ⟨C,E,D,F,rfl,p,-⟩;obtain⟨A,a⟩:=e_ (z.alloc (.cells #[.int .u8 v,.slice C E D,.string F,z_ J,z_ u] 44));have q:Fr W A N_:=(by rw[a];exact(h.trans p u_).alloc _);have k:Blk A z.heap.size [.int .u8 v,.slice C E D,.string F,z_ J,z_ u] 44:=(by rw[a];exact B_ z _ _);have m:Blk A j.heap.size [.int .u8 so,.slice fa s fc,.string sb,z_ ov,z_ nv] 44:=(by rw[a];exact(p.bl b3 id).alloc _);replace a:=zy a;have Z:=m.c0;have m0:=k.c0;replace q:=zy q);rw[<- a.o];go_wp2;try go_ret
   exact H.o _ _ q M
 .have e1:((c:Int)==(c':Int))=false:=by simp;omega
  have H:H_ (∀b,b=(c==105&&c'==108)->POST (.returned (.bool b)) W):=zy (λb e=>fin.o W b (A_ _ _) (by rw[hv.o,n_ T];exact e));replace T:=zy T;by_cases h1:c=105
  .have X:((c:Int)==105)=true:=by simp;omega
   by_cases t:c'=108
   .have Y:((c':Int)==108)=true:=by simp;omega
    have f:=zy (H.o true (by simp[h1,t]));replace h1:=zy h1;replace t:=zy t;go_in;go_wp2;try go_ret
    exact f
   .have Y:((c':Int)==108)=false:=by simp;omega
    have f:=zy (H.o false (by simp[t]));replace h1:=zy h1;replace t:=zy t;go_in;go_wp2;try go_ret
    exact f
  .have X:((c:Int)==105)=false:=by simp;omega
   have f:=zy (H.o false (by simp[h1]));replace h1:=zy h1;go_in;go_wp2;try go_ret
   exact f
def XP{W:World}{P Q:Nat->Prop}{ba bb w r:Nat}{ta tb:List TR}{ka kb:Nat->KD}{x y:TR}(Za:ZK W P ba ta ka)(Zb:ZK W Q bb tb kb)(B:ZB tb kb)(hx:ta[w]?=some x)(hy:tb[r]?=some y)(kx:x.kind<256):Calls prog 24 #[P_ ba,I_ w,P_ bb,I_ r] W λe w'=>e=.returned (z_ (pW (yD ka kb tb x.kind y.subs 0 none)))/\Fr W w' N_:=by
 obtain⟨POST,F⟩:=y_ (λ(e:Ending) (w':World)=>e=.returned (z_ (pW (yD ka kb tb x.kind y.subs 0 none)))/\Fr W w' N_);rw[<- F.o];obtain⟨g',N,a0,a7,d0,d1,U,S,-⟩:=Zb.type hy;have hr:(r:Int)<(tb.length:Int):=by have:=(ae_.1 hy).1;omega
 have hw:(w:Int)<(ta.length:Int):=by have:=(ae_.1 hx).1;omega
 have sf:=B.sfew r y hy;obtain⟨m,C,c0,c1⟩:∃m C,W.cell? ⟨ba,0,none⟩=some (S_ m ta.length C)/\W.cell? ⟨m,w*2,none⟩=some (U_ x.kind):=by
  obtain⟨g,cap,sa,sc,c0,c1,_⟩:=Za.type hx;exact⟨g,cap,c0,c1⟩
 have item:H_ (∀V (i j:Nat),Fr W V N_->y.subs[i]?=some j->∃z s,tb[j]?=some z/\a0=some ⟨s,0,none⟩/\V.cell? ⟨s,i,none⟩=some (I_ j)/\V.cell? ⟨bb,0,none⟩=some (S_ g' tb.length N)/\V.cell? ⟨g',j*2,none⟩=some (U_ z.kind)/\V.cell? ⟨ba,0,none⟩=some (S_ m ta.length C)/\V.cell? ⟨m,w*2,none⟩=some (U_ x.kind)/\j<tb.length/\Calls prog 25 #[P_ ba,I_ w,P_ bb,I_ j] V λe w'=>e=.returned (.bool (vO ka kb x.kind z.kind))/\Fr V w' N_):=zy (λV i j a hi=>by
  have a2:=(ae_.1 hi).1
  have A:=B.subs r y hy j (aj_ hi)
  obtain⟨z,hz⟩:∃z,tb[j]?=some z:=⟨_,af_ A⟩
  have o1:=zj S a u_
  obtain⟨s,cap,e⟩:=zm o1 M_
  cases e
  have M:=Zb.fr a u_
  have T:=Za.fr a u_
  obtain⟨g2,a1,a6,a8,O,H,_⟩:=M.type hz
  have G:=a.ke d0
  rw[O]at G
  simp only[ah_,Value.slice.injEq,Addr.mk.injEq,and_true,true_and]at G
  obtain⟨rfl,rfl⟩:=G
  exact⟨z,s,hz,rfl,zr o1 rfl (by rw[aq_,hi];rfl),O,H,a.ke c0,a.ke c1,A,mP T M hx hz kx (B.kind j z hz)⟩)
 have fin:H_ (∀V k,Fr W V N_->yD ka kb tb x.kind [] y.subs.length k=yD ka kb tb x.kind y.subs 0 none->POST (.returned (z_ (pW k))) V):=zy (λV k a e=>by
  have e':k=yD ka kb tb x.kind y.subs 0 none:=e
  rw[F.o,<- e']
  exact⟨rfl,a⟩)
 replace hx:=zy hx;replace hy:=zy hy;generalize x.kind=c at *;generalize D:yD ka kb tb c y.subs 0 none=tot at *;replace D:=zy D;go_in;go_wp2;go_loopg [10,11] (y.subs.length+1) (λmm v u V=>∃(i:Nat) (k:Option Nat),v=z_ (pW k)/\u=I_ i/\H_ (Fr W V N_)/\i<=y.subs.length/\y.subs.length+1-i<=mm/\H_ (yD ka kb tb c (y.subs.drop i) i k=tot));case atStart=>exact⟨0,none,rfl,rfl,zy (A_ _ _),al_ _,M_,D⟩
 case round=>
  obtain⟨i,k,rfl,rfl,a,hi,a4,hs⟩:=hrel;by_cases n:i<y.subs.length
  .have Y:(i:Int)<(y.subs.length:Int):=M_;obtain⟨j,A⟩:∃j,y.subs[i]?=some j:=⟨_,af_ n⟩;obtain⟨z,s,hz,rfl,Z,k2,k3,k4,k5,k6,h⟩:=item.o wr i j a A;have E:H_ (∀V,Fr wr V N_->V.cell? ⟨s,i,none⟩=some (I_ j)/\V.cell? ⟨bb,0,none⟩=some (S_ g' tb.length N)/\V.cell? ⟨g',j*2,none⟩=some (U_ z.kind)/\V.cell? ⟨ba,0,none⟩=some (S_ m ta.length C)/\V.cell? ⟨m,w*2,none⟩=some (U_ c)/\H_ (Fr W V N_)):=zy (λV hf=>⟨hf.ke Z,hf.ke k2,hf.ke k3,hf.ke k4,hf.ke k5,zy (a.o.trans hf u_)⟩);have a5:(j:Int)<(tb.length:Int):=M_;have hk:(tb.getD j ⟨0,[]⟩).kind=z.kind:=by rw[ap_,hz];rfl
   have d:H_ (yD ka kb tb c (y.subs.drop (i+1)) (i+1) (if (vO ka kb c z.kind&&(k.isNone||z.kind==c))=true then some i else k)=tot):=zy (by
    have:=af_ n
    rw[A]at this
    cases this
    rw[<- hs.o,ba_ n]
    conv=>rhs;unfold yD
    rw[hk])
   replace h:=zy h;generalize z.kind=c' at *;cases hm:vO ka kb c c'
   .rw[hm]at d h;have nx:H_ (yD ka kb tb c (y.subs.drop (i+1)) (i+1) k=tot):=d;replace hm:=zy hm;go_wp2_with (go_at_call 25;apply h.o.mono;rintro e q ⟨rfl,b⟩;obtain⟨I,J,q3,K,L,p⟩:=E.o q b);go_quiet (fail);go_wp2;go_roundg (y.subs.length+1-(i+1));case measure=>omega
    case rel=>exact⟨i+1,k,rfl,by simp,zy (p.o.si (zq.drewN _ _)),n,l_,nx⟩
   .rw[hm]at d h;replace hm:=zy hm;cases k with
    |none=>
     have nx:H_ (yD ka kb tb c (y.subs.drop (i+1)) (i+1) (some i)=tot):=d;have X:pW none = -1:=rfl;go_wp2_with (go_at_call 25;apply h.o.mono;rintro e q ⟨rfl,b⟩;obtain⟨I,J,q3,K,L,p⟩:=E.o q b);go_quiet (fail);go_wp2;go_roundg (y.subs.length+1-(i+1));case measure=>omega
     case rel=>exact⟨i+1,some i,rfl,by simp,zy (p.o.si (zq.drewN _ _)),n,l_,nx⟩
    |some k0=>
     have X:pW (some k0)=(k0:Int):=rfl;have a3:¬((k0:Int)<0):=M_;by_cases t:c'=c
     .have H:((c':Int)==(c:Int))=true:=by simp;omega
      have nx:H_ (yD ka kb tb c (y.subs.drop (i+1)) (i+1) (some i)=tot):=zy (by have:=d.o;simpa[t] using this);replace t:=zy t;go_wp2_with (go_at_call 25;apply h.o.mono;rintro e q ⟨rfl,b⟩;obtain⟨I,J,q3,K,L,p⟩:=E.o q b);go_quiet (fail);go_wp2;go_roundg (y.subs.length+1-(i+1));case measure=>omega
      case rel=>exact⟨i+1,some i,rfl,by simp,zy (p.o.si (zq.drewN _ _)),n,l_,nx⟩
     .have H:((c':Int)==(c:Int))=false:=by simp;omega
      have nx:H_ (yD ka kb tb c (y.subs.drop (i+1)) (i+1) (some k0)=tot):=zy (by have:=d.o;simpa[t] using this);replace t:=zy t;go_wp2_with (go_at_call 25;apply h.o.mono;rintro e q ⟨rfl,b⟩;obtain⟨I,J,q3,K,L,p⟩:=E.o q b);go_quiet (fail);go_wp2;go_roundg (y.subs.length+1-(i+1));case measure=>omega
      case rel=>exact⟨i+1,some k0,rfl,by simp,zy (p.o.si (zq.drewN _ _)),n,l_,nx⟩
  .have Y:¬((i:Int)<(y.subs.length:Int)):=M_;obtain rfl:i=y.subs.length:=M_;have f:=zy (fin.o wr k a (by rw[ca_ l_]at hs;exact hs));go_wp2;try go_ret
   exact f
structure PK(W:World)(P Q:Nat->Prop)(bp ba bb:Nat)(ta tb:List TR)(ka kb:Nat->KD)(lv fv:Value)(l f:List Nat):Prop where
 b:Blk W bp [P_ ba,P_ bb,lv,fv] 49
 Za:ZK W P ba ta ka
 Zb:ZK W Q bb tb kb
 rl:bk W lv l
 rf:bk W fv f
 ll:l.length=ta.length
 fl:f.length=ta.length*tb.length
def PK.fr{W W':World}{P Q S:Nat->Prop}{bp ba bb:Nat}{ta tb:List TR}{ka kb:Nat->KD}{lv fv:Value}{l f:List Nat}(h:PK W P Q bp ba bb ta tb ka kb lv fv l f)(hf:Fr W W' S)(hP:∀g,P g->¬S g)(hQ:∀g,Q g->¬S g)(hb:¬S bp)(hl:∀g,lv.ownBlock=some g->¬S g)(hv:∀g,fv.ownBlock=some g->¬S g):PK W' P Q bp ba bb ta tb ka kb lv fv l f:=
 ⟨hf.bl h.b hb,h.Za.fr hf hP,h.Zb.fr hf hQ,h.rl.fr hf hl,h.rf.fr hf hv,h.ll,h.fl⟩
def PK.new{W W':World}{P Q:Nat->Prop}{bp ba bb:Nat}{ta tb:List TR}{ka kb:Nat->KD}{lv fv:Value}{l f:List Nat}(h:PK W P Q bp ba bb ta tb ka kb lv fv l f)(hf:Fr W W' N_):PK W' P Q bp ba bb ta tb ka kb lv fv l f:=h.fr hf u_ u_ id u_ u_
def prK(tb:List TR)(f:List Nat)(w r:Nat):Nat:=lnK f (w*tb.length+r)
def Jp{a b w r:Nat}(hw:w<a)(hr:r<b):w*b+r<a*b:=by
 have h1:(w+1)*b<=a*b:=b6_ b hw;rw[Nat.add_mul]at h1;omega
def dD{W:World}{P Q:Nat->Prop}{bp ba bb w r:Nat}{ta tb:List TR}{ka kb:Nat->KD}{lv fv:Value}{l f:List Nat}(K:PK W P Q bp ba bb ta tb ka kb lv fv l f)(hw:w<ta.length)(hr:r<tb.length)(s:ta.length<=300)(t:tb.length<=300):Calls prog 13 #[P_ bp,I_ w,I_ r] W λe w'=>e=.returned (z_ (prK tb f w r:Int))/\∃n,w'=W.drewN n:=by
 obtain⟨POST,a⟩:=y_ (λ(e:Ending) (w':World)=>e=.returned (z_ (prK tb f w r:Int))/\∃n,w'=W.drewN n);rw[<- a.o];have c1:=K.b.cell 1;have c3:=K.b.cell 3;obtain⟨y,hy⟩:∃y,tb[r]?=some y:=⟨_,af_ hr⟩;obtain⟨g',z,B,C,d0,-,-,-,-⟩:=K.Zb.type hy;have d:=Jp hw hr;obtain⟨gf,cf,rfl,u,v⟩:=K.rf.at (k:=w*tb.length+r) (by rw[K.fl];exact d);simp only[aa_,ab_]at c1 c3;have i:=K.fl;have j:w*tb.length+r<90000:=by
  have:ta.length*tb.length<=300*300:=Nat.mul_le_mul s t;omega
 have fin:H_ (∀n,POST (.returned (z_ (lnK f (w*tb.length+r):Int))) (W.drewN n)):=zy (λn=>by rw[a.o];exact⟨rfl,n,rfl⟩);obtain⟨q,h⟩:∃q:Nat,q=w*tb.length+r:=⟨_,rfl⟩;obtain⟨p,hp⟩:∃p:Nat,p=w*tb.length:=⟨_,rfl⟩;have g:(w:Int)*(tb.length:Int)=(p:Int):=by rw[hp];simp
 have m:q=p+r:=M_;have A:(q:Int)<(f.length:Int):=M_;have w1:wrap64 ((w:Int)*(tb.length:Int))=(p:Int):=by rw[g];unfold wrap64;omega
 have D:wrap64 ((p:Int)+(r:Int))=(q:Int):=by unfold wrap64;omega
 rw[<- h]at u v fin;replace h:=zy h;replace hp:=zy hp;replace g:=zy g;replace m:=zy m;replace d:=zy d;replace i:=zy i;replace j:=zy j;go_in;go_wp2;go_quiet (fail);go_wp2;try go_ret
 exact fin.o _
def bk.le602{W:World}{lv:Value}{l:List Nat}(h:bk W lv l)(k:Nat):lnK l k<=602:=by
 unfold lnK;rw[ap_];cases hk:l[k]? with
 |none=>exact l_
 |some x=>exact h.2 x (aj_ hk)
def dU{V:World}{p x:Nat}{fn:FuncId}{a:Array Value}{v:Value}(h:Calls prog fn a (V.drewN (p+x)) λe w'=>e=.returned v/\∃n,w'=(V.drewN (p+x)).drewN n):Calls prog fn a (V.drewN (p+x)) λe d=>e=.returned v/\∃n,d=V.drewN (p+n):=
 h.mono (λe w' k=>by
  obtain⟨h1,n,b⟩:=k
  exact⟨h1,x+n,by rw[b,World.drewN_drewN,br_]⟩)
def Xi{W:World}{P Q:Nat->Prop}{bp ba bb w:Nat}{ta tb:List TR}{ka kb:Nat->KD}{lv fv:Value}{l f:List Nat}{d e:KD}{a0 S a2 a3 a4 b0 b1 b2 b3 b4:Value}(K:PK W P Q bp ba bb ta tb ka kb lv fv l f)(hw:w<ta.length)(h3:ta.length<=300)(b9:tb.length<=300)(hd:KDv W P d a0 S a2 a3 a4)(he:KDv W Q e b0 b1 b2 b3 b4)(Y:∀x∈d.fs,x.2.1<ta.length)(a9:∀x∈e.fs,x.2.1<tb.length)(a6:d.fs.length<=300)(e3:e.fs.length<=300):Calls prog 28 #[P_ bp,I_ w,.agg #[a0,S,a2,a3,a4],.agg #[b0,b1,b2,b3,b4]] W λx w'=>x=.returned (z_ (ug (lnK l) (prK tb f) w d.fs e.fs:Int))/\Fr W w' N_:=by
 obtain⟨POST,O⟩:=y_ (λ(x:Ending) (w':World)=>x=.returned (z_ (ug (lnK l) (prK tb f) w d.fs e.fs:Int))/\Fr W w' N_);rw[<- O.o];have U:=hd;have a7:=he;obtain⟨rfl,X,⟨D,rfl,_,_⟩,rfl,rfl⟩:=hd;obtain⟨rfl,a8,⟨T,rfl,_,_⟩,rfl,rfl⟩:=he;obtain⟨p,q,rfl⟩:∃p q,S=.slice p d.fs.length q:=by obtain⟨xs,h1,_⟩:=X;exact zl h1
 obtain⟨E,H,rfl⟩:∃E H,b1=.slice E e.fs.length H:=by obtain⟨xs,h1,_⟩:=a8;exact zl h1
 obtain⟨la,lc,rfl⟩:∃la lc,lv=.slice la l.length lc:=zl K.rl.1;obtain⟨w1,J⟩:=e_ ((W.alloc (.cells #[.int .u8 d.so,.slice p d.fs.length q,.string D,z_ d.o,z_ d.n] 44)).alloc (.cells #[.int .u8 e.so,.slice E e.fs.length H,.string T,z_ e.o,z_ e.n] 44));have s:Fr W w1 N_:=by rw[J];exact((A_ W _).alloc _).alloc _
 have B0:Blk w1 W.heap.size [.int .u8 d.so,.slice p d.fs.length q,.string D,z_ d.o,z_ d.n] 44:=by rw[J];exact(B_ W _ _).alloc _
 have B1:Blk w1 (W.heap.size+1) [.int .u8 e.so,.slice E e.fs.length H,.string T,z_ e.o,z_ e.n] 44:=by
  rw[J];have:=B_ (W.alloc (.cells #[.int .u8 d.so,.slice p d.fs.length q,.string D,z_ d.o,z_ d.n] 44)) #[.int .u8 e.so,.slice E e.fs.length H,.string T,z_ e.o,z_ e.n] 44;rw[show(W.alloc (.cells #[.int .u8 d.so,.slice p d.fs.length q,.string D,z_ d.o,z_ d.n] 44)).heap.size=W.heap.size+1 by show(W.heap.push _).size=_;simp]at this;exact this
 have cel:H_ (∀V,Fr w1 V N_->V.cell? ⟨W.heap.size,0,none⟩=some (.int .u8 d.so)/\V.cell? ⟨W.heap.size,1,none⟩=some (.slice p d.fs.length q)/\V.cell? ⟨W.heap.size,2,none⟩=some (.string D)/\V.cell? ⟨W.heap.size,3,none⟩=some (z_ d.o)/\V.cell? ⟨W.heap.size,4,none⟩=some (z_ d.n)/\V.cell? ⟨W.heap.size+1,1,none⟩=some (.slice E e.fs.length H)/\V.cell? ⟨bp,2,none⟩=some (.slice la l.length lc)):=zy (λV h=>by
  have A:=h.bl B0 id
  have B:=h.bl B1 id
  have C:=(h.bl (s.bl K.b id) id)
  exact⟨A.cell 0,A.cell 1,A.cell 2,A.cell 3,A.cell 4,B.cell 1,C.cell 2⟩)
 have item:H_ (∀V (i:Nat) (x:Nat×Nat×Bool),Fr w1 V N_->e.fs[i]?=some x->∃g,E=some ⟨g,0,none⟩/\V.cell? ⟨g,i*10,none⟩=some (U_ x.1)/\V.cell? ⟨g,i*10+1,none⟩=some (I_ x.2.1)/\V.cell? ⟨g,i*10+2,none⟩=some (.bool x.2.2)):=zy (λV i x h hi=>by
  obtain⟨g,cap,eq,A,B,C⟩:=(a7.fr (s.trans h u_) u_).2.1.at hi
  cases eq
  exact⟨g,rfl,A,B,C⟩)
 have e2:H_ (∀V c,Fr w1 V N_->Calls prog 42 #[.slice p d.fs.length q,.int .u8 ((c:Nat):Int)] V λx w'=>x=.returned (z_ (pW (jT d.fs c)))/\w'=V):=zy (λV c h=>XQ (X.fr (s.trans h u_) u_) a6);have lw:H_ (∀V,Fr w1 V N_->∃gl,la=some ⟨gl,0,none⟩/\V.cell? ⟨gl,w,none⟩=some (z_ (lnK l w:Int))/\lnK l w<=602):=zy (λV h=>by
  obtain⟨gl,cap,eq,B,C⟩:=(K.rl.fr (s.trans h u_) u_).at (k:=w) (by rw[K.ll];exact hw)
  cases eq
  exact⟨gl,rfl,B,C⟩)
 have dk:H_ (∀V (k:Nat) (x:Nat×Nat×Bool),Fr w1 V N_->d.fs[k]?=some x->∃g,p=some ⟨g,0,none⟩/\V.cell? ⟨g,k*10+1,none⟩=some (I_ x.2.1)):=zy (λV i x h hi=>by
  obtain⟨g,cap,eq,_,B,_⟩:=(U.fr (s.trans h u_) u_).2.1.at hi
  cases eq
  exact⟨g,rfl,B⟩)
 have pat:H_ (∀V (x y:Nat×Nat×Bool),Fr w1 V N_->x∈d.fs->y∈e.fs->Calls prog 13 #[P_ bp,I_ x.2.1,I_ y.2.1] V λz w'=>z=.returned (z_ (prK tb f x.2.1 y.2.1:Int))/\∃n,w'=V.drewN n):=zy (λV x y h hx hy=>dD (K.new (s.trans h u_)) (Y x hx) (a9 y hy) h3 b9);have ple:H_ (∀a b,prK tb f a b<=602):=zy (λa b=>K.rf.le602 _);have flds:H_ (∀V (k n:Nat),Fr w1 V N_->n<=602->Calls prog 41 #[.slice la l.length lc,.agg #[.int .u8 d.so,.slice p d.fs.length q,.string D,z_ d.o,z_ d.n],I_ k,I_ n] V λx w'=>∃r:Nat,x=.returned (I_ r)/\r=kT n (((d.fs.map λx=>x.2.1).eraseIdx k).map (lnK l))/\Fr w1 w' N_):=zy (λV k n h hn=>by
  apply(mE (skip:=(k:Int)) (n:=n) (K.rl.fr (s.trans h u_) u_) (U.fr (s.trans h u_) u_) (λx hx=>by rw[K.ll];exact Y x hx) hn a6).mono
  rintro x w' ⟨rfl,hf⟩
  refine⟨_,rfl,?_,h.trans hf u_⟩
  have:=su (d.fs.map λx=>x.2.1) 0 k
  rw[bn_]at this
  rw[this])
 have fin:H_ (∀V n,Fr w1 V N_->([]:List (Nat×Nat×Bool)).foldl (kV (lnK l) (prK tb f) w d.fs) n=ug (lnK l) (prK tb f) w d.fs e.fs->POST (.returned (z_ ((n:Nat):Int))) V):=zy (λV n h eq=>by
  have b8:n=ug (lnK l) (prK tb f) w d.fs e.fs:=eq
  rw[O.o,<- b8]
  exact⟨rfl,s.trans h u_⟩)
 have step:H_ (∀(i m:Nat) (x:Nat×Nat×Bool),e.fs[i]?=some x->(e.fs.drop i).foldl (kV (lnK l) (prK tb f) w d.fs) m=(e.fs.drop (i+1)).foldl (kV (lnK l) (prK tb f) w d.fs) (kV (lnK l) (prK tb f) w d.fs m x)):=zy (λi m x hi=>by
  have t:=(ae_.1 hi).1
  have:=af_ t
  rw[hi]at this
  cases this
  rw[ba_ t]
  rfl)
 have d6:=K.ll;have e7:(w:Int)<(l.length:Int):=M_;clear U a7 X a8 s B0 B1 K O Y a9 d6;generalize M:ug (lnK l) (prK tb f) w d.fs e.fs=tot at *;replace M:=zy (show e.fs.foldl (kV (lnK l) (prK tb f) w d.fs) 602=tot from M);replace J:=zy J;generalize d.so=dso at *;generalize d.o=dov at *;generalize d.n=dnv at *;generalize e.so=eso at *;generalize e.o=eov at *;generalize e.n=env at *;have c7:=(cel.o w1 (A_ _ _)).2.2.2.2.2.1;go_in;go_upto_region 1 with fail;rw[<- J.o];go_wp2_with fail;go_loopg [9,10] (e.fs.length+1) (λmm v u V=>∃(i m:Nat),v=I_ m/\u=I_ i/\H_ (Fr w1 V N_)/\i<=e.fs.length/\e.fs.length+1-i<=mm/\m<=602/\H_ ((e.fs.drop i).foldl (kV (lnK l) (prK tb f) w d.fs) m=tot));case atStart=>exact⟨0,602,rfl,rfl,zy (A_ _ _),al_ _,M_,M_,M⟩
 case round=>
  clear M c7;obtain⟨i,m,rfl,rfl,h,hi,e6,a1,hs⟩:=hrel;obtain⟨c0,c1,c2,c3,c4,c7,c8⟩:=cel.o wr h.o;by_cases t:i<e.fs.length
  .have d7:(i:Int)<(e.fs.length:Int):=M_;obtain⟨x,hx⟩:∃x,e.fs[i]?=some x:=⟨_,af_ t⟩;obtain⟨g,rfl,A,B,C⟩:=item.o wr i x h.o hx;have j:=step.o i m x hx;rw[hs.o]at j;have I:H_ (∀n,Calls prog 42 #[.slice p d.fs.length q,U_ x.1] (wr.drewN n) λx' w'=>x'=.returned (z_ (pW (jT d.fs x.1)))/\w'=wr.drewN n):=zy (λn=>e2.o _ _ (h.o.si (zq.drewN _ _)));have e1:=aj_ hx;have b5:kV (lnK l) (prK tb f) w d.fs m x=match jT d.fs x.1 with|none=>if x.2.2=true then m else min m (lnK l w)|some k=>min m (kT (yq 1 (prK tb f (d.fs.getD k (0,0,false)).2.1 x.2.1)) (((d.fs.map λx=>x.2.1).eraseIdx k).map (lnK l))):=rfl
   rw[b5]at j;clear b5;cases hk:jT d.fs x.1 with
   |none=>
    rw[hk]at j I;dsimp only at j;have ek:pW none = -1:=rfl;replace hk:=zy hk;obtain⟨gl,rfl,j1,j2⟩:=lw.o wr h.o;cases hb:x.2.2
    .rw[hb]at j C;rw[n_ D_]at j;clear hs hx hb;generalize x.1=xc at *;generalize x.2.1=xn at *;generalize lnK l w=lx at *;by_cases d8:lx<m
     .have Z:(lx:Int)<(m:Int):=M_;have mN:min (m:Int) (lx:Int)=lx:=Int.min_eq_right M_;rw[Nat.min_eq_right M_]at j;have nx:=zy j.symm;clear j;go_wp2_with fail;go_quiet (first|(go_at_call 42;exact Calls.quiet_of_same (I.o _)));go_wp2_with fail;go_roundg (e.fs.length+1-(i+1));case measure=>omega
      case rel=>exact⟨i+1,lx,rfl,by simp,zy (h.o.si (zq.drewN _ _)),t,l_,j2,nx⟩
     .have Z:¬((lx:Int)<(m:Int)):=M_;have mN:min (m:Int) (lx:Int)=m:=Int.min_eq_left M_;rw[Nat.min_eq_left M_]at j;have nx:=zy j.symm;clear j;go_wp2_with fail;go_quiet (first|(go_at_call 42;exact Calls.quiet_of_same (I.o _)));go_wp2_with fail;go_roundg (e.fs.length+1-(i+1));case measure=>omega
      case rel=>exact⟨i+1,m,rfl,by simp,zy (h.o.si (zq.drewN _ _)),t,l_,a1,nx⟩
    .rw[hb]at j C;rw[i_ rfl]at j;have nx:=zy j.symm;clear j hs hx hb;generalize x.1=xc at *;generalize x.2.1=xn at *;go_wp2_with fail;go_quiet (first|(go_at_call 42;exact Calls.quiet_of_same (I.o _)));go_wp2_with fail;go_roundg (e.fs.length+1-(i+1));case measure=>omega
     case rel=>exact⟨i+1,m,rfl,by simp,zy (h.o.si (zq.drewN _ _)),t,l_,a1,nx⟩
   |some k=>
    rw[hk]at j I;dsimp only at j;have ek:pW (some k)=(k:Int):=rfl;have e4:¬((k:Int)<0):=M_;have d2:k<d.fs.length:=by
     unfold jT at hk;obtain⟨h1,_⟩:=List.findIdx?_eq_some_iff_getElem.1 hk;simpa using h1
    have e5:(k:Int)<(d.fs.length:Int):=M_;obtain⟨G,N⟩:∃y,d.fs[k]?=some y:=⟨_,af_ d2⟩;have a5:d.fs.getD k (0,0,false)=G:=by rw[ap_,N];rfl
    rw[a5]at j;obtain⟨gd,rfl,g1⟩:=dk.o wr k G h.o N;have hA:H_ (∀V,Fr wr V N_->Calls prog 13 #[P_ bp,I_ G.2.1,I_ x.2.1] V λz w'=>z=.returned (z_ (prK tb f G.2.1 x.2.1:Int))/\∃n',w'=V.drewN n'):=zy (λV hf=>pat.o _ _ _ (h.o.trans hf u_) (aj_ N) e1);have d9:=ple.o G.2.1 x.2.1;have hP:=zy (λV=>qP (a:=1) M_ d9 V);have e0:=@sG 1 (prK tb f G.2.1 x.2.1);replace hk:=zy hk;clear hs hx N a5;generalize x.1=xc at *;generalize x.2.1=xn at *;generalize G.2.1=dn at *;generalize prK tb f dn xn=pr at *;generalize yq 1 pr=ps at *;have hF:=zy (λV h=>flds.o V k ps h e0);replace j:=zy j;go_wp2_with fail;go_quiet (first|(go_at_call 42;exact Calls.quiet_of_same (I.o _)));go_wp2_with fail;go_quiet (first|(go_at_call 13;exact dU (hA.o _ ((A_ _ _).si (zq.drewN _ _)))));go_wp2_with (go_at_call 23;apply(hP.o _).mono;rintro x' w2 ⟨rfl,b7⟩;rw[b7];clear b7);refine tr_ 8 (λV=>f_ V bp 2 (.slice la l.length lc)/\f_ V W.heap.size 0 (.int .u8 dso)/\f_ V W.heap.size 1 (S_ gd d.fs.length q)/\f_ V W.heap.size 2 (.string D)/\f_ V W.heap.size 3 (z_ dov)/\f_ V W.heap.size 4 (z_ dnv)) ?_;refine tz_ 0 ?_;refine tz_ 1 ?_;refine tz_ 2 ?_;refine tz_ 3 ?_;refine tz_ 4 ?_;refine tz_ 5 ?_;refine tz_ 6 ?_;refine zw 7 rfl K_ (λ_=>⟨c8,c0,c1,c2,c3,c4⟩) (λK hK=>?_);go_simp;apply(hF.o _ (by first|exact(h.o.si (zq.drewN _ _)).drew|exact h.o.si (zq.drewN _ _))).mono;rintro x' w2 ⟨L,rfl,b6,F⟩;refine hK _ _ ?_;clear hK K;obtain⟨q0,q1,q2,q3,q4,q7,q8⟩:=cel.o w2 F;have nx:H_ ((e.fs.drop (i+1)).foldl (kV (lnK l) (prK tb f) w d.fs) (min m L)=tot):=zy (by rw[b6];exact j.o.symm);replace F:=zy F;clear b6 j;refine t1_ 8 ⟨q8,q0,q1,q2,q3,q4⟩ ?_;refine td_ ?_ _;by_cases d8:L<m
    .have Z:(L:Int)<(m:Int):=M_;have mN:min (m:Int) (L:Int)=L:=Int.min_eq_right M_;rw[Nat.min_eq_right M_]at nx;go_wp2_with fail;go_roundg (e.fs.length+1-(i+1));case measure=>omega
     case rel=>exact⟨i+1,L,rfl,by simp,(by first|exact F|exact zy F.o.drew),t,l_,M_,nx⟩
    .have Z:¬((L:Int)<(m:Int)):=M_;have mN:min (m:Int) (L:Int)=m:=Int.min_eq_left M_;rw[Nat.min_eq_left M_]at nx;go_wp2_with fail;go_roundg (e.fs.length+1-(i+1));case measure=>omega
     case rel=>exact⟨i+1,m,rfl,by simp,(by first|exact F|exact zy F.o.drew),t,l_,a1,nx⟩
  .have d7:¬((i:Int)<(e.fs.length:Int)):=M_;obtain rfl:i=e.fs.length:=M_;have f1:=zy (fin.o wr m h.o (by rw[ca_ l_]at hs;exact hs.o));clear hs fin;go_wp2_with fail;try go_ret
   exact f1.o
def iI{ka kb:Nat->KD}{tb:List TR}:∀{js:List Nat}{i:Nat}{k0:Option Nat}{k:Nat},yD ka kb tb c js i k0=some k->k0=some k\/(i<=k/\k<i+js.length)
 | [],i,k0,k,h=>.inl h
 |j::js,i,k0,k,h=>by
  unfold yD at h;rcases iI h with e|⟨h1,a⟩
  .split at e
   .cases e;exact .inr ⟨l_,by simp⟩
   .exact .inl e
  .exact .inr ⟨M_,by simp only[a6_];omega⟩
structure PB2(ta tb:List TR)(ka kb:Nat->KD):Prop where
 a:ZB ta ka
 b:ZB tb kb
structure FM(W w1:World)(bp ba bb:Nat)(ta tb:List TR)(ka kb:Nat->KD)(la fa:Option Addr)(lc fc:Nat)(l f:List Nat)(w r:Nat)(x y:TR)(sx sy:Option Addr)(cx cy:Nat):Prop where
 fr:Fr W w1 N_
 cel:∀V,Fr w1 V N_->V.cell? ⟨bp,0,none⟩=some (P_ ba)/\V.cell? ⟨bp,1,none⟩=some (P_ bb)/\V.cell? ⟨bp,2,none⟩=some (.slice la l.length lc)/\V.cell? ⟨W.heap.size,0,none⟩=some (U_ x.kind)/\V.cell? ⟨W.heap.size,1,none⟩=some (.slice sx x.subs.length cx)/\V.cell? ⟨W.heap.size+1,0,none⟩=some (U_ y.kind)/\V.cell? ⟨W.heap.size+1,1,none⟩=some (.slice sy y.subs.length cy)
 lw:∀V,Fr w1 V N_->∃gl,la=some ⟨gl,0,none⟩/\V.cell? ⟨gl,w,none⟩=some (z_ (lnK l w:Int))/\w<l.length
 pat:∀V a b,Fr w1 V N_->a<ta.length->b<tb.length->Calls prog 13 #[P_ bp,z_ ((a:Nat):Int),z_ ((b:Nat):Int)] V λz w'=>z=.returned (z_ (prK tb f a b:Int))/\∃n,w'=V.drewN n
 sub:∀V (i j:Nat),Fr w1 V N_->x.subs[i]?=some j->∃g,sx=some ⟨g,0,none⟩/\V.cell? ⟨g,i,none⟩=some (I_ j)/\j<ta.length
 sub':∀V (i j:Nat),Fr w1 V N_->y.subs[i]?=some j->∃g,sy=some ⟨g,0,none⟩/\V.cell? ⟨g,i,none⟩=some (I_ j)/\j<tb.length
 fst:∀V,Fr w1 V N_->Calls prog 24 #[P_ ba,I_ w,P_ bb,I_ r] V λe w'=>e=.returned (z_ (pW (yD ka kb tb x.kind y.subs 0 none)))/\Fr V w' N_
 mat:∀V,Fr w1 V N_->Calls prog 25 #[P_ ba,I_ w,P_ bb,I_ r] V λe w'=>e=.returned (.bool (vO ka kb x.kind y.kind))/\Fr V w' N_
 ple:∀a b,prK tb f a b<=602
 lle:∀a,lnK l a<=602
section
variable {W w1:World} {P Q:Nat->Prop} {bp ba bb w r:Nat} {ta tb:List TR} {ka kb:Nat->KD} {lv fv:Value} {l f:List Nat} {x y:TR} {POST:Ending->World->Prop}
def Gj(K:PK W P Q bp ba bb ta tb ka kb lv fv l f)(B:PB2 ta tb ka kb)(hx:ta[w]?=some x)(hy:tb[r]?=some y):∃m p n q sx cx sy cy la lc fa fc,lv=.slice la l.length lc/\fv=.slice fa f.length fc/\W.cell? ⟨bp,0,none⟩=some (P_ ba)/\W.cell? ⟨bp,1,none⟩=some (P_ bb)/\W.cell? ⟨ba,0,none⟩=some (S_ m ta.length p)/\W.cell? ⟨bb,0,none⟩=some (S_ n tb.length q)/\W.cell? ⟨m,w*2,none⟩=some (U_ x.kind)/\W.cell? ⟨m,w*2+1,none⟩=some (.slice sx x.subs.length cx)/\W.cell? ⟨n,r*2,none⟩=some (U_ y.kind)/\W.cell? ⟨n,r*2+1,none⟩=some (.slice sy y.subs.length cy)/\
 ∀w1,w1=(W.alloc (.cells #[U_ x.kind,.slice sx x.subs.length cx] 75)).alloc (.cells #[U_ y.kind,.slice sy y.subs.length cy] 75)->FM W w1 bp ba bb ta tb ka kb la fa lc fc l f w r x y sx sy cx cy:=by
 have hw:=(ae_.1 hx).1;obtain⟨m,p,sx,cx,c0,c1,c2,c3,_⟩:=K.Za.type hx;obtain⟨n,q,sy,cy,d0,d1,A,d3,_⟩:=K.Zb.type hy;obtain⟨la,lc,rfl⟩:=zl K.rl.1;obtain⟨fa,fc,rfl⟩:=zl K.rf.1;refine⟨m,p,n,q,sx,cx,sy,cy,la,lc,fa,fc,rfl,rfl,K.b.cell 0,K.b.cell 1,c0,d0,c1,c2,d1,A,λw1 s=>?_⟩;have t:Fr W w1 N_:=by rw[s];exact((A_ W _).alloc _).alloc _
 have v:Blk w1 W.heap.size [U_ x.kind,.slice sx x.subs.length cx] 75:=by rw[s];exact(B_ W _ _).alloc _
 have z:Blk w1 (W.heap.size+1) [U_ y.kind,.slice sy y.subs.length cy] 75:=by
  rw[s];have:=B_ (W.alloc (.cells #[U_ x.kind,.slice sx x.subs.length cx] 75)) #[U_ y.kind,.slice sy y.subs.length cy] 75;rw[show(W.alloc (.cells #[U_ x.kind,.slice sx x.subs.length cx] 75)).heap.size=W.heap.size+1 by show(W.heap.push _).size=_;simp]at this;exact this
 have h:=λV (d:Fr w1 V N_)=>t.trans d u_;refine⟨t,λV d=>?_,λV d=>?_,λV a b d ha hb=>dD (K.new (h V d)) ha hb B.a.len B.b.len,λV i j d hi=>?_,λV i j d hi=>?_,λV d=>?_,λV d=>?_,λa b=>K.rf.le602 _,λa=>K.rl.le602 _⟩
 .have k:=(h V d).bl K.b id;have u:=d.bl v id;have o:=d.bl z id;exact⟨k.cell 0,k.cell 1,k.cell 2,u.cell 0,u.cell 1,o.cell 0,o.cell 1⟩
 .obtain⟨gl,cap,e,o,C⟩:=(K.rl.fr (h V d) u_).at (k:=w) (by rw[K.ll];exact hw);cases e;exact⟨gl,rfl,o,by rw[K.ll];exact hw⟩
 .have o1:=zj c3 (h V d) u_;obtain⟨g,cap,e⟩:=zm o1 (by have:=(ae_.1 hi).1;omega);cases e;exact⟨g,rfl,zr o1 rfl (by rw[aq_,hi];rfl),B.a.subs w x hx j (aj_ hi)⟩
 .have o1:=zj d3 (h V d) u_;obtain⟨g,cap,e⟩:=zm o1 (by have:=(ae_.1 hi).1;omega);cases e;exact⟨g,rfl,zr o1 rfl (by rw[aq_,hi];rfl),B.b.subs r y hy j (aj_ hi)⟩
 .exact XP (K.Za.fr (h V d) u_) (K.Zb.fr (h V d) u_) B.b hx hy (B.a.kind w x hx)
 .exact mP (K.Za.fr (h V d) u_) (K.Zb.fr (h V d) u_) hx hy (B.a.kind w x hx) (B.b.kind r y hy)
end
def ah{W:World}{P Q:Nat->Prop}{bp ba bb w r:Nat}{ta tb:List TR}{ka kb:Nat->KD}{lv fv:Value}{l f:List Nat}{x y:TR}{R:Ending->World->Prop}(K:PK W P Q bp ba bb ta tb ka kb lv fv l f)(B:PB2 ta tb ka kb)(hx:ta[w]?=some x)(hy:tb[r]?=some y)(hR:∀V (n:Nat),Fr W V N_->n=xl ka kb ta tb (lnK l) (prK tb f) w r->R (.returned (I_ n)) V)(b6:∀w1 la fa lc fc sx sy cx cy,lv=.slice la l.length lc->fv=.slice fa f.length fc->w1=(W.alloc (.cells #[U_ x.kind,.slice sx x.subs.length cx] 75)).alloc (.cells #[U_ y.kind,.slice sy y.subs.length cy] 75)->FM W w1 bp ba bb ta tb ka kb la fa lc fc l f w r x y sx sy cx cy->x.kind≠40->y.kind≠40->vO ka kb x.kind y.kind=true->x.kind≠91->x.kind≠123->Calls prog 12 #[P_ bp,I_ w,I_ r] W R):Calls prog 12 #[P_ bp,I_ w,I_ r] W R:=by
 obtain⟨POST,Q_⟩:=y_ R;rw[<- Q_.o]at hR b6⊢;have e4:=(ae_.1 hx).1;have e3:=(ae_.1 hy).1;have f7:(w:Int)<(ta.length:Int):=M_;have f6:(r:Int)<(tb.length:Int):=M_;have ex:ta.getD w ⟨0,[]⟩=x:=by rw[ap_,hx];rfl
 have ey:tb.getD r ⟨0,[]⟩=y:=by rw[ap_,hy];rfl
 have H:xl ka kb ta tb (lnK l) (prK tb f) w r=(if x.kind=40 then yq 1 (ke (x.subs.map λi=>prK tb f i r)) else if y.kind=40 then (match yD ka kb tb x.kind y.subs 0 none with|none=>lnK l w|some k=>prK tb f w (y.subs.getD k 0)) else if vO ka kb x.kind y.kind=false then lnK l w else if x.kind=91\/x.kind=123 then yq 1 (prK tb f (x.subs.getD 0 0) (y.subs.getD 0 0)) else xl ka kb ta tb (lnK l) (prK tb f) w r):=by
  unfold xl;rw[ex,ey];dsimp only;by_cases h1:x.kind=40
  .rw[i_ h1,i_ h1]
  .rw[n_ h1,n_ h1];by_cases s:y.kind=40
   .rw[i_ s,i_ s];cases yD ka kb tb x.kind y.subs 0 none<;>rfl
   .rw[n_ s,n_ s];by_cases t:vO ka kb x.kind y.kind=false
    .rw[i_ t,i_ t]
    .rw[n_ t,n_ t];by_cases F:x.kind=91\/x.kind=123
     .rw[i_ F,i_ F]
     .rw[n_ F,n_ F]
 have f1:=B.a.sfew w x hx;have f2:=B.b.sfew r y hy;have a6:=B.a.one w x hx;have a7:=B.b.one r y hy;obtain⟨ga,ca,gb,cb,sx,cx,sy,cy,la,lc,fa,fc,b8,b7,a0,a1,c0,d0,c1,c2,d1,d2,hM⟩:=Gj K B hx hy;obtain⟨w1,G⟩:=e_ ((W.alloc (.cells #[U_ x.kind,.slice sx x.subs.length cx] 75)).alloc (.cells #[U_ y.kind,.slice sy y.subs.length cy] 75));have M:=zy (hM w1 G);have a4:=zy (b6 w1 la fa lc fc sx sy cx cy b8 b7 G M);have fin:H_ (∀V (n:Nat),Fr w1 V N_->n=xl ka kb ta tb (lnK l) (prK tb f) w r->POST (.returned (I_ n)) V):=zy (λV n d e=>hR V n (M.o.fr.trans d u_) e);have cel:=zy M.o.cel;have lw:=zy M.o.lw;have pat:=zy M.o.pat;have sub:=zy M.o.sub;have sub':=zy M.o.sub';have ple:=zy M.o.ple;have lle:=zy M.o.lle;have fst:=zy M.o.fst;have mat:=zy M.o.mat;have l0:=zQ a0;have l1:=zQ c0;have l2:=zQ d0;have l3:=zQ c1;have l4:=zQ d1;obtain⟨b0,b1,b2,b3,L,U,N⟩:=cel.o w1 (A_ _ _);replace G:=zy G;replace H:=zy H;replace hx:=zy hx;replace hy:=zy hy;replace ex:=zy ex;replace ey:=zy ey;replace b8:=zy b8;replace b7:=zy b7;clear K hR b6 hM M Q_;by_cases h1:x.kind=40
 ·
  have e1:((x.kind:Int)==40)=true:=by simp;omega
  have C:H_ (∀V (n:Nat),Fr w1 V N_->n=yq 1 (ke (x.subs.map λi=>prK tb f i r))->POST (.returned (I_ n)) V):=zy (λV n d e=>fin.o V n d (by rw[H.o,i_ h1];exact e));replace h1:=zy h1;clear H fin a4 fst mat a6 a7;generalize x.kind=c at *;generalize y.kind=c' at *;go_in;go_upto_region 3 with fail;rw[<- G.o];go_wp2;go_loopg [9,10] (x.subs.length+1) (λmm v u V=>∃(i m:Nat),v=I_ m/\u=I_ i/\H_ (Fr w1 V N_)/\i<=x.subs.length/\x.subs.length+1-i<=mm/\m<=602/\H_ (ke (x.subs.map λi=>prK tb f i r)=((x.subs.drop i).map λi=>prK tb f i r).foldl min m));case atStart=>exact⟨0,602,rfl,rfl,zy (A_ _ _),al_ _,M_,M_,zy rfl⟩
  case round=>
   clear b0 b1 b2 b3 L U N;obtain⟨i,m,rfl,rfl,d,hi,f5,d7,hs⟩:=hrel;obtain⟨b0,b1,b2,b3,L,U,N⟩:=cel.o wr d;by_cases a5:i<x.subs.length
   .have e0:(i:Int)<(x.subs.length:Int):=M_;obtain⟨j,E⟩:∃j,x.subs[i]?=some j:=⟨_,af_ a5⟩;obtain⟨g,rfl,Y,Z⟩:=sub.o wr i j d E;have O:=zy (pat.o wr j r d Z e3);have nx:H_ (ke (x.subs.map λi=>prK tb f i r)=((x.subs.drop (i+1)).map λi=>prK tb f i r).foldl min (min m (prK tb f j r))):=zy (by
     have:=af_ a5
     rw[E]at this
     cases this
     rw[hs.o,ba_ a5]
     rfl)
    have a9:=ple.o j r;clear hs E;generalize prK tb f j r=pr at *;by_cases a8:pr<m
    .rw[Nat.min_eq_right M_]at nx;have p:(pr:Int)<(m:Int):=M_;have mN:min (m:Int) (pr:Int)=pr:=Int.min_eq_right M_;go_wp2_with (go_at_call 13;apply O.o.mono;rintro e q ⟨rfl,nn,S⟩;rw[S];clear S);go_roundg (x.subs.length+1-(i+1));case measure=>omega
     case rel=>exact⟨i+1,pr,rfl,by simp,zy (d.o.si (zq.drewN _ _)),a5,l_,a9,nx⟩
    .rw[Nat.min_eq_left M_]at nx;have p:¬((pr:Int)<(m:Int)):=M_;have mN:min (m:Int) (pr:Int)=m:=Int.min_eq_left M_;go_wp2_with (go_at_call 13;apply O.o.mono;rintro e q ⟨rfl,nn,S⟩;rw[S];clear S);go_roundg (x.subs.length+1-(i+1));case measure=>omega
     case rel=>exact⟨i+1,m,rfl,by simp,zy (d.o.si (zq.drewN _ _)),a5,l_,d7,nx⟩
   .have e0:¬((i:Int)<(x.subs.length:Int)):=M_;obtain rfl:i=x.subs.length:=M_;have hm:m=ke (x.subs.map λi=>prK tb f i r):=by
     rw[hs.o,ca_ M_];rfl
    have X:=zy (C.o wr (yq 1 m) d (by rw[<- hm]));have hP:=zy (qP (a:=1) M_ d7 wr);clear hs C;replace hm:=zy hm;generalize yq 1 m=ps at *;go_wp2_with (go_at_call 23;apply hP.o.mono;rintro e q ⟨rfl,S⟩;rw[S];clear S);try go_ret
    exact X
 .have e1:((x.kind:Int)==40)=false:=by simp;omega
  by_cases s:y.kind=40
  .have e2:((y.kind:Int)==40)=true:=by simp;omega
   have C:H_ (∀V (n:Nat),Fr w1 V N_->n=(match yD ka kb tb x.kind y.subs 0 none with|none=>lnK l w|some k=>prK tb f w (y.subs.getD k 0))->POST (.returned (I_ n)) V):=zy (λV n d e=>fin.o V n d (by rw[H.o,n_ h1,i_ s];exact e));replace h1:=zy h1;replace s:=zy s;clear H fin a4 mat a6 a7 sub;cases hk:yD ka kb tb x.kind y.subs 0 none with
   |none=>
    rw[hk]at C;have b5:H_ (∀V,Fr w1 V N_->Calls prog 24 #[P_ ba,I_ w,P_ bb,I_ r] V λe w'=>e=.returned (z_ (-1))/\Fr V w' N_):=zy (λV d=>by have:=fst.o V d;rw[hk]at this;exact this);replace hk:=zy hk;clear fst;generalize x.kind=c at *;generalize y.kind=c' at *;go_in;go_upto_region 3 with fail;rw[<- G.o];go_wp2;refine tr_ 11 (λV=>f_ V bp 0 (P_ ba)/\f_ V bp 1 (P_ bb)) ?_;refine tz_ 0 ?_;refine tz_ 1 ?_;refine tz_ 2 ?_;refine tz_ 3 ?_;refine tz_ 4 ?_;refine tz_ 5 ?_;refine tz_ 6 ?_;refine tz_ 7 ?_;refine tz_ 8 ?_;refine tz_ 9 ?_;refine zw 10 rfl K_ (λ_=>⟨b0,b1⟩) (λK D=>?_);go_simp;apply(b5.o _ (A_ w1 _).drew).mono;rintro e q ⟨rfl,A⟩;refine D _ _ ?_;clear D K;have p:Fr w1 q N_:=(A_ w1 _).drew.trans A u_;clear A;obtain⟨I,J,q2,q3,q4,q5,q6⟩:=cel.o q p;refine t1_ 11 ⟨I,J⟩ ?_;refine td_ ?_ _;obtain⟨gl,rfl,j1,j2⟩:=lw.o q p;have e7:(w:Int)<(l.length:Int):=M_;have X:=zy (λV d=>C.o V (lnK l w) d rfl);replace p:=zy p;clear b0 b1 b2 b3 L U N C;generalize lnK l w=lx at *;go_wp2;try go_ret
    exact X.o _ (by first|exact p.o|exact p.o.drew)
   |some k=>
    rw[hk]at C;have d9:k<y.subs.length:=by
     rcases iI hk with e|⟨_,h⟩
     .cases e
     .omega
    have f4:(k:Int)<(y.subs.length:Int):=M_;have f3:¬((k:Int)<0):=M_;have b5:H_ (∀V,Fr w1 V N_->Calls prog 24 #[P_ ba,I_ w,P_ bb,I_ r] V λe w'=>e=.returned (I_ k)/\Fr V w' N_):=zy (λV d=>by have:=fst.o V d;rw[hk]at this;exact this);obtain⟨j,E⟩:∃j,y.subs[k]?=some j:=⟨_,af_ d9⟩;have S:y.subs.getD k 0=j:=by rw[ap_,E];rfl
    have a2:H_ (∀V,Fr w1 V N_->POST (.returned (z_ (prK tb f w j:Int))) V):=zy (λV d=>C.o V _ d (by dsimp only;rw[S]));have sb:H_ (∀V,Fr w1 V N_->∃g,sy=some ⟨g,0,none⟩/\V.cell? ⟨g,k,none⟩=some (I_ j)/\Calls prog 13 #[P_ bp,I_ w,I_ j] V λz w'=>z=.returned (z_ (prK tb f w j:Int))/\∃n,w'=V.drewN n):=zy (λV d=>by
     obtain⟨g,Y,Z,k3⟩:=sub'.o V k j d E
     exact⟨g,Y,Z,pat.o V w j d e4 k3⟩)
    replace hk:=zy hk;replace S:=zy S;replace E:=zy E;clear fst C sub';generalize x.kind=c at *;generalize y.kind=c' at *;generalize prK tb f w j=pr at *;go_in;go_upto_region 3 with fail;rw[<- G.o];go_wp2;refine tr_ 11 (λV=>f_ V bp 0 (P_ ba)/\f_ V bp 1 (P_ bb)) ?_;refine tz_ 0 ?_;refine tz_ 1 ?_;refine tz_ 2 ?_;refine tz_ 3 ?_;refine tz_ 4 ?_;refine tz_ 5 ?_;refine tz_ 6 ?_;refine tz_ 7 ?_;refine tz_ 8 ?_;refine tz_ 9 ?_;refine zw 10 rfl K_ (λ_=>⟨b0,b1⟩) (λK D=>?_);go_simp;apply(b5.o _ (A_ w1 _).drew).mono;rintro e q ⟨rfl,A⟩;refine D _ _ ?_;clear D K;have p:Fr w1 q N_:=(A_ w1 _).drew.trans A u_;clear A;obtain⟨I,J,q2,q3,q4,q5,q6⟩:=cel.o q p;refine t1_ 11 ⟨I,J⟩ ?_;refine td_ ?_ _;clear b0 b1 b2 b3 L U N;obtain⟨g,rfl,Y,-⟩:=sb.o q p;replace p:=zy p;go_wp2_with (go_at_call 13;obtain⟨_,_,_,d8⟩:=sb.o _ (show Fr w1 _ N_ from(by first|exact p.o|exact p.o.drew));apply d8.mono;rintro e w3 ⟨rfl,nn,T⟩;rw[T];clear T);try go_ret
    exact a2.o _ (by first|exact p.o.si (zq.drewN _ _)|exact p.o.drew.si (zq.drewN _ _))
  .have e2:((y.kind:Int)==40)=false:=by simp;omega
   cases t:vO ka kb x.kind y.kind with
   |false=>
    have C:H_ (∀V,Fr w1 V N_->POST (.returned (z_ (lnK l w:Int))) V):=zy (λV d=>fin.o V _ d (by rw[H.o,n_ h1,n_ s,i_ t]));replace h1:=zy h1;replace s:=zy s;have b4:H_ (∀V,Fr w1 V N_->Calls prog 25 #[P_ ba,I_ w,P_ bb,I_ r] V λe w'=>e=.returned (.bool false)/\Fr V w' N_):=zy (λV d=>by have:=mat.o V d;rw[t]at this;exact this);replace t:=zy t;clear H fin a4 fst a6 a7 sub sub' mat;generalize x.kind=c at *;generalize y.kind=c' at *;go_in;go_upto_region 3 with fail;rw[<- G.o];go_wp2;refine tr_ 11 (λV=>f_ V bp 0 (P_ ba)/\f_ V bp 1 (P_ bb)) ?_;refine tz_ 0 ?_;refine tz_ 1 ?_;refine tz_ 2 ?_;refine tz_ 3 ?_;refine tz_ 4 ?_;refine tz_ 5 ?_;refine tz_ 6 ?_;refine tz_ 7 ?_;refine tz_ 8 ?_;refine tz_ 9 ?_;refine zw 10 rfl K_ (λ_=>⟨b0,b1⟩) (λK D=>?_);go_simp;apply(b4.o _ (A_ w1 _).drew).mono;rintro e q ⟨rfl,A⟩;refine D _ _ ?_;clear D K;have p:Fr w1 q N_:=(A_ w1 _).drew.trans A u_;clear A;obtain⟨I,J,q2,q3,q4,q5,q6⟩:=cel.o q p;refine t1_ 11 ⟨I,J⟩ ?_;refine td_ ?_ _;obtain⟨gl,rfl,j1,j2⟩:=lw.o q p;have e7:(w:Int)<(l.length:Int):=M_;replace p:=zy p;clear b0 b1 b2 b3 L U N;generalize lnK l w=lx at *;go_wp2;try go_ret
    exact C.o _ (by first|exact p.o|exact p.o.drew)
   |true=>
    by_cases F:x.kind=91\/x.kind=123
    .have C:H_ (∀V (n:Nat),Fr w1 V N_->n=yq 1 (prK tb f (x.subs.getD 0 0) (y.subs.getD 0 0))->POST (.returned (I_ n)) V):=zy (λV n d e=>fin.o V n d (by rw[H.o,n_ h1,n_ s,n_ (by simp[t]),i_ F];exact e));have d6:y.kind=91\/y.kind=123:=by
      unfold vO at t;by_cases e:x.kind=y.kind
      .omega
      .rw[n_ e]at t;simp at t;omega
     obtain⟨j,E⟩:=a6 F;obtain⟨j',a3⟩:=a7 d6;have a2:H_ (∀V (n:Nat),Fr w1 V N_->n=yq 1 (prK tb f j j')->POST (.returned (I_ n)) V):=zy (λV n d e=>C.o V n d (by rw[E,a3];exact e));have sb:H_ (∀V,Fr w1 V N_->∃g g',sx=some ⟨g,0,none⟩/\sy=some ⟨g',0,none⟩/\V.cell? ⟨g,0,none⟩=some (I_ j)/\V.cell? ⟨g',0,none⟩=some (I_ j')/\j<ta.length/\j'<tb.length):=zy (λV d=>by
      obtain⟨g,Y,Z,k3⟩:=sub.o V 0 j d (by rw[E];rfl)
      obtain⟨g',e8,e9,f0⟩:=sub'.o V 0 j' d (by rw[a3];rfl)
      exact⟨g,g',Y,e8,Z,e9,k3,f0⟩)
     have b4:H_ (∀V,Fr w1 V N_->Calls prog 25 #[P_ ba,I_ w,P_ bb,I_ r] V λe w'=>e=.returned (.bool true)/\Fr V w' N_):=zy (λV d=>by have:=mat.o V d;rw[t]at this;exact this);have a8:x.subs.length=1:=by rw[E];rfl
     have b9:y.subs.length=1:=by rw[a3];rfl
     rw[a8]at L cel G c2;rw[b9]at N cel G d2;have a9:=ple.o j j';have pt:H_ (∀V,Fr w1 V N_->j<ta.length->j'<tb.length->Calls prog 13 #[P_ bp,I_ j,I_ j'] V λz w'=>z=.returned (z_ (prK tb f j j':Int))/\∃n,w'=V.drewN n):=zy (λV d h1 s=>pat.o V j j' d h1 s);replace h1:=zy h1;replace s:=zy s;replace t:=zy t;replace E:=zy E;replace a3:=zy a3;replace a8:=zy a8;replace b9:=zy b9;replace d6:=zy d6;clear H fin a4 fst a6 a7 sub sub' mat pat C lw ple lle f1 f2;generalize x.kind=c at *;generalize y.kind=c' at *;generalize prK tb f j j'=pr at *;by_cases S:c=91
     .have e5:((c:Int)==91)=true:=by simp;omega
      replace S:=zy S;replace F:=zy F;go_in;go_upto_region 3 with fail;rw[<- G.o];go_wp2;refine tr_ 11 (λV=>f_ V bp 0 (P_ ba)/\f_ V bp 1 (P_ bb)) ?_;refine tz_ 0 ?_;refine tz_ 1 ?_;refine tz_ 2 ?_;refine tz_ 3 ?_;refine tz_ 4 ?_;refine tz_ 5 ?_;refine tz_ 6 ?_;refine tz_ 7 ?_;refine tz_ 8 ?_;refine tz_ 9 ?_;refine zw 10 rfl K_ (λ_=>⟨b0,b1⟩) (λK D=>?_);go_simp;apply(b4.o _ (A_ w1 _).drew).mono;rintro e q ⟨rfl,A⟩;refine D _ _ ?_;clear D K;have p:Fr w1 q N_:=(A_ w1 _).drew.trans A u_;clear A;obtain⟨I,J,q2,q3,q4,q5,q6⟩:=cel.o q p;refine t1_ 11 ⟨I,J⟩ ?_;refine td_ ?_ _;clear b0 b1 b2 b3 L U N;obtain⟨g,g',rfl,rfl,Y,Z,k3,k4⟩:=sb.o q p;have O:H_ (∀V,Fr q V N_->Calls prog 13 #[P_ bp,I_ j,I_ j'] V λz w'=>z=.returned (I_ pr)/\∃n,w'=V.drewN n):=zy (λV d=>pt.o V (p.trans d u_) k3 k4);have X:=zy (λV d=>a2.o V (yq 1 pr) (p.trans d u_) rfl);have hP:=zy (λV=>qP (a:=1) M_ a9 V);replace p:=zy p;clear a2 sb pt;generalize yq 1 pr=ps at *;go_wp2;go_quiet (first|(go_at_call 13;exact Calls.quiet_of (O.o _ ((A_ _ _).si (zq.drewN _ _))))|(go_at_call 13;exact dU (O.o _ ((A_ _ _).si (zq.drewN _ _)))));go_wp2_with (go_at_call 23;apply(hP.o _).mono;rintro e w3 ⟨rfl,T⟩;rw[T];clear T);try go_ret
      exact X.o _ (by first|exact(A_ _ _).si (zq.drewN _ _)|exact((A_ _ _).si (zq.drewN _ _)).si (zq.drewN _ _))
     .have e5:((c:Int)==91)=false:=by simp;omega
      have e6:((c:Int)==123)=true:=by simp;omega
      replace S:=zy S;replace F:=zy F;go_in;go_upto_region 3 with fail;rw[<- G.o];go_wp2;refine tr_ 11 (λV=>f_ V bp 0 (P_ ba)/\f_ V bp 1 (P_ bb)) ?_;refine tz_ 0 ?_;refine tz_ 1 ?_;refine tz_ 2 ?_;refine tz_ 3 ?_;refine tz_ 4 ?_;refine tz_ 5 ?_;refine tz_ 6 ?_;refine tz_ 7 ?_;refine tz_ 8 ?_;refine tz_ 9 ?_;refine zw 10 rfl K_ (λ_=>⟨b0,b1⟩) (λK D=>?_);go_simp;apply(b4.o _ (A_ w1 _).drew).mono;rintro e q ⟨rfl,A⟩;refine D _ _ ?_;clear D K;have p:Fr w1 q N_:=(A_ w1 _).drew.trans A u_;clear A;obtain⟨I,J,q2,q3,q4,q5,q6⟩:=cel.o q p;refine t1_ 11 ⟨I,J⟩ ?_;refine td_ ?_ _;clear b0 b1 b2 b3 L U N;obtain⟨g,g',rfl,rfl,Y,Z,k3,k4⟩:=sb.o q p;have O:H_ (∀V,Fr q V N_->Calls prog 13 #[P_ bp,I_ j,I_ j'] V λz w'=>z=.returned (I_ pr)/\∃n,w'=V.drewN n):=zy (λV d=>pt.o V (p.trans d u_) k3 k4);have X:=zy (λV d=>a2.o V (yq 1 pr) (p.trans d u_) rfl);have hP:=zy (λV=>qP (a:=1) M_ a9 V);replace p:=zy p;clear a2 sb pt;generalize yq 1 pr=ps at *;go_wp2;go_quiet (first|(go_at_call 13;exact Calls.quiet_of (O.o _ ((A_ _ _).si (zq.drewN _ _))))|(go_at_call 13;exact dU (O.o _ ((A_ _ _).si (zq.drewN _ _)))));go_wp2_with (go_at_call 23;apply(hP.o _).mono;rintro e w3 ⟨rfl,T⟩;rw[T];clear T);try go_ret
      exact X.o _ (by first|exact(A_ _ _).si (zq.drewN _ _)|exact((A_ _ _).si (zq.drewN _ _)).si (zq.drewN _ _))
    .have S:x.kind≠91:=λe=>F (.inl e);have h6:x.kind≠123:=λe=>F (.inr e);exact a4.o h1 s t S h6
end Go.Proofs.YtjkiencmjggakaaGreatDoor
