import Derived.Test.YtamhgejdkclmdaaGreatDoorW20
set_option maxHeartbeats 16000000
set_option maxRecDepth 100000
set_option linter.defProp false
set_option linter.unusedSimpArgs false
set_option linter.unusedVariables false
open Go.Proofs.Tryz
namespace Go.Proofs.YtamhgejdkclmdaaGreatDoor
open Go.RowKit
variable {P:Az}{s s':BA}{x t:PT}{ew er:Au}{v a sv sv':Ax}{c un uc:Nat}{R:Co}{Z:Dt}{ds ds':Aq}{ua:Al}{xs xs':Ay}{rs:Ad}
inductive MbV:PB->PB->Value->Value->Value->Prop
 |flds {fw fr:List PF} {p sv q rv:Value}:MbV (.recd fw) (.recd fr) (.iface 228 (.agg #[p,sv])) (.iface 228 (.agg #[q,rv])) (.iface 278 (.agg #[p,sv,q,rv]))
 |syms {lw lr:List (Nat×Nat)} {ow or':Option (Nat×Nat)} {p sv u q rv u':Value}:MbV (.enum lw ow) (.enum lr or') (.iface 233 (.agg #[p,sv,u])) (.iface 233 (.agg #[q,rv,u'])) (.iface 275 (.agg #[p,sv,u,q,rv,u']))
 |same {n:Nat} {a b:Value}:MbV (.bytes n) (.bytes n) a b (.iface 265 (.agg #[]))
 |never {x y:PB} {a b:Value} (h:jm x≠jm y):MbV x y a b (.iface 298 (.agg #[]))
def qu.ptr{w:Aw}{o:Ac}{u:Ax}(hu:qu w P o u):∃d,u=.pointer d:=by
 unfold qu at hu;split at hu
 .exact⟨_,hu⟩
 .obtain⟨g',_,e,_⟩:=hu;exact⟨_,e⟩
def cwol1_{p:Prop}(h:p:=by
 obtain⟨sa,sc,rfl⟩:=zw ho;(first|(have:=cc1;obtain⟨du,rfl⟩:=hu.ptr;clear ho hP hu)|(clear ho hP h));cases hb with
 |recd p' ho' hP' h' hp'=>
  (first|(have:=cc1)|(obtain⟨ra,rc,rfl⟩:=zw ho'));clear ho' hP' h';go_in;go_wp2;try go_ret
  rw[Q_.o];(first|(have:=cc1;exact⟨_,rfl,hA.o _ _,.never zr_⟩)|(exact⟨_,rfl,hA.o _ _,.flds⟩))
 |enum p' ho' hP' hu' hp'=>
  (try have:=cc1;obtain⟨ra,rc,rfl⟩:=zw ho';obtain⟨du',rfl⟩:=hu'.ptr)
  clear ho' hP' hu';go_in;go_wp2;try go_ret
  rw[Q_.o];(first|(have:=cc1;exact⟨_,rfl,hA.o _ _,.syms⟩)|(exact⟨_,rfl,hA.o _ _,.never zr_⟩))
 |bytes p' n' hp'=>
  go_in;go_wp2;try go_ret
  rw[Q_.o];exact⟨_,rfl,hA.o _ _,.never zr_⟩):p:=h
def ol{w:Aw}{Q:Az}{x y:PB}{b:Ax}(ha:yX w P s x a)(hb:yX w Q s' y b):Calls prog 171 #[a,b] w λe w'=>∃v,e=.returned v/\Fr w w' N_/\MbV x y a b v:=by
 obtain⟨j,Q_⟩:=y_ (λ(e:Ending) (w':World)=>∃v,e=.returned v/\Fr w w' N_/\MbV x y a b v);rw[<- Q_.o];have hA:=zy (λo j=>((A_ w N_).alloc o).alloc j);cases ha with
 |recd p ho hP h hp=>
  exact cwol1_
 |enum p ho hP hu hp=>
  have cc1:=Nat;exact cwol1_
 |bytes p n hp=>
  have d:=zy (λ(W:World) (b:Bool)=>jU (w:=W) b);cases hb with
  |recd p' ho' hP' h' hp'=>
   go_in;go_wp2_with (go_at_call 166;apply(d.o _ _).mono;rintro e w1 ⟨rfl,rfl⟩);try go_ret
   rw[Q_.o];exact⟨_,rfl,hA.o _ _,.never zr_⟩
  |enum p' ho' hP' hu' hp'=>
   go_in;go_wp2_with (go_at_call 166;apply(d.o _ _).mono;rintro e w1 ⟨rfl,rfl⟩);try go_ret
   rw[Q_.o];exact⟨_,rfl,hA.o _ _,.never zr_⟩
  |bytes p' n' hp'=>
   by_cases f:n=n'
   .subst f;have g:((n:Int)==(n:Int))=true:=by rw[beq_iff_eq]
    go_in;go_wp2_with (go_at_call 166;apply(d.o _ _).mono;rintro e w1 ⟨rfl,rfl⟩);try go_ret
    rw[Q_.o];exact⟨_,rfl,hA.o _ _,.same⟩
   .have g:((n':Int)==(n:Int))=false:=xg_
    have i:=zy f;go_in;go_wp2_with (go_at_call 166;apply(d.o _ _).mono;rintro e w1 ⟨rfl,rfl⟩);try go_ret
    rw[Q_.o];exact⟨_,rfl,hA.o _ _,.never (by simp[jm];exact i)⟩
def vZ:PT->Prop
 | .leaf _ _=>True
 | .wrap c _ _=>c=91\/c=123
 | .alts _ _=>False
def oK{w:Aw}{Q:Az}{y:PT}{b:Ax}(hb:TyV w Q y b)(hf:vZ y):Calls prog 165 #[b] w λe w'=>e=.returned (.bool (y.kind==105))/\Fr w w' N_:=by
 cases hb with
 |base c p h=>
  simp only[zr,ax_,beq_iff_eq]at h;rcases h with(((rfl|rfl)|rfl)|rfl)|rfl;all_goals first
   |exact JB
   |exact bG _ D_ _
 |name c p h=>
  have hc:65<=c/\c<=70:=xz_
  have e:((PT.leaf c p).kind==105)=false:=by
   rw[beq_eq_false_iff_ne];show c≠105;omega
  rw[e];exact bG _ D_ _
 |wrap c p h=>
  rcases hf with rfl|rfl
  .exact bG _ D_ _
  .exact bG _ D_ _
 |alts p X ho hP h=>exact hf.elim
def iP{w:Aw}{Q:Az}{y:PT}{b:Ax}(hb:TyV w Q y b)(hf:vZ y):Calls prog 167 #[b] w λe w'=>e=.returned (.bool (y.kind==110))/\Fr w w' N_:=by
 cases hb with
 |base c p h=>
  simp only[zr,ax_,beq_iff_eq]at h;rcases h with(((rfl|rfl)|rfl)|rfl)|rfl;all_goals first
   |exact tw
   |exact qr _ D_ _
 |name c p h=>
  have hc:65<=c/\c<=70:=xz_
  have e:((PT.leaf c p).kind==110)=false:=by
   rw[beq_eq_false_iff_ne];show c≠110;omega
  rw[e];exact qr _ D_ _
 |wrap c p h=>
  rcases hf with rfl|rfl
  .exact qr _ D_ _
  .exact qr _ D_ _
 |alts p X ho hP h=>exact hf.elim
def YV{w:Aw}{Q:Az}{y:PT}{b:Ax}(hb:TyV w Q y b)(hf:vZ y):Calls prog 168 #[b] w λe w'=>e=.returned (.bool (y.kind==116))/\Fr w w' N_:=by
 cases hb with
 |base c p h=>
  simp only[zr,ax_,beq_iff_eq]at h;rcases h with(((rfl|rfl)|rfl)|rfl)|rfl;all_goals first
   |exact oJ
   |exact wt _ D_ _
 |name c p h=>
  have hc:65<=c/\c<=70:=xz_
  have e:((PT.leaf c p).kind==116)=false:=by
   rw[beq_eq_false_iff_ne];show c≠116;omega
  rw[e];exact wt _ D_ _
 |wrap c p h=>
  rcases hf with rfl|rfl
  .exact wt _ D_ _
  .exact wt _ D_ _
 |alts p X ho hP h=>exact hf.elim
def ni{w:Aw}{Q:Az}{y:PT}{b:Ax}(hb:TyV w Q y b)(hf:vZ y):Calls prog 169 #[b] w λe w'=>e=.returned (.bool (y.kind==108))/\Fr w w' N_:=by
 cases hb with
 |base c p h=>
  simp only[zr,ax_,beq_iff_eq]at h;rcases h with(((rfl|rfl)|rfl)|rfl)|rfl;all_goals first
   |exact YG
   |exact fo _ D_ _
 |name c p h=>
  have hc:65<=c/\c<=70:=xz_
  have e:((PT.leaf c p).kind==108)=false:=by
   rw[beq_eq_false_iff_ne];show c≠108;omega
  rw[e];exact fo _ D_ _
 |wrap c p h=>
  rcases hf with rfl|rfl
  .exact fo _ D_ _
  .exact fo _ D_ _
 |alts p X ho hP h=>exact hf.elim
def JG{w:Aw}{Q:Az}{y:PT}{b:Ax}(hb:TyV w Q y b)(hf:vZ y):Calls prog 170 #[b] w λe w'=>e=.returned (.bool (y.kind==115))/\Fr w w' N_:=by
 cases hb with
 |base c p h=>
  simp only[zr,ax_,beq_iff_eq]at h;rcases h with(((rfl|rfl)|rfl)|rfl)|rfl;all_goals first
   |exact YJ
   |exact fe _ D_ _
 |name c p h=>
  have hc:65<=c/\c<=70:=xz_
  have e:((PT.leaf c p).kind==115)=false:=by
   rw[beq_eq_false_iff_ne];show c≠115;omega
  rw[e];exact fe _ D_ _
 |wrap c p h=>
  rcases hf with rfl|rfl
  .exact fe _ D_ _
  .exact fe _ D_ _
 |alts p X ho hP h=>exact hf.elim
def Je{p:Nat}{y:PT}(hc:zr c=true)(hf:vZ y):yt ew er (.leaf c p) y=(y.kind==c||(c==105&&y.kind==108)):=by
 cases y with
 |leaf c' p'=>simp only[yt,hc,if_true,PT.kind]
 |wrap c' p' u=>
  simp only[zr,ax_,beq_iff_eq]at hc;have:c'=91\/c'=123:=hf;simp only[yt,PT.kind];rcases hc with(((rfl|rfl)|rfl)|rfl)|rfl<;>rcases this with rfl|rfl<;>rfl
 |alts p' l=>exact hf.elim
def gG(b:Ar):Value:=if b=true then .iface 265 (.agg #[]) else .iface 298 (.agg #[])
section
variable {w:Aw} {Q:Az} {y:PT} {b:Ax} {p:Nat} {sa ra:Al} {sn sc rn rc:Nat} {sT rT:Av} {sx rx:Ax}
def cq14_{p:Prop}(h:p:=by
 (first|(have:=cc1;obtain⟨i,d⟩:∃R,H_ (R=λ(e:Ending) (w':World)=>e=.returned (gG (y.kind==115))/\Fr w w' N_):=⟨_,rfl⟩)|(have:=cc2;obtain⟨i,d⟩:∃R,H_ (R=λ(e:Ending) (w':World)=>e=.returned (gG (y.kind==116))/\Fr w w' N_):=⟨_,rfl⟩)|(have:=cc3;obtain⟨i,d⟩:∃R,H_ (R=λ(e:Ending) (w':World)=>e=.returned (gG (y.kind==110))/\Fr w w' N_):=⟨_,rfl⟩)|(obtain⟨i,d⟩:∃R,H_ (R=λ(e:Ending) (w':World)=>e=.returned (gG (y.kind==108))/\Fr w w' N_):=⟨_,rfl⟩));rw[<- d.o];(first|(have:=cc1;have f:=zy (λW (g:Fr w W N_)=>JG (hb.fr g u_) hf))|(have:=cc2;have f:=zy (λW (g:Fr w W N_)=>YV (hb.fr g u_) hf))|(have:=cc3;have f:=zy (λW (g:Fr w W N_)=>iP (hb.fr g u_) hf))|(have f:=zy (λW (g:Fr w W N_)=>ni (hb.fr g u_) hf)));have l:=zy (λ(W:World) (b:Bool)=>jU (w:=W) b);have A:=zy (λo m=>((A_ w N_).alloc o).alloc m);obtain⟨bT,bx,rfl⟩:=hb.iface;clear hb hf;(first|(have:=cc1;generalize (y.kind==115)=bb at d f)|(have:=cc2;generalize (y.kind==116)=bb at d f)|(have:=cc3;generalize (y.kind==110)=bb at d f)|(generalize (y.kind==108)=bb at d f));cases bb;all_goals
  go_in;go_wp2_with (first
   |((first|go_at_call 169|go_at_call 170|go_at_call 168|go_at_call 167);apply(f.o _ (A.o _ _)).mono;rintro e w1 ⟨rfl,j⟩;have k:=zy ((A.o _ _).trans j u_);clear j)
   |(go_at_call 166;apply(l.o _ _).mono;rintro e n ⟨rfl,rfl⟩))
  try go_ret
  rw[d.o];exact⟨rfl,k.o⟩):p:=h
def Jt(hb:TyV w Q y b)(hf:vZ y):Calls prog 124 #[.agg #[.slice sa sn sc,.iface sT sx,.slice ra rn rc,.iface rT rx],.iface 212 (.agg #[I_ p]),b] w λe w'=>e=.returned (gG (y.kind==110))/\Fr w w' N_:=by
 have cc3:=Nat
 exact cq14_
def Jr(hb:TyV w Q y b)(hf:vZ y):Calls prog 124 #[.agg #[.slice sa sn sc,.iface sT sx,.slice ra rn rc,.iface rT rx],.iface 214 (.agg #[I_ p]),b] w λe w'=>e=.returned (gG (y.kind==116))/\Fr w w' N_:=by
 have cc2:=Nat
 exact cq14_
def Jn(hb:TyV w Q y b)(hf:vZ y):Calls prog 124 #[.agg #[.slice sa sn sc,.iface sT sx,.slice ra rn rc,.iface rT rx],.iface 216 (.agg #[I_ p]),b] w λe w'=>e=.returned (gG (y.kind==108))/\Fr w w' N_:=by
 exact cq14_
def Jd(hb:TyV w Q y b)(hf:vZ y):Calls prog 124 #[.agg #[.slice sa sn sc,.iface sT sx,.slice ra rn rc,.iface rT rx],.iface 217 (.agg #[I_ p]),b] w λe w'=>e=.returned (gG (y.kind==115))/\Fr w w' N_:=by
 have cc1:=Nat
 exact cq14_
end
section
variable {w:Aw} {Q:Az} {y:PT} {b:Ax} {p:Nat} {sa ra:Al} {sn sc rn rc:Nat} {sT rT:Av} {sx rx:Ax}
def Js(hb:TyV w Q y b)(hf:vZ y):Calls prog 124 #[.agg #[.slice sa sn sc,.iface sT sx,.slice ra rn rc,.iface rT rx],.iface 215 (.agg #[I_ p]),b] w λe w'=>e=.returned (gG (y.kind==105||y.kind==108))/\Fr w w' N_:=by
 obtain⟨i,d⟩:=y_ (λ(e:Ending) (w':World)=>e=.returned (gG (y.kind==105||y.kind==108))/\Fr w w' N_);rw[<- d.o];have h:=zy (λW (i:Fr w W N_)=>oK (hb.fr i u_) hf);have k:=zy (λW (i:Fr w W N_)=>ni (hb.fr i u_) hf);have j:=zy (λ(W:World) (b:Bool)=>jU (w:=W) b);have A:=zy (λo i=>((A_ w N_).alloc o).alloc i);obtain⟨bT,bx,rfl⟩:=hb.iface;generalize (y.kind==105)=bb at d h;generalize (y.kind==108)=bl at d k;cases bb
 .cases bl;all_goals
   go_in;go_wp2_with (first
    |(go_at_call 165;apply(h.o _ (A.o _ _)).mono;rintro e w1 ⟨rfl,f⟩;have g:=zy ((A.o _ _).trans f u_))
    |(go_at_call 169;apply(k.o _ g).mono;rintro e i ⟨rfl,i⟩;have l:=zy (g.o.trans i u_))
    |(go_at_call 166;apply(j.o _ _).mono;rintro e m ⟨rfl,rfl⟩))
   try go_ret
   rw[d.o];exact⟨rfl,l⟩
 .go_in;go_wp2_with (first
   |(go_at_call 165;apply(h.o _ (A.o _ _)).mono;rintro e w1 ⟨rfl,f⟩;have g:=zy ((A.o _ _).trans f u_))
   |(go_at_call 166;apply(j.o _ _).mono;rintro e m ⟨rfl,rfl⟩))
  try go_ret
  rw[d.o];exact⟨rfl,g⟩
end
section
variable {w:Aw} {p p':Nat} {sa ra:Al} {sn sc rn rc:Nat} {sT rT uT vT bT:Av} {sx rx ux vx bx:Ax}
def cq22_{p:Prop}(h:p:=by
 obtain⟨f,d⟩:=y_ (λ(e:Ending) (w':World)=>e=.returned (.iface 272 (.agg #[.iface uT ux,.iface vT vx]))/\Fr w w' N_);rw[<- d.o];go_in;go_wp2;try go_ret
 rw[d.o];exact⟨rfl,(((A_ w N_).alloc _).alloc _).alloc _⟩):p:=h
def ia:Calls prog 124 #[.agg #[.slice sa sn sc,.iface sT sx,.slice ra rn rc,.iface rT rx],.iface 219 (.agg #[I_ p,.iface uT ux]),.iface 219 (.agg #[I_ p',.iface vT vx])] w λe w'=>e=.returned (.iface 272 (.agg #[.iface uT ux,.iface vT vx]))/\Fr w w' N_:=by
 exact cq22_
def cq30_{p:Prop}(h:p:=by
 obtain⟨g,d⟩:=y_ (λ(e:Ending) (w':World)=>e=.returned (.iface 298 (.agg #[]))/\Fr w w' N_);rw[<- d.o];(first|(have:=cc1;have f:=nR bT hT)|(have:=cc2;have f:=kL bT hT)|(have f:=gW bT hT));go_in;go_wp2;try go_ret
 rw[d.o];exact⟨rfl,(((A_ w N_).alloc _).alloc _).alloc _⟩):p:=h
def gj(hT:bT≠219):Calls prog 124 #[.agg #[.slice sa sn sc,.iface sT sx,.slice ra rn rc,.iface rT rx],.iface 219 (.agg #[I_ p,.iface uT ux]),.iface bT bx] w λe w'=>e=.returned (.iface 298 (.agg #[]))/\Fr w w' N_:=by
 have cc2:=Nat
 exact cq30_
def dE:Calls prog 124 #[.agg #[.slice sa sn sc,.iface sT sx,.slice ra rn rc,.iface rT rx],.iface 220 (.agg #[I_ p,.iface uT ux]),.iface 220 (.agg #[I_ p',.iface vT vx])] w λe w'=>e=.returned (.iface 272 (.agg #[.iface uT ux,.iface vT vx]))/\Fr w w' N_:=by
 have cc1:=Nat
 exact cq22_
def wu(hT:bT≠220):Calls prog 124 #[.agg #[.slice sa sn sc,.iface sT sx,.slice ra rn rc,.iface rT rx],.iface 220 (.agg #[I_ p,.iface uT ux]),.iface bT bx] w λe w'=>e=.returned (.iface 298 (.agg #[]))/\Fr w w' N_:=by
 exact cq30_
def ku(hT:bT≠226):Calls prog 124 #[.agg #[.slice sa sn sc,.iface sT sx,.slice ra rn rc,.iface rT rx],.iface 226 (.agg #[I_ p,U_ c]),.iface bT bx] w λe w'=>e=.returned (.iface 298 (.agg #[]))/\Fr w w' N_:=by
 have cc1:=Nat
 exact cq30_
def uK{d:Nat}(hc:¬((d:Int)=(c:Int))):Calls prog 124 #[.agg #[.slice sa sn sc,.iface sT sx,.slice ra rn rc,.iface rT rx],.iface 226 (.agg #[I_ p,U_ c]),.iface 226 (.agg #[I_ p',U_ d])] w λe w'=>e=.returned (.iface 298 (.agg #[]))/\Fr w w' N_:=by
 obtain⟨g,f⟩:=y_ (λ(e:Ending) (w':World)=>e=.returned (.iface 298 (.agg #[]))/\Fr w w' N_);rw[<- f.o];have g:((d:Int)==(c:Int))=false:=za_
 have g:decide ((d:Int)=(c:Int))=false:=za_
 go_in;go_wp2;all_goals first
  |((try go_ret);rw[f.o];exact⟨rfl,(((A_ w N_).alloc _).alloc _).alloc _⟩)
  |omega
end
def ce{w:Aw}{Q:Az}{p p':Nat}{sT rT:Av}{sx rx:Ax}{x y:PB}(D:yC w P s ds sv xs)(E:yC w Q s' ds' sv' xs')(hx:zx ds c=some x)(hy:zx ds' c=some y):Calls prog 124 #[.agg #[sv,.iface sT sx,sv',.iface rT rx],.iface 226 (.agg #[I_ p,U_ c]),.iface 226 (.agg #[I_ p',U_ c])] w λe w'=>∃a b v,e=.returned v/\Fr w w' N_/\yX w' P s x a/\yX w' Q s' y b/\ZV ds' xs' y b/\MbV x y a b v:=by
 obtain⟨S,I⟩:=y_ (λ(e:Ending) (w':World)=>∃a b v,e=.returned v/\Fr w w' N_/\yX w' P s x a/\yX w' Q s' y b/\ZV ds' xs' y b/\MbV x y a b v);rw[<- I.o];have K:=zy (λW (d:Fr w W N_)=>jk (rv:=.iface sT sx) c (D.fr d u_));have L:=zy (λW (d:Fr w W N_)=>tA (rv:=.iface rT rx) c (E.fr d u_));have M:=zy (λW a b (ha:yX W P s x a) (hb:yX W Q s' y b)=>ol ha hb);have hx:=zy hx;have hy:=zy hy;obtain⟨sa,sc,rfl⟩:=zw D.row;obtain⟨ra,rc,rfl⟩:=zw E.row;obtain⟨i,hwz⟩:=e_ (((w.alloc (.cells #[.slice sa ds.length sc,.iface sT sx,.slice ra ds'.length rc,.iface rT rx] 91)).alloc (.cells #[I_ p,U_ c] 226)).alloc (.cells #[I_ p',U_ c] 226));have k:Fr w i N_:=xl_
 have j:Blk i w.heap.size [.slice sa ds.length sc,.iface sT sx,.slice ra ds'.length rc,.iface rT rx] 91:=by
  rw[hwz];exact((B_ w #[.slice sa ds.length sc,.iface sT sx,.slice ra ds'.length rc,.iface rT rx] 91).alloc _).alloc _
 have A:Blk i (w.heap.size+1) [I_ p,U_ c] 226:=by
  rw[hwz];have h:=(B_ (w.alloc (.cells #[.slice sa ds.length sc,.iface sT sx,.slice ra ds'.length rc,.iface rT rx] 91)) #[I_ p,U_ c] 226).alloc (.cells #[I_ p',U_ c] 226);have hs:∀(u:World) (o:Obj),(u.alloc o).heap.size=u.heap.size+1:=λu o=>by show(u.heap.push _).size=_;simp
  simp only[hs]at h;exact h
 have B:Blk i (w.heap.size+1+1) [I_ p',U_ c] 226:=by
  rw[hwz];have h:=B_ ((w.alloc (.cells #[.slice sa ds.length sc,.iface sT sx,.slice ra ds'.length rc,.iface rT rx] 91)).alloc (.cells #[I_ p,U_ c] 226)) #[I_ p',U_ c] 226;have hs:∀(u:World) (o:Obj),(u.alloc o).heap.size=u.heap.size+1:=λu o=>by show(u.heap.push _).size=_;simp
  simp only[hs]at h;exact h
 obtain⟨F,hCL⟩:∃C:World->Prop,C=λW=>W.cell? ⟨w.heap.size,0,none⟩=some (.slice sa ds.length sc)/\W.cell? ⟨w.heap.size,1,none⟩=some (.iface sT sx)/\W.cell? ⟨w.heap.size,2,none⟩=some (.slice ra ds'.length rc)/\W.cell? ⟨w.heap.size,3,none⟩=some (.iface rT rx)/\W.cell? ⟨w.heap.size+1,1,none⟩=some (U_ c)/\W.cell? ⟨w.heap.size+1+1,1,none⟩=some (U_ c):=⟨_,rfl⟩;have m:=zy (λW (d:Fr i W N_)=>show F W by
  rw[hCL]
  exact⟨(d.bl j id).cell 0,(d.bl j id).cell 1,(d.bl j id).cell 2,(d.bl j id).cell 3,(d.bl A id).cell 1,(d.bl B id).cell 1⟩)
 replace k:=zy k;replace hwz:=zy hwz;replace hCL:=zy hCL;go_in;go_wp2;rw[<- hwz.o];refine tR_ F ?_;refine tA_ 0 rfl K_ (λ_ _ _ h=>h) x5_ ?_;refine tA_ 1 rfl K_ (λ_ _ _ h=>h) x5_ ?_;refine tA_ 2 rfl K_ (λ_ _ _ h=>h) x5_ ?_;refine tA_ 3 rfl K_ (λ_ _ _ h=>h) x5_ ?_;refine tA_ 5 rfl K_ (λ_ _ _ h=>h) x5_ ?_;refine tA_ 6 rfl K_ (λ_ _ _ h=>h) x5_ ?_;refine tA_ 7 rfl K_ (λ_ _ _ h=>h) x5_ ?_;refine tA_ 8 rfl K_ (λ_ _ _ h=>h) x5_ ?_;refine zV 4 rfl K_ (m.o _ (A_ i _).drew) (λl f=>?_);go_simp;apply(K.o _ k.o.drew).mono;rintro e w1 ⟨d,rfl,d,n⟩;rw[hx.o]at n;have q:=zy ((A_ i N_).drew.trans d u_);replace n:=zy n;refine f _ _ ?_;refine zV 9 rfl K_ (m.o _ q) (λl f=>?_);go_simp;apply(L.o _ (k.o.trans q u_)).mono;rintro e d ⟨d,rfl,d,g⟩;rw[hy.o]at g;obtain⟨g,z⟩:=g;replace z:=zy z;have G:=zy (q.o.trans d u_);have J:=zy (n.o.fr d u_);replace g:=zy g;refine f _ _ ?_;refine zV 10 rfl K_ (m.o _ G) (λl f=>?_);go_simp;apply(M.o _ _ _ J g).mono;rintro e d ⟨d,rfl,d,r⟩;have H:=zy (G.o.trans d u_);have N:=zy (J.o.fr d u_);have O:=zy (g.o.fr d u_);replace r:=zy r;refine f _ _ ?_;refine tY_ 11 ?_;refine zO K_ (m.o _ H) ?_ _;go_wp2;try go_ret
 rw[I.o];exact⟨_,_,_,rfl,k.o.trans H u_,N,O,z,r⟩
inductive MtV (w:Aw) (P Q:Az) (s s':BA) (ew er:Au) (Z:Dt):PT->PT->Value->Prop
 |never {x y:PT} (h:yt ew er x y=false):MtV w P Q s s' ew er Z x y (.iface 298 (.agg #[]))
 |same {c p:Nat} {y:PT} (hc:zr c=true) (h:yt ew er (.leaf c p) y=true):MtV w P Q s s' ew er Z (.leaf c p) y (.iface 265 (.agg #[]))
 |items {c p p':Nat} {t t':PT} {a b:Value} (hc:c=91\/c=123) (ha:TyV w P t a) (hb:TyV w Q t' b):MtV w P Q s s' ew er Z (.wrap c p t) (.wrap c p' t') (.iface 272 (.agg #[a,b]))
 |body {c p p':Nat} {X Y:PB} {a b v:Value} (hc:zo c=true) (hx:ew c=some X) (hy:er c=some Y) (ha:yX w P s X a) (hb:yX w Q s' Y b) (hz:Z Y b) (hm:MbV X Y a b v) (hs:jm X=jm Y):MtV w P Q s s' ew er Z (.leaf c p) (.leaf c p') v
def xG(h:zo c=true):zr c=false:=by
 have hc:65<=c/\c<=70:=xz_
 cases e:zr c with
 |false=>rfl
 |true=>
  simp only[zr,ax_,beq_iff_eq]at e;omega
def ek{d:Nat}(h:zo c=true)(e:zr d=true):(c==d)=false:=by
 have hc:65<=c/\c<=70:=xz_
 simp only[zr,ax_,beq_iff_eq]at e;rw[beq_eq_false_iff_ne];omega
def MbV.sort{X Y:PB}{b:Ax}(h:MbV X Y a b v):jm X=jm Y\/(jm X≠jm Y/\v=.iface 298 (.agg #[])):=by
 cases h with
 |flds=>exact .inl rfl
 |syms=>exact .inl rfl
 |same=>exact .inl rfl
 |never h=>exact .inr ⟨h,rfl⟩
def tO{w:Aw}{Q:Az}{sT rT:Av}{sx rx:Ax}{y:PT}{b:Ax}(D:yC w P s ds sv xs)(E:yC w Q s' ds' sv' xs')(ha:TyV w P x a)(hb:TyV w Q y b)(fx:vZ x)(fy:vZ y)(m:∀c p,x=.leaf c p->zo c=true->∃X,zx ds c=some X)(n:∀c p,y=.leaf c p->zo c=true->∃Y,zx ds' c=some Y):Calls prog 124 #[.agg #[sv,.iface sT sx,sv',.iface rT rx],a,b] w λe w'=>∃v,e=.returned v/\Fr w w' N_/\MtV w' P Q s s' (zx ds) (zx ds') (ZV ds' xs') x y v:=by
 obtain⟨sa,sc,g⟩:=zw D.row;obtain⟨ra,rc,f⟩:=zw E.row;have nev:∀(e:Ending) (w':World),yt (zx ds) (zx ds') x y=false->e=.returned (.iface 298 (.agg #[]))/\Fr w w' N_->∃v,e=.returned v/\Fr w w' N_/\MtV w' P Q s s' (zx ds) (zx ds') (ZV ds' xs') x y v:=
  λe w' hm h=>⟨_,h.1,h.2,.never hm⟩
 cases ha with
 |base c p h=>
  have fin:∀(e:Ending) (w':World),e=.returned (gG (y.kind==c||(c==105&&y.kind==108)))/\Fr w w' N_->∃v,e=.returned v/\Fr w w' N_/\MtV w' P Q s s' (zx ds) (zx ds') (ZV ds' xs') (.leaf c p) y v:=by
   rintro e w' ⟨h1,d⟩;rw[<- Je (ew:=zx ds) (er:=zx ds') (p:=p) h fy]at h1;cases hm:yt (zx ds) (zx ds') (.leaf c p) y with
   |true=>rw[hm]at h1;exact⟨_,h1,d,.same h hm⟩
   |false=>rw[hm]at h1;exact⟨_,h1,d,.never hm⟩
  rw[g,f];simp only[zr,ax_,beq_iff_eq]at h;rcases h with(((rfl|rfl)|rfl)|rfl)|rfl
  .exact(Jt hb fy).mono (λe w' q=>fin e w' ze_)
  .exact(Jr hb fy).mono (λe w' q=>fin e w' ze_)
  .exact(Js hb fy).mono (λe w' q=>fin e w' ze_)
  .exact(Jn hb fy).mono (λe w' q=>fin e w' ze_)
  .exact(Jd hb fy).mono (λe w' q=>fin e w' ze_)
 |name c p h=>
  have j:=xG h;cases hb with
  |base c' p' h'=>
   rw[g,f];exact(ku (ji c').2.2.2.1).mono (λe w'=>nev e w' (by simp[yt,j,ek h h']))
  |name c' p' h'=>
   by_cases l:c=c'
   .subst l;obtain⟨X,hX⟩:=m c p rfl h;obtain⟨Y,i⟩:=n c p' rfl h;apply(ce D E hX i).mono;rintro e w' ⟨a,b,v,h1,d,o,r,hz,k⟩;rcases k.sort with hs|⟨hs,rfl⟩
    .exact⟨v,h1,d,.body h hX i o r hz k hs⟩
    .exact⟨_,h1,d,.never (by simp[yt,j,hX,i,hs])⟩
   .rw[g,f];exact(uK M_).mono (λe w'=>nev e w' (by simp[yt,j,l]))
  |wrap c' p' h'=>
   rw[g,f];rcases fy with rfl|rfl
   .exact(ku D_).mono (λe w'=>nev e w' rfl)
   .exact(ku D_).mono (λe w'=>nev e w' rfl)
  |alts p' X ho hP h'=>exact fy.elim
 |wrap c p h=>
  have i:c=91\/c=123:=fx;obtain⟨uT,ux,rfl⟩:=h.iface;rw[g,f];cases hb with
  |base c' p' h'=>
   rcases i with rfl|rfl
   .exact(gj (ji c').1).mono (λe w'=>nev e w' rfl)
   .exact(wu (ji c').2.1).mono (λe w'=>nev e w' rfl)
  |name c' p' h'=>
   rcases i with rfl|rfl
   .exact(gj D_).mono (λe w'=>nev e w' rfl)
   .exact(wu D_).mono (λe w'=>nev e w' rfl)
  |wrap c' p' h'=>
   obtain⟨vT,vx,rfl⟩:=h'.iface;have j:c'=91\/c'=123:=fy;rcases i with rfl|rfl<;>rcases j with rfl|rfl
   .exact ia.mono (λe w' q=>⟨_,q.1,q.2,.items (.inl rfl) (h.fr q.2 u_) (h'.fr q.2 u_)⟩)
   .exact(gj D_).mono (λe w'=>nev e w' rfl)
   .exact(wu D_).mono (λe w'=>nev e w' rfl)
   .exact dE.mono (λe w' q=>⟨_,q.1,q.2,.items (.inr rfl) (h.fr q.2 u_) (h'.fr q.2 u_)⟩)
  |alts p' X ho hP h'=>exact fy.elim
 |alts p X ho hP h=>exact fx.elim
section
variable {w:Aw} {p:Nat} {sa ra:Al} {sn sc rn rc:Nat} {sT rT aT bT:Av} {sx rx ax bx:Ax}
def Wf:Calls prog 85 #[.agg #[.slice sa sn sc,.iface sT sx,.slice ra rn rc,.iface rT rx],.iface 223 (.agg #[I_ p,.slice ua un uc]),.iface bT bx] w λe w'=>e=.returned (.iface 267 (.agg #[.slice ua un uc,.iface bT bx]))/\Fr w w' N_:=by
 obtain⟨f,d⟩:=y_ (λ(e:Ending) (w':World)=>e=.returned (.iface 267 (.agg #[.slice ua un uc,.iface bT bx]))/\Fr w w' N_);rw[<- d.o];have A:=zy (λo f=>((A_ w N_).alloc o).alloc f);go_in;go_wp2;try go_ret
 rw[d.o];exact⟨rfl,A.o _ _⟩
def cq26_{p:Prop}(h:p:=by
 refine hq_ λj f=>?_;have A:=zy (λo g i=>(((A_ w N_).alloc o).alloc g).alloc i);replace h:=zy h;have k:=vY aT ha;(first|(have:=cc1)|(have l:=vY bT hb));go_in;go_wp2_with ((first|go_at_call 124|go_at_call 123);apply(h.o _ (A.o _ _ _)).mono;rintro e w1 ⟨v,rfl,d⟩;replace d:=zy d);try go_ret
 rw[f.o];exact d.o):p:=h
def Jh(ha:aT≠223)(hb:bT≠223)(h:∀W,Fr w W N_->Calls prog 124 #[.agg #[.slice sa sn sc,.iface sT sx,.slice ra rn rc,.iface rT rx],.iface aT ax,.iface bT bx] W (λe w'=>∃v,e=.returned v/\R (.returned v) w')):Calls prog 85 #[.agg #[.slice sa sn sc,.iface sT sx,.slice ra rn rc,.iface rT rx],.iface aT ax,.iface bT bx] w R:=by
 exact cq26_
end
def pO{r:PT}:∀(l:List PT) (i:Nat) (k:Option Nat),xc ew er x (l++[r]) i k=(if (yt ew er x r&&((xc ew er x l i k).isNone||r.kind==105))=true then some (i+l.length) else xc ew er x l i k)
 | [],i,k=>by simp[xc]
 |a::l,i,k=>by
  show xc ew er x (l++[r]) (i+1) _=_;rw[pO l];have:i+1+l.length=i+(a::l).length:=by simp only[ay_];omega
  rw[this];rfl
def ZF{r:PT}{q:Nat}(h:rs[q]?=some r):xc ew er x (rs.take (q+1)) 0 none=(if (yt ew er x r&&((xc ew er x (rs.take q) 0 none).isNone||r.kind==105))=true then some q else xc ew er x (rs.take q) 0 none):=by
 have d:q<rs.length:=by
  rcases Nat.lt_or_ge q rs.length with d|d
  .exact d
  .rw[bl_ d]at h;exact absurd h x8_
 have e:rs.take (q+1)=rs.take q++[r]:=by rw[a6_,h];rfl
 have l:(rs.take q).length=q:=by rw[ca_];omega
 rw[e,pO,l,bx_]
def MtV.fr{w w':Aw}{Q S:Az}{y:PT}(h:MtV w P Q s s' ew er Z x y v)(hf:Fr w w' S)(hP:∀g,P g->¬S g)(d:∀g,Q g->¬S g):MtV w' P Q s s' ew er Z x y v:=by
 cases h with
 |never h=>exact .never h
 |same hc h=>exact .same hc h
 |items hc ha hb=>exact .items hc (ha.fr hf hP) (hb.fr hf d)
 |body hc hx hy ha hb hz hm hs=>exact .body hc hx hy (ha.fr hf hP) (hb.fr hf d) hz hm hs
def MtV.kind{w:Aw}{Q:Az}{y:PT}(h:MtV w P Q s s' ew er Z x y v):(yt ew er x y=false/\v=.iface 298 (.agg #[]))\/(yt ew er x y=true/\∃T u,v=.iface T u/\T≠298/\T≠270):=by
 cases h with
 |never h=>exact .inl ⟨h,rfl⟩
 |same hc h=>exact .inr ⟨h,_,_,rfl,D_,D_⟩
 |items hc ha hb=>exact .inr ⟨by simp[yt],_,_,rfl,D_,D_⟩
 |body hc hx hy ha hb hz hm hs=>
  refine .inr ⟨by simp[yt,xG hc,hx,hy,hs],?_⟩;cases hm with
  |flds=>exact⟨_,_,rfl,D_,D_⟩
  |syms=>exact⟨_,_,rfl,D_,D_⟩
  |same=>exact⟨_,_,rfl,D_,D_⟩
  |never h=>exact absurd hs h
def BrV(w:Aw)(P Q:Az)(s s':BA)(ew er:Au)(Z:Dt)(x:PT)(rs:Ad)(k:Option Nat)(v:Ax):Prop:=
 match k with
 |none=>v=.iface 298 (.agg #[])
 |some i=>∃r T u,rs[i]?=some r/\v=.iface 270 (.agg #[I_ i,.iface T u])/\yt ew er x r=true/\MtV w P Q s s' ew er Z x r (.iface T u)
def BrV.fr{w w':Aw}{Q S:Az}{k:Option Nat}(h:BrV w P Q s s' ew er Z x rs k v)(hf:Fr w w' S)(hP:∀g,P g->¬S g)(j:∀g,Q g->¬S g):BrV w' P Q s s' ew er Z x rs k v:=by
 cases k with
 |none=>exact h
 |some i=>
  obtain⟨r,T,u,h1,d,e,f⟩:=h;exact⟨r,T,u,h1,d,e,f.fr hf hP j⟩
def MtV.iface{w:Aw}{Q:Az}{y:PT}(h:MtV w P Q s s' ew er Z x y v):∃T u,v=.iface T u:=by
 rcases h.kind with⟨_,rfl⟩|⟨_,T,u,rfl,_,_⟩
 .exact⟨_,_,rfl⟩
 .exact⟨_,_,rfl⟩
def YQ{w:Aw}{Q:Az}{y:PT}(h:MtV w P Q s s' ew er Z x y v):Calls prog 163 #[v] w λe w'=>e=.returned (.bool (!yt ew er x y))/\Fr w w' N_:=by
 rcases h.kind with⟨hk,rfl⟩|⟨hk,T,u,rfl,h1,d⟩
 .rw[hk];exact oQ
 .rw[hk];exact YK T h1 u
def cwlA1_{p:Prop}(h:p:=by
 rw[hkd]at hIn;(first|(have:=cc1;have hst:H_ (xc ew er x (rs.take (q+1)) 0 none=some q):=zy (by rw[hstep.o,hk,hkd];simp))|(have hst:H_ (xc ew er x (rs.take (q+1)) 0 none=xc ew er x (rs.take q) 0 none):=zy (by rw[hstep.o,hk,hpk,hkd];rfl)));(first|(have:=cc1;rw[hpk]at hB)|(rw[hpk]at hst hB));(first|(have:=cc1;obtain⟨r',T',u',h1',h2',h3',h4'⟩:=hB)|(have hB':=hB;obtain⟨r',T',u',h1',h2',h3',h4'⟩:=hB'));subst h2';clear h1' h3' h4';(first|(have:=cc1)|(replace hB:=zy hB));replace hf:=zy hf;go_wp2_with (first
  |(go_at_call 124;apply(hM.o _ hfw.o r _ hmem.o hT.o).mono;rintro e w1 ⟨m1,rfl,hf1,hm1⟩;obtain⟨mT,mu,rfl⟩:=hm1.iface;have hm1:=zy hm1;have F1:=zy hf1;clear hf1)
  |(go_at_call 163;apply(hNv.o _ _ hm1.o).mono;rintro e w2 ⟨rfl,hf2⟩;have F2:=zy (F1.o.trans hf2 u_);have hm2:=zy (hm1.o.fr hf2 u_ u_);clear hf2)
  |(go_at_call 164;apply ru.mono;rintro e w3 ⟨rfl,hf3⟩;have F3:=zy (F2.o.trans hf3 u_);have hm3:=zy (hm2.o.fr hf3 u_ u_);clear hf3)
  |(go_at_call 165;apply(hIn.o _ F3.o).mono;rintro e w4 ⟨rfl,hf4⟩;have F4:=zy (F3.o.trans hf4 u_);have hm4:=zy (hm3.o.fr hf4 u_ u_);clear hf4))
 go_roundg (rs.length+1-(q+1));case measure=>omega
 case rel=>
  refine⟨q+1,rfl,hlt,l_,hf.o.trans F4.o u_,?_⟩;rw[hst.o];(first|(have:=cc1;exact⟨r,mT,mu,hd,rfl,hk,hm4.o⟩)|(exact hB.o.fr F4.o u_ u_))):p:=h
def lA{w:Aw}{Q:Az}{uv:Ax}{sT rT:Av}{sx rx:Ax}{X:Ah}{p:Nat}(D:yC w P s ds sv xs)(E:yC w Q s' ds' sv' xs')(ha:TyV w P x a)(fx:vZ x)(z:∀c p,x=.leaf c p->zo c=true->∃X,zx ds c=some X)(ho:w.ownsRow 0 58 1 uv rs.length ((List.range rs.length).map X))(C:∀g,uv.ownBlock=some g->Q g)(hX:∀i t,rs[i]?=some t->TyV w Q t (X i))(hl:rs.length<=1000)(l:∀t∈rs,vZ t)(A:∀t∈rs,∀c p,t=.leaf c p->zo c=true->∃Y,zx ds' c=some Y):Calls prog 123 #[.agg #[sv,.iface sT sx,sv',.iface rT rx],a,.agg #[I_ p,uv]] w λe w'=>∃v,e=.returned v/\Fr w w' N_/\BrV w' P Q s s' (zx ds) (zx ds') (ZV ds' xs') x rs (xc (zx ds) (zx ds') x rs 0 none) v:=by
 obtain⟨L,d⟩:=y_ (λ(e:Ending) (w':World)=>∃v,e=.returned v/\Fr w w' N_/\BrV w' P Q s s' (zx ds) (zx ds') (ZV ds' xs') x rs (xc (zx ds) (zx ds') x rs 0 none) v);rw[<- d.o];have hM:=zy (λW (f:Fr w W N_) r b (hr:r∈rs) (hb:TyV W Q r b)=>tO (sT:=sT) (rT:=rT) (sx:=sx) (rx:=rx) (D.fr f u_) (E.fr f u_) (ha.fr f u_) hb fx (l r hr) z (A r hr));obtain⟨sa,sc,rfl⟩:=zw D.row;obtain⟨ra,rc,rfl⟩:=zw E.row;obtain⟨ua,uc,rfl⟩:=zw ho;obtain⟨aT,ax,rfl⟩:=ha.iface;obtain⟨u,hwz⟩:=e_ ((w.alloc (.cells #[.slice sa ds.length sc,.iface sT sx,.slice ra ds'.length rc,.iface rT rx] 91)).alloc (.cells #[I_ p,.slice ua rs.length uc] 223));have j:Fr w u N_:=y5_
 have n:Blk u w.heap.size [.slice sa ds.length sc,.iface sT sx,.slice ra ds'.length rc,.iface rT rx] 91:=by
  rw[hwz];exact(B_ w #[.slice sa ds.length sc,.iface sT sx,.slice ra ds'.length rc,.iface rT rx] 91).alloc _
 replace j:=zy j;replace n:=zy n;replace hwz:=zy hwz;replace ho:=zy ho;replace C:=zy C;replace hX:=zy hX;replace l:=zy l;generalize G:zx ds=ew at hM d;generalize F:zx ds'=er at hM d;generalize J:ZV ds' xs'=Z at hM d;go_in;go_wp2;rw[<- hwz.o];go_loopg [7,16] (rs.length+1) (λm K v W=>∃q:Nat,v=I_ q/\q<=rs.length/\rs.length+1-q<=m/\Fr u W N_/\BrV W P Q s s' ew er Z x rs (xc ew er x (rs.take q) 0 none) K);case atStart=>exact⟨0,rfl,al_ _,M_,A_ _ _,rfl⟩
 case round=>
  obtain⟨q,rfl,N,hm,hf,hB⟩:=hrel;by_cases hlt:q<rs.length
  .have I:(q:Int)<(rs.length:Int):=M_;have hd:rs[q]?=some rs[q]:=ak_ hlt;have hmem:rs[q]∈rs:=bj_ hlt;generalize rs[q]=r at hd hmem;obtain⟨g,M,H⟩:=zp ho M_;cases H;have hfw:=j.o.trans hf u_;have ty:=(hX.o q r hd).fr hfw u_;have c0:=zt (zj ho hfw u_) rfl (k:=q) (x:=X q) (by rw[as_,ce_ hlt];rfl);obtain⟨bT,bx,B⟩:=ty.iface;rw[B]at ty c0;have b0:=hf.bl n id;obtain⟨k0,S,T,U⟩:=b0.d4;have hstep:=zy (ZF (ew:=ew) (er:=er) (x:=x) hd);have hT:=zy ty;replace hfw:=zy hfw;have hmem:=zy hmem;have hIn:=zy (λW (f:Fr wr W N_)=>oK (hT.o.fr f u_) (l.o r hmem));have hNv:=zy (λW m (h:MtV W P Q s s' ew er Z x r m)=>YQ h);cases hk:yt ew er x r
   .rw[hk]at hNv;have hst:H_ (xc ew er x (rs.take (q+1)) 0 none=xc ew er x (rs.take q) 0 none):=zy (by rw[hstep.o,hk];rfl);replace hB:=zy hB;replace hf:=zy hf;go_wp2_with (first
     |(go_at_call 124;apply(hM.o _ hfw r _ hmem hT).mono;rintro e w1 ⟨m1,rfl,hf1,hm1⟩;obtain⟨mT,mu,rfl⟩:=hm1.iface;have hm1:=zy hm1;have F1:=zy hf1)
     |(go_at_call 163;apply(hNv.o _ _ hm1).mono;rintro e w2 ⟨rfl,hf2⟩;have F2:=zy (F1.o.trans hf2 u_);have hm2:=zy (hm1.o.fr hf2 u_ u_)))
    go_roundg (rs.length+1-(q+1));case measure=>omega
    case rel=>
     refine⟨q+1,rfl,hlt,l_,hf.o.trans F2 u_,?_⟩;rw[hst.o];exact hB.o.fr F2 u_ u_
   .rw[hk]at hNv;cases hpk:xc ew er x (rs.take q) 0 none
    .rw[hpk]at hB;have hst:H_ (xc ew er x (rs.take (q+1)) 0 none=some q):=zy (by rw[hstep.o,hk,hpk];rfl);replace hB:u7=_:=hB;subst hB;replace hf:=zy hf;go_wp2_with (first
      |(go_at_call 124;apply(hM.o _ hfw r _ hmem hT).mono;rintro e w1 ⟨m1,rfl,hf1,hm1⟩;obtain⟨mT,mu,rfl⟩:=hm1.iface;have hm1:=zy hm1;have F1:=zy hf1)
      |(go_at_call 163;apply(hNv.o _ _ hm1).mono;rintro e w2 ⟨rfl,hf2⟩;have F2:=zy (F1.o.trans hf2 u_);have hm2:=zy (hm1.o.fr hf2 u_ u_))
      |(go_at_call 164;apply(JP _ D_ _).mono;rintro e w3 ⟨rfl,hf3⟩;have F3:=zy (F2.o.trans hf3 u_);have hm3:=zy (hm2.o.fr hf3 u_ u_)))
     go_roundg (rs.length+1-(q+1));case measure=>omega
     case rel=>
      refine⟨q+1,rfl,hlt,l_,hf.o.trans F3 u_,?_⟩;rw[hst.o];exact⟨r,mT,mu,hd,rfl,hk,hm3⟩
    .rename_i O;cases hkd:(r.kind==105)
     .exact cwlA1_
     .have cc1:=Nat;exact cwlA1_
  .have I:¬((q:Int)<(rs.length:Int)):=M_;rw[bc_ M_]at hB;replace hB:=zy hB;replace hf:=zy hf;go_wp2;try go_ret
   rw[d.o];exact⟨_,rfl,j.o.trans hf u_,hB⟩
section
variable {w:Aw} {p:Nat} {sa ra:Al} {sn sc rn rc:Nat} {sT rT aT bT:Av} {sx rx ax bx:Ax}
def Jl(ha:aT≠223)(h:∀W,Fr w W N_->Calls prog 123 #[.agg #[.slice sa sn sc,.iface sT sx,.slice ra rn rc,.iface rT rx],.iface aT ax,.agg #[I_ p,.slice ua un uc]] W (λe w'=>∃v,e=.returned v/\R (.returned v) w')):Calls prog 85 #[.agg #[.slice sa sn sc,.iface sT sx,.slice ra rn rc,.iface rT rx],.iface aT ax,.iface 223 (.agg #[I_ p,.slice ua un uc])] w R:=by
 have cc1:=Nat
 exact cq26_
end
inductive MeV (w:Aw) (P Q:Az) (s s':BA) (ew er:Au) (Z:Dt):PT->PT->Value->Prop
 |outb {p:Nat} {ws:List PT} {y:PT} {uv b:Value} (X:Nat->Value) (ho:w.ownsRow 0 58 1 uv ws.length ((List.range ws.length).map X)) (hX:∀i t,ws[i]?=some t->TyV w P t (X i)) (hb:TyV w Q y b) (hP:∀g,uv.ownBlock=some g->P g):MeV w P Q s s' ew er Z (.alts p ws) y (.iface 267 (.agg #[uv,b]))
 |into {x:PT} {p:Nat} {rs:List PT} {v:Value} (fx:vZ x) (h:BrV w P Q s s' ew er Z x rs (xc ew er x rs 0 none) v):MeV w P Q s s' ew er Z x (.alts p rs) v
 |flat {x y:PT} {v:Value} (fx:vZ x) (fy:vZ y) (h:MtV w P Q s s' ew er Z x y v):MeV w P Q s s' ew er Z x y v
def BrV.iface{w:Aw}{Q:Az}{k:Option Nat}(h:BrV w P Q s s' ew er Z x rs k v):∃T u,v=.iface T u:=by
 cases k with
 |none=>exact⟨_,_,h⟩
 |some i=>obtain⟨_,_,_,_,rfl,_⟩:=h;exact⟨_,_,rfl⟩
def MeV.iface{w:Aw}{Q:Az}{y:PT}(h:MeV w P Q s s' ew er Z x y v):∃T u,v=.iface T u:=by
 cases h with
 |outb=>exact⟨_,_,rfl⟩
 |into fx h=>exact h.iface
 |flat fx fy h=>exact h.iface
def lM{env:Au}(h:okT env t)(ha:t.isAlts=false):vZ t:=by
 cases t with
 |leaf c p=>exact trivial
 |wrap c p u=>unfold okT at h;exact h.1
 |alts p l=>simp[PT.isAlts]at ha
def cW{env:Au}(h:okT env t):∀c p,t=.leaf c p->zo c=true->∃X,env c=some X:=λc p e hn=>by
 subst e;unfold okT at h;rcases h with h|h
 .rw[xG hn]at h;cases h
 .exact h.2
def TyV.alts_inv{w:Aw}{p:Nat}{l:Ad}(h:TyV w P (.alts p l) v):∃(uv:Value) (X:Nat->Value),v=.iface 223 (.agg #[I_ p,uv])/\w.ownsRow 0 58 1 uv l.length ((List.range l.length).map X)/\(∀g,uv.ownBlock=some g->P g)/\∀i t,l[i]?=some t->TyV w P t (X i):=by
 cases h with
 |alts p X ho hP h=>exact⟨_,X,rfl,ho,hP,h⟩
def TyV.flat_ne{w:Aw}{T:Av}{u:Ax}(h:TyV w P x (.iface T u))(fx:vZ x):T≠223:=by
 cases h with
 |base c p h=>exact(ji c).2.2.1
 |name c p h=>decide
 |wrap c p h=>
  rcases fx with rfl|rfl
  .decide
  .decide
 |alts p X ho hP h=>exact fx.elim
def oq{w:Aw}{Q:Az}{sT rT:Av}{sx rx:Ax}{y:PT}{b:Ax}(D:yC w P s ds sv xs)(E:yC w Q s' ds' sv' xs')(ha:TyV w P x a)(hb:TyV w Q y b)(hx:okT (zx ds) x)(hy:okT (zx ds') y)(fy:xA y):Calls prog 85 #[.agg #[sv,.iface sT sx,sv',.iface rT rx],a,b] w λe w'=>∃v,e=.returned v/\Fr w w' N_/\MeV w' P Q s s' (zx ds) (zx ds') (ZV ds' xs') x y v:=by
 obtain⟨sa,sc,o⟩:=zw D.row;obtain⟨ra,rc,n⟩:=zw E.row;cases m:x.isAlts with
 |true=>
  cases x with
  |leaf c p=>simp[PT.isAlts]at m
  |wrap c p u=>simp[PT.isAlts]at m
  |alts p ws=>
   obtain⟨uv,X,rfl,ho,hP,hX⟩:=ha.alts_inv;obtain⟨bT,bx,rfl⟩:=hb.iface;obtain⟨ua,uc,r⟩:=zw ho;subst o n r;apply Wf.mono;rintro e w' ⟨rfl,hf⟩;exact⟨_,rfl,hf,.outb X (zj ho hf u_) (λi t h=>(hX i t h).fr hf u_) (hb.fr hf u_) hP⟩
 |false=>
  have fx:=lM hx m;cases z:y.isAlts with
  |true=>
   cases y with
   |leaf c p=>simp[PT.isAlts]at z
   |wrap c p u=>simp[PT.isAlts]at z
   |alts p rs=>
    obtain⟨uv,X,rfl,ho,hP,hX⟩:=hb.alts_inv;obtain⟨aT,ax,rfl⟩:=ha.iface;obtain⟨ua,uc,r⟩:=zw ho;unfold okT at hy;unfold xA at fy;have m:=vW hy.2;have l:=λW (d:Fr w W N_)=>(lA (sT:=sT) (rT:=rT) (sx:=sx) (rx:=rx) (p:=p) (D.fr d u_) (E.fr d u_) (ha.fr d u_) fx (cW hx) (zj ho d u_) hP (λi t h=>(hX i t h).fr d u_) M_ (λt g=>lM (m t g).2 (m t g).1) (λt g=>cW (m t g).2)).mono (λe w' (q:∃v,e=.returned v/\Fr W w' N_/\BrV w' P Q s s' (zx ds) (zx ds') (ZV ds' xs') x rs (xc (zx ds) (zx ds') x rs 0 none) v)=>show ∃v,e=.returned v/\∃f,Ending.returned v=.returned f/\Fr w w' N_/\MeV w' P Q s s' (zx ds) (zx ds') (ZV ds' xs') x (.alts p rs) f by
     obtain⟨v,h1,j,k⟩:=q
     exact⟨v,h1,v,rfl,d.trans j u_,.into fx k⟩)
    have A:=ha.flat_ne fx;subst o n r;exact Jl A l
  |false=>
   have g:=lM hy z;obtain⟨aT,ax,rfl⟩:=ha.iface;obtain⟨bT,bx,rfl⟩:=hb.iface;have l:=λW (d:Fr w W N_)=>(tO (sT:=sT) (rT:=rT) (sx:=sx) (rx:=rx) (D.fr d u_) (E.fr d u_) (ha.fr d u_) (hb.fr d u_) fx g (cW hx) (cW hy)).mono (λe w' (q:∃v,e=.returned v/\Fr W w' N_/\MtV w' P Q s s' (zx ds) (zx ds') (ZV ds' xs') x y v)=>show ∃v,e=.returned v/\∃f,Ending.returned v=.returned f/\Fr w w' N_/\MeV w' P Q s s' (zx ds) (zx ds') (ZV ds' xs') x y f by
    obtain⟨v,h1,j,k⟩:=q
    exact⟨v,h1,v,rfl,d.trans j u_,.flat fx g k⟩)
   have A:=ha.flat_ne fx;have B:=hb.flat_ne g;subst o n;exact Jh A B l
set_option maxRecDepth 100000
set_option linter.defProp false
@[go_sem]def Mb:=yH 265 203
@[go_sem]def MB:=vm 265 203 (.agg #[])
@[go_sem]def Uc:=yH 267 203
@[go_sem]def Mf:=vm 267 203 (.agg #[L_,.nilIface])
@[go_sem]def Mp:=yH 270 203
@[go_sem]def MP:=vm 270 203 (.agg #[O_,.nilIface])
@[go_sem]def FF:=yH 272 203
@[go_sem]def PO:=vm 272 203 (.agg #[.nilIface,.nilIface])
@[go_sem]def Wm:=yH 275 203
@[go_sem]def GB:=vm 275 203 (.agg #[O_,L_,.pointer none,O_,L_,.pointer none])
@[go_sem]def GU:=yH 278 203
@[go_sem]def FP:=vm 278 203 (.agg #[O_,L_,O_,L_])
section
variable {w:Aw} {sa ra:Al} {sn sc rn rc:Nat} {sT rT aT bT dT:Av} {sx rx ax bx dx:Ax}
def cq12_{p:Prop}(h:p:=by
 refine hq_ λq m=>?_;have i:=zy (λo=>(A_ w N_).alloc o);have j:=zy (λo d=>((A_ w N_).alloc o).alloc d);have k:=zy (λo d g=>(((A_ w N_).alloc o).alloc d).alloc g);have l:=zy (λo d g n=>((((A_ w N_).alloc o).alloc d).alloc g).alloc n);replace h:=zy h;go_in;go_wp2_with ((first|go_at_call 121|go_at_call 122|go_at_call 120|go_at_call 119|go_at_call 118);apply(h.o _ ?fr).mono;(case fr=>(first|exact i.o _|exact j.o _ _|exact k.o _ _ _|exact l.o _ _ _ _|exact A_ _ _));rintro e w1 ⟨v,r,rfl,f⟩;replace f:=zy f);try go_ret
 rw[m.o];exact f.o):p:=h
def iZ(h:∀W,Fr w W N_->Calls prog 118 #[.agg #[.slice sa sn sc,.iface sT sx,.slice ra rn rc,.iface rT rx],.agg #[.slice ua un uc,.iface bT bx],.iface dT dx] W (λe w'=>∃v ev,e=.returned (.tuple #[v,ev])/\R (.returned (.tuple #[v,ev])) w')):Calls prog 84 #[.agg #[.slice sa sn sc,.iface sT sx,.slice ra rn rc,.iface rT rx],.iface 267 (.agg #[.slice ua un uc,.iface bT bx]),.iface dT dx] w R:=by
 have cc4:=Nat
 exact cq12_
def oc{n:Int}(h:∀W,Fr w W N_->Calls prog 119 #[.agg #[.slice sa sn sc,.iface sT sx,.slice ra rn rc,.iface rT rx],.agg #[Z_ n,.iface bT bx],.iface dT dx] W (λe w'=>∃v ev,e=.returned (.tuple #[v,ev])/\R (.returned (.tuple #[v,ev])) w')):Calls prog 84 #[.agg #[.slice sa sn sc,.iface sT sx,.slice ra rn rc,.iface rT rx],.iface 270 (.agg #[Z_ n,.iface bT bx]),.iface dT dx] w R:=by
 have cc3:=Nat
 exact cq12_
def gq(h:∀W,Fr w W N_->Calls prog 120 #[.agg #[.slice sa sn sc,.iface sT sx,.slice ra rn rc,.iface rT rx],.agg #[.iface aT ax,.iface bT bx],.iface dT dx] W (λe w'=>∃v ev,e=.returned (.tuple #[v,ev])/\R (.returned (.tuple #[v,ev])) w')):Calls prog 84 #[.agg #[.slice sa sn sc,.iface sT sx,.slice ra rn rc,.iface rT rx],.iface 272 (.agg #[.iface aT ax,.iface bT bx]),.iface dT dx] w R:=by
 have cc2:=Nat
 exact cq12_
def uU{p q:Int}{va:Al}{vn vc:Nat}{a b:Al}(h:∀W,Fr w W N_->Calls prog 121 #[.agg #[Z_ p,.slice ua un uc,.pointer a,Z_ q,.slice va vn vc,.pointer b],.iface dT dx] W (λe w'=>∃v ev,e=.returned (.tuple #[v,ev])/\R (.returned (.tuple #[v,ev])) w')):Calls prog 84 #[.agg #[.slice sa sn sc,.iface sT sx,.slice ra rn rc,.iface rT rx],.iface 275 (.agg #[Z_ p,.slice ua un uc,.pointer a,Z_ q,.slice va vn vc,.pointer b]),.iface dT dx] w R:=by
 exact cq12_
def cY{p q:Int}{va:Al}{vn vc:Nat}(h:∀W,Fr w W N_->Calls prog 122 #[.agg #[.slice sa sn sc,.iface sT sx,.slice ra rn rc,.iface rT rx],.agg #[Z_ p,.slice ua un uc,Z_ q,.slice va vn vc],.iface dT dx] W (λe w'=>∃v ev,e=.returned (.tuple #[v,ev])/\R (.returned (.tuple #[v,ev])) w')):Calls prog 84 #[.agg #[.slice sa sn sc,.iface sT sx,.slice ra rn rc,.iface rT rx],.iface 278 (.agg #[Z_ p,.slice ua un uc,Z_ q,.slice va vn vc]),.iface dT dx] w R:=by
 have cc1:=Nat
 exact cq12_
def mJ:Calls prog 84 #[.agg #[.slice sa sn sc,.iface sT sx,.slice ra rn rc,.iface rT rx],.iface 265 (.agg #[]),.iface dT dx] w λe w'=>e=.returned (.tuple #[.iface dT dx,.nilIface])/\Fr w w' N_:=by
 refine hq_ λd k=>?_;have g:=zy (λo=>(A_ w N_).alloc o);have h:=zy (λo d=>((A_ w N_).alloc o).alloc d);have i:=zy (λo d f=>(((A_ w N_).alloc o).alloc d).alloc f);have j:=zy (λo d f l=>((((A_ w N_).alloc o).alloc d).alloc f).alloc l);go_in;go_wp2;try go_ret
 rw[k.o];refine⟨rfl,?_⟩
 (first|exact g.o _|exact h.o _ _|exact i.o _ _ _|exact j.o _ _ _ _|exact A_ _ _)
end
def rQ:∀(fs:List PF) (d:List Nat),rK d fs=[]->(fs.map PF.letter).Nodup/\∀c∈fs.map PF.letter,c∉d
 | [],d,_=>⟨List.nodup_nil,λc hc=>by cases hc⟩
 |f::r,d,h=>by
  unfold rK at h;rw[bv_]at h;obtain⟨h1,g⟩:=h;obtain⟨a,b⟩:=rQ r _ g;have hf:f.letter∉d:=λe=>by rw[i_ e]at h1;cases h1
  refine⟨?_,λc hc=>?_⟩
  .rw[av_,List.nodup_cons];exact⟨λe=>b _ e (b4_ _ (a2_.2 rfl)),a⟩
  .rw[av_]at hc;rcases an_.1 hc with rfl|hc
   .exact hf
   .exact λe=>b c hc (by_ _ e)
def nG(env:Au):∀(ds:List PD) (e:List Nat),ke env e ds=[]->∀d∈ds,qc env d.body=[]
 | [],_,_,d,hd=>by cases hd
 |x::r,e,h,d,hd=>by
  unfold ke at h;simp only[bv_]at h;rcases an_.1 hd with rfl|hd
  .exact h.2.1
  .exact nG env r _ h.2.2 d hd
def XO{b:PB}(he:zx ds c=some b):∃d∈ds,d.body=b:=by
 unfold zx at he;cases hl:vf 0 c ds with
 |none=>rw[hl]at he;cases he
 |some q=>
  obtain⟨f,f⟩:=q;rw[hl]at he;simp only[bh_,af_]at he;subst he;obtain⟨d,hd,e⟩:=gm hl;exact⟨d,hd,e⟩
def uo(h:xP ds t=[]){fs:An}(he:zx ds c=some (.recd fs)):(fs.map PF.letter).Nodup:=by
 unfold xP at h;rw[bv_]at h;obtain⟨d,hd,e⟩:=XO he;have hb:=nG _ _ _ h.1 d hd;rw[e]at hb;have hn:rK [] fs=[]:=by
  cases hx:rK [] fs with
  |nil=>rfl
  |cons a l=>
   have:=(oP (zx ds) fs a []).2 (.inl (by rw[hx];exact b2_));rw[show kt (zx ds) [] fs=[] from hb]at this;cases this
 exact(rQ fs [] hn).1
def sm(g:En):List Nat->Nat
 | []=>0
 |c::r=>g c+sm g r
def yE(er:Au)(s:BA)(g:PF):Option DT:=
 match g.dflt with
 |none=>none
 |some (a,e)=>yI er true g.ty (s.extract a e)
def kQ(h0:(zu s).1=0):s.size<=300/\∃ds t,zi s=.ok (ds,t):=by
 unfold zu at h0;split at h0
 .simp at h0
 .rename_i hs;refine⟨M_,?_⟩;cases hp:zi s with
  |error k=>rw[hp]at h0;simp at h0
  |ok r=>exact⟨r.1,r.2,rfl⟩
end Go.Proofs.YtamhgejdkclmdaaGreatDoor
