import Derived.Test.YtjkiencmjggakaaGreatDoorW17
set_option maxHeartbeats 16000000
set_option maxRecDepth 100000
set_option linter.unusedVariables false
set_option linter.defProp false
set_option linter.unusedSimpArgs false
open Go.Proofs.Tryz
namespace Go.Proofs.YtjkiencmjggakaaGreatDoor
open Go.RowKit
variable {s s':BA}{P:Nat->Prop}{c:Nat}{x:PT}{ew er:Nat->Option PB}{n:Int}{v a u sv sv':Value}{ds ds':List PD}{Z:PB->Value->Prop}{w':World}{xs xs':List Value}{rs:List PT}
def At.self(s:BA):At s 0 s:=⟨M_,λk _=>by rw[bn_]⟩
def Pre.app(a b:BA):Pre a (a++b):=(At.app.1 (At.self (a++b))).1
def rW:∀(l:List (Nat×Nat)) (d:List Nat),qT d l=[]->(∀x∈l.map Prod.fst,x∉d)/\(l.map Prod.fst).Nodup
 | [],_,_=>⟨λx hx=>(by cases hx),List.nodup_nil⟩
 |q::r,d,h=>by
  rw[qT,bw_]at h;obtain⟨h1,e⟩:=h;have f:q.1∉d:=λd=>by rw[i_ d]at h1;cases h1
  obtain⟨a,b⟩:=rW r _ e;rw[aw_];refine⟨λx hx=>?_,List.nodup_cons.2 ⟨λd=>?_,b⟩⟩
  .rcases ao_.1 hx with rfl|hx
   .exact f
   .exact λd=>a x hx (bu_ _ d)
  .exact a _ d (b1_ _ (a1_.2 rfl))
def pS(env:Nat->Option PB):∀(ds:List PD) (e:List Nat),wo env e ds=[]->∀d∈ds,qu env d.body=[]
 | [],_,_,d,hd=>by cases hd
 |x::r,e,h,d,hd=>by
  rw[wo,bw_,bw_]at h;rcases ao_.1 hd with rfl|hd
  .exact h.2.1
  .exact pS env r _ h.2.2 d hd
def tI{t:PT}(h0:(zg s).1=0)(hp:ze s=.ok (ds,t)):s.size<=300/\xY ds t=[]/\xZ ds t=[]:=by
 have hs:s.size<=300:=by
  by_cases h:300<s.size
  .unfold zg at h0;rw[i_ h]at h0;exact absurd h0 D_
  .omega
 rw[fp hs hp]at h0;refine⟨hs,?_⟩;split at h0
 .simp at h0
 .simp at h0
 .simp at h0
 .rename_i h1 d _;exact⟨h1,d⟩
def VR{t:PT}(h0:(zg s).1=0)(hp:ze s=.ok (ds,t)):Bl (zx ds)/\Wc (zx ds)/\vu t/\okT (zx ds) t/\qU (zx ds):=by
 obtain⟨hs,hn,hu⟩:=tI h0 hp;obtain⟨f,_,_,g,h⟩:=kN hs hp hn hu;refine⟨λc l o e=>?_,Wm f,qD t (xO hs hp).2.1,g,h⟩;unfold xY at hn;rw[bw_]at hn;have g:=f.sm c l o e;have e':=e;unfold zx at e';obtain⟨⟨pb,b⟩,hl,f⟩:=b4_.1 e';simp only at f;subst f;obtain⟨d,hd,hb⟩:=qH hl;have f:=pS _ ds [] hn.1 d hd;rw[hb]at f;unfold qu at f;rw[bw_]at f;refine⟨(rW l [] f.1).2,λx hx=>?_⟩;obtain⟨q,f,rfl⟩:=ay_.1 hx;have:=g q f;simp[zh]at this;exact this
def Kit(A:Nat->Addr)(w:World):Prop:=xh A w/\yO w/\yA w/\vh w/\jk w
def Kit.fr{A:Nat->Addr}{w:World}(h:Kit A w)(hf:Fr w w' N_):Kit A w':=by
 obtain⟨S,i,hQ,hP,f⟩:=h;have hz:=hf.size;have e:∀W,yg w' W->yg w W:=λW d g hg=>(d g M_).trans (hf.block g hg id);exact⟨S.fr hf,λW d=>i W (e W d),λW d=>hQ W (e W d),λW d=>hP W (e W d),λW B h0 hB d=>f W B M_ hB (e W d)⟩
def eT:PT:=.wrap 91 0 (.leaf 105 1)
def yV:PB->Nat×Nat
 | .recd _=>(114,0)
 | .enum _ _=>(101,0)
 | .bytes n=>(102,n)
def yW(ew er:Nat->Option PB):PT->PT->Bool
 | .leaf c _,.leaf c' _=>
  if zu c=true then (c'==c||(c==105&&c'==108))
  else c==c'&&(match ew c,er c' with|some a,some b=>decide (yV a=yV b)|_,_=>false)
 | .wrap c _ _,.wrap c' _ _=>c==c'
 | _,_=>false
def xk(ew er:Nat->Option PB)(w:PT):List PT->Nat->Option Nat->Option Nat
 | [],_,k=>k
 |r::rs,i,k=>xk ew er w rs (i+1) (if (yW ew er w r&&(k.isNone||r.kind==105))=true then some i else k)
def jg(fs:List PF)(c:Nat):Option Nat:=(fs.map PF.letter).findIdx? (λx=>x==c)
def ql(l:List (Nat×Nat))(o:Option (Nat×Nat))(c:Nat):Option Nat:=
 match (l.map Prod.fst).findIdx? (λx=>x==c) with
 |some q=>some q
 |none=>match o with|none=>none|some (u,_)=>(l.map Prod.fst).findIdx? (λx=>x==u)
def fY(o:Option Nat):Value:=.tuple #[z_ ((o.getD 0:Nat):Int),.bool o.isSome]
def VH{w:World}{fs:List PF}{fv:Value}{zs:List Value}{p:Int}(h:xB w P s fs fv zs)(hl:fs.length<=300):Calls prog 148 #[.agg #[z_ p,fv],U_ c] w λe w'=>e=.returned (fY (jg fs c))/\Fr w w' N_:=by
 refine hq_ λi j=>?_;obtain⟨fa,fc,rfl⟩:=zl h.row;have i:Fr w (w.alloc (.cells #[z_ p,.slice fa fs.length fc] 215)) N_:=(A_ w _).alloc _;have start:H_ (∃q:Nat,Value.int .i64 0=I_ q/\q<=fs.length/\fs.length+1-q<=fs.length+1/\Fr w (w.alloc (.cells #[z_ p,.slice fa fs.length fc] 215)) N_/\c∉(fs.take q).map PF.letter):=zy ⟨0,rfl,al_ _,M_,i,by simp⟩;replace h:=zy h;go_in;go_wp2;go_loopg [6,11] (fs.length+1) (λm i v W=>∃q:Nat,v=I_ q/\q<=fs.length/\fs.length+1-q<=m/\Fr w W N_/\c∉(fs.take q).map PF.letter);case atStart=>exact start
 case round=>
  obtain⟨q,rfl,i,hm,hf,he⟩:=hrel;have i:=hf.size;by_cases k:q<fs.length
  .have t:(q:Int)<(fs.length:Int):=M_;have hd:fs[q]?=some fs[q]:=af_ k;generalize fs[q]=f at hd;obtain⟨g,cap,i⟩:=zm h.o.row M_;cases i;obtain⟨T,x,d,c0,c1,c2,c3,_,_⟩:=(h.o.fr hf u_).cells hd;obtain⟨l,h⟩:=x_ f.letter;obtain⟨r,i⟩:=x_ f.place;rw[h]at c1;rw[i]at c0;have i:=zy (hf.trans ((A_ wr N_).alloc (.cells #[I_ r,U_ l,.iface T x,.pointer d] 189)) u_);by_cases hb:l=c
   .subst hb
    have hr:=zy (show jg fs l=some q by unfold jg;exact uK _ q l (by rw[aq_,hd,<- h];rfl) (by rw[<- List.map_take];exact he));go_wp2;try go_ret
    rw[j.o,hr.o];exact⟨rfl,i⟩
   .have r:((l:Int)==(c:Int))=false:=by rw[beq_eq_false_iff_ne];omega
    have r:=zy (show c∉(fs.take (q+1)).map PF.letter by
     rw[bf_,hd]
     simp only[Option.toList_some,bj_,aw_,bd_,a2_,a1_,not_or]
     exact⟨he,λe=>hb (by rw[<- h];exact e.symm)⟩)
    go_wp2;go_roundg (fs.length+1-(q+1));case measure=>omega
    case rel=>exact⟨q+1,rfl,k,l_,i,r⟩
  .have t:¬((q:Int)<(fs.length:Int)):=M_;rw[bv_ M_]at he;have hr:=zy (show jg fs c=none by unfold jg;exact wD he);replace hf:=zy hf;go_wp2;try go_ret
   rw[j.o,hr.o];exact⟨rfl,hf⟩
def Qh{w:World}{lv:Value}{l:List (Nat×Nat)}{p:Int}(ho:w.ownsRow 0 186 2 lv l.length (zE l))(hu:∃d,u=.pointer d)(hl:l.length<=300):Calls prog 176 #[.agg #[z_ p,lv,u],U_ c] w λe w'=>e=.returned (fY ((l.map Prod.fst).findIdx? (λx=>x==c)))/\Fr w w' N_:=by
 refine hq_ λh j=>?_;obtain⟨la,lc,rfl⟩:=zl ho;obtain⟨i,rfl⟩:=hu;have h:Fr w (w.alloc (.cells #[z_ p,.slice la l.length lc,.pointer i] 220)) N_:=(A_ w _).alloc _;have start:H_ (∃q:Nat,Value.int .i64 0=I_ q/\q<=l.length/\l.length+1-q<=l.length+1/\Fr w (w.alloc (.cells #[z_ p,.slice la l.length lc,.pointer i] 220)) N_/\c∉(l.take q).map Prod.fst):=zy ⟨0,rfl,al_ _,M_,h,by simp⟩;replace ho:=zy ho;go_in;go_wp2;go_loopg [6,11] (l.length+1) (λm h v W=>∃q:Nat,v=I_ q/\q<=l.length/\l.length+1-q<=m/\Fr w W N_/\c∉(l.take q).map Prod.fst);case atStart=>exact start
 case round=>
  obtain⟨q,rfl,h,hm,hf,he⟩:=hrel;have h:=hf.size;by_cases r:q<l.length
  .have t:(q:Int)<(l.length:Int):=M_;have hd:l[q]?=some l[q]:=af_ r;generalize l[q]=f at hd;obtain⟨k,z⟩:=f;obtain⟨g,cap,h⟩:=zm ho M_;cases h;have h:=zj ho hf u_;have c0:=zr h rfl (vf hd).1;have c1:=zr h rfl (vf hd).2;have i:=zy (hf.trans ((A_ wr N_).alloc (.cells #[I_ z,U_ k] 186)) u_);by_cases hb:k=c
   .subst hb
    have hr:=zy (show(l.map Prod.fst).findIdx? (λx=>x==k)=some q from uK _ q k (by rw[aq_,hd];rfl) (by rw[<- List.map_take];exact he));go_wp2;try go_ret
    rw[j.o,hr.o];exact⟨rfl,i⟩
   .have h:((k:Int)==(c:Int))=false:=by rw[beq_eq_false_iff_ne];omega
    have h:=zy (show c∉(l.take (q+1)).map Prod.fst by
     rw[bf_,hd]
     simp only[Option.toList_some,bj_,aw_,bd_,a2_,a1_,not_or]
     exact⟨he,λe=>hb e.symm⟩)
    go_wp2;go_roundg (l.length+1-(q+1));case measure=>omega
    case rel=>exact⟨q+1,rfl,r,l_,i,h⟩
  .have t:¬((q:Int)<(l.length:Int)):=M_;rw[bv_ M_]at he;have hr:=zy (show(l.map Prod.fst).findIdx? (λx=>x==c)=none from wD he);replace hf:=zy hf;go_wp2;try go_ret
   rw[j.o,hr.o];exact⟨rfl,hf⟩
def oH{w:World}{lv:Value}{l:List (Nat×Nat)}{o:Option (Nat×Nat)}{p:Int}(ho:w.ownsRow 0 186 2 lv l.length (zE l))(hu:qh w P o u)(hl:l.length<=300):Calls prog 146 #[.agg #[z_ p,lv,u],U_ c] w λe w'=>e=.returned (fY (ql l o c))/\Fr w w' N_:=by
 refine hq_ λf A=>?_;obtain⟨f,z⟩:∃d,u=.pointer d:=by
  unfold qh at hu;split at hu
  .exact⟨_,hu⟩
  .obtain⟨g',_,e,_⟩:=hu;exact⟨_,e⟩
 have t:=zy (λ(W:World) (h:Fr w W N_) (k:Nat)=>Qh (w:=W) (p:=p) (u:=u) (c:=k) (zj ho h u_) ⟨f,z⟩ hl);obtain⟨la,lc,rfl⟩:=zl ho;have j:=zy ((A_ w _).alloc _:Fr w (w.alloc (.cells #[z_ p,.slice la l.length lc,u] 220)) N_);have r:=zy (B_ w #[z_ p,.slice la l.length lc,u] 220);cases h:(l.map Prod.fst).findIdx? (λx=>x==c) with
 |some q=>
  have hr:=zy (show ql l o c=some q by unfold ql;rw[h]);subst z;replace h:=zy h;go_in;go_wp2_with (go_at_call 176;apply(t.o _ j.o c).mono;rintro e w1 ⟨rfl,f⟩;rw[h.o];simp only[fY,Option.getD_some,Option.isSome_some];have i:=zy (j.o.trans f u_));try go_ret
  rw[A.o,hr.o];exact⟨rfl,i.o⟩
 |none=>
  cases o with
  |none=>
   have hr:=zy (show ql l none c=none by unfold ql;rw[h]);obtain rfl:u=.pointer none:=hu;cases z;replace h:=zy h;go_in;go_wp2_with (go_at_call 176;apply(t.o _ j.o c).mono;rintro e w1 ⟨rfl,f⟩;rw[h.o];simp only[fY,Option.getD_none,Option.isSome_none];have i:=zy (j.o.trans f u_);have b2:=(f.bl r.o id).c2);try go_ret
   rw[A.o,hr.o];exact⟨rfl,i.o⟩
  |some cp=>
   obtain⟨m,B⟩:=cp;have hr:=zy (show ql l (some (m,B)) c=(l.map Prod.fst).findIdx? (λx=>x==m) by unfold ql;rw[h]);obtain⟨g,hg,rfl,hB⟩:=hu;cases z;replace h:=zy h;replace hB:=zy hB;go_in;go_wp2_with (go_at_call 176;with_reducible apply(t.o _ j.o c).mono;rintro e w1 ⟨rfl,f⟩;rw[h.o];simp only[fY,Option.getD_none,Option.isSome_none];have i:=zy (j.o.trans f u_);obtain⟨b0,b1,b2⟩:=(f.bl r.o id).d3;have z:=(i.o.bl hB.o id).c1;have j:=zy (f.bl r.o id);have r:=zy (i.o.bl hB.o id));refine tR_ (λW=>f_ W w.heap.size 0 (z_ p)/\f_ W w.heap.size 1 (.slice la l.length lc)/\f_ W w.heap.size 2 (P_ g)/\f_ W g 1 (U_ m)) ?_;refine tY_ 0 ?_;refine tY_ 1 ?_;refine tY_ 2 ?_;refine tY_ 3 ?_;refine tY_ 4 ?_;refine tY_ 5 ?_;refine zL 6 rfl K_ ⟨b0,b1,b2,z⟩ (λK h=>?_);go_simp;apply(t.o _ (i.o.drew) m).mono;rintro e f ⟨rfl,f⟩;refine h _ _ ?_;have h:=f.bl j.o.drew id;have j:=f.bl r.o.drew id;obtain⟨d0,d1,r⟩:=h.d3;have t:=j.c1;have B:=zy (i.o.drew.trans f u_);unfold fY;refine tY_ 7 ?_;refine tY_ 8 ?_;refine tY_ 9 ?_;refine tY_ 10 ?_;refine yh K_ ⟨d0,d1,r,t⟩ ?_ _;go_wp2;refine bodyPost_ret (v:=.tuple #[z_ ((((l.map Prod.fst).findIdx? (λx=>x==m)).getD 0:Nat):Int),.bool ((l.map Prod.fst).findIdx? (λx=>x==m)).isSome]) (by simp[results,results146,go_sem];try rfl) rfl ?_;rw[A.o,hr.o];exact⟨rfl,B.o⟩
set_option maxRecDepth 100000
set_option linter.defProp false
@[go_sem]def WP:=yB 271 20
@[go_sem]def eG:=vv 271 20 (.agg #[])
@[go_sem]def Gt:=yB 276 20
@[go_sem]def Zj:=vv 276 20 (.agg #[O_,.nilIface])
@[go_sem]def FR:=yB 202 20
@[go_sem]def Vf:=vv 202 20 (.agg #[O_])
@[go_sem]def QG:=yB 199 20
@[go_sem]def lQ:=vv 199 20 (.agg #[O_])
@[go_sem]def WG:=yB 201 20
@[go_sem]def eW:=vv 201 20 (.agg #[O_])
@[go_sem]def Gr:=yB 203 20
@[go_sem]def Zv:=vv 203 20 (.agg #[O_])
@[go_sem]def Gh:=yB 204 20
@[go_sem]def Zx:=vv 204 20 (.agg #[O_])
def oK{w:World}(u:TypeId)(h:u≠271)(v:Value):Calls prog 149 #[.iface u v] w λe w'=>e=.returned (.bool false)/\Fr w w' N_:=by
 have a:=eG u h v;have d:=zy (λo=>(A_ w N_).alloc o);go_in;go_wp2;try go_ret
 exact⟨rfl,d.o _⟩
def XV{w:World}(u:TypeId)(h:u≠276)(v:Value):Calls prog 150 #[.iface u v] w λe w'=>e=.returned (.bool false)/\Fr w w' N_:=by
 have a:=Zj u h v;have d:=zy (λo=>(A_ w N_).alloc o);go_in;go_wp2;try go_ret
 exact⟨rfl,d.o _⟩
def fM{w:World}(u:TypeId)(h:u≠202)(v:Value):Calls prog 151 #[.iface u v] w λe w'=>e=.returned (.bool false)/\Fr w w' N_:=by
 have a:=Vf u h v;have d:=zy (λo=>(A_ w N_).alloc o);go_in;go_wp2;try go_ret
 exact⟨rfl,d.o _⟩
def jD{w:World}(u:TypeId)(h:u≠199)(v:Value):Calls prog 153 #[.iface u v] w λe w'=>e=.returned (.bool false)/\Fr w w' N_:=by
 have a:=lQ u h v;have d:=zy (λo=>(A_ w N_).alloc o);go_in;go_wp2;try go_ret
 exact⟨rfl,d.o _⟩
def kX{w:World}(u:TypeId)(h:u≠201)(v:Value):Calls prog 154 #[.iface u v] w λe w'=>e=.returned (.bool false)/\Fr w w' N_:=by
 have a:=eW u h v;have d:=zy (λo=>(A_ w N_).alloc o);go_in;go_wp2;try go_ret
 exact⟨rfl,d.o _⟩
def wL{w:World}(u:TypeId)(h:u≠203)(v:Value):Calls prog 155 #[.iface u v] w λe w'=>e=.returned (.bool false)/\Fr w w' N_:=by
 have a:=Zv u h v;have d:=zy (λo=>(A_ w N_).alloc o);go_in;go_wp2;try go_ret
 exact⟨rfl,d.o _⟩
def wC{w:World}(u:TypeId)(h:u≠204)(v:Value):Calls prog 156 #[.iface u v] w λe w'=>e=.returned (.bool false)/\Fr w w' N_:=by
 have a:=Zx u h v;have d:=zy (λo=>(A_ w N_).alloc o);go_in;go_wp2;try go_ret
 exact⟨rfl,d.o _⟩
def iL{w:World}:Calls prog 149 #[.iface 271 (.agg #[])] w λe w'=>e=.returned (.bool true)/\Fr w w' N_:=by
 have d:=zy (λo=>(A_ w N_).alloc o);go_in;go_wp2;try go_ret
 exact⟨rfl,d.o _⟩
def mU{w:World}{T:TypeId}{x:Value}:Calls prog 150 #[.iface 276 (.agg #[z_ n,.iface T x])] w λe w'=>e=.returned (.bool true)/\Fr w w' N_:=by
 have d:=zy (λo=>(A_ w N_).alloc o);go_in;go_wp2;try go_ret
 exact⟨rfl,d.o _⟩
def XJ{w:World}:Calls prog 151 #[.iface 202 (.agg #[z_ n])] w λe w'=>e=.returned (.bool true)/\Fr w w' N_:=by
 have d:=zy (λo=>(A_ w N_).alloc o);go_in;go_wp2;try go_ret
 exact⟨rfl,d.o _⟩
def lf{w:World}:Calls prog 153 #[.iface 199 (.agg #[z_ n])] w λe w'=>e=.returned (.bool true)/\Fr w w' N_:=by
 have d:=zy (λo=>(A_ w N_).alloc o);go_in;go_wp2;try go_ret
 exact⟨rfl,d.o _⟩
def iC{w:World}:Calls prog 154 #[.iface 201 (.agg #[z_ n])] w λe w'=>e=.returned (.bool true)/\Fr w w' N_:=by
 have d:=zy (λo=>(A_ w N_).alloc o);go_in;go_wp2;try go_ret
 exact⟨rfl,d.o _⟩
def oG{w:World}:Calls prog 155 #[.iface 203 (.agg #[z_ n])] w λe w'=>e=.returned (.bool true)/\Fr w w' N_:=by
 have d:=zy (λo=>(A_ w N_).alloc o);go_in;go_wp2;try go_ret
 exact⟨rfl,d.o _⟩
def oJ{w:World}:Calls prog 156 #[.iface 204 (.agg #[z_ n])] w λe w'=>e=.returned (.bool true)/\Fr w w' N_:=by
 have d:=zy (λo=>(A_ w N_).alloc o);go_in;go_wp2;try go_ret
 exact⟨rfl,d.o _⟩
def jd{w:World}(b:Bool):Calls prog 152 #[.bool b] w λe w'=>e=.returned (if b=true then .iface 332 (.agg #[]) else .iface 271 (.agg #[]))/\w'=w:=by
 cases b with
 |true=>
  go_in;go_wp2;try go_ret
  exact⟨rfl,rfl⟩
 |false=>
  go_in;go_wp2;try go_ret
  exact⟨rfl,rfl⟩
inductive MbV:PB->PB->Value->Value->Value->Prop
 |flds {fw fr:List PF} {p sv q rv:Value}:MbV (.recd fw) (.recd fr) (.iface 215 (.agg #[p,sv])) (.iface 215 (.agg #[q,rv])) (.iface 283 (.agg #[p,sv,q,rv]))
 |syms {lw lr:List (Nat×Nat)} {ow or':Option (Nat×Nat)} {p sv u q rv u':Value}:MbV (.enum lw ow) (.enum lr or') (.iface 220 (.agg #[p,sv,u])) (.iface 220 (.agg #[q,rv,u'])) (.iface 280 (.agg #[p,sv,u,q,rv,u']))
 |same {n:Nat} {a b:Value}:MbV (.bytes n) (.bytes n) a b (.iface 332 (.agg #[]))
 |never {x y:PB} {a b:Value} (h:yV x≠yV y):MbV x y a b (.iface 271 (.agg #[]))
def qh.ptr{w:World}{o:Option (Nat×Nat)}(hu:qh w P o u):∃d,u=.pointer d:=by
 unfold qh at hu;split at hu
 .exact⟨_,hu⟩
 .obtain⟨g',_,e,_⟩:=hu;exact⟨_,e⟩
def iZ{w:World}{Q:Nat->Prop}{x y:PB}{b:Value}(ha:ye w P s x a)(hb:ye w Q s' y b):Calls prog 157 #[a,b] w λe w'=>∃v,e=.returned v/\Fr w w' N_/\MbV x y a b v:=by
 obtain⟨d,d⟩:=y_ (λ(e:Ending) (w':World)=>∃v,e=.returned v/\Fr w w' N_/\MbV x y a b v);rw[<- d.o];have f:=zy (λo g=>((A_ w N_).alloc o).alloc g);cases ha with
 |recd p ho hP h hp=>
  obtain⟨sa,sc,rfl⟩:=zl ho;cases hb with
  |recd p' ho' hP' h' hp'=>
   obtain⟨ra,rc,rfl⟩:=zl ho';go_in;go_wp2;try go_ret
   rw[d.o];exact⟨_,rfl,f.o _ _,.flds⟩
  |enum p' ho' hP' hu' hp'=>
   go_in;go_wp2;try go_ret
   rw[d.o];exact⟨_,rfl,f.o _ _,.never (by simp[yV])⟩
  |bytes p' n' hp'=>
   go_in;go_wp2;try go_ret
   rw[d.o];exact⟨_,rfl,f.o _ _,.never (by simp[yV])⟩
 |enum p ho hP hu hp=>
  obtain⟨sa,sc,rfl⟩:=zl ho;obtain⟨g,rfl⟩:=hu.ptr;cases hb with
  |recd p' ho' hP' h' hp'=>
   go_in;go_wp2;try go_ret
   rw[d.o];exact⟨_,rfl,f.o _ _,.never (by simp[yV])⟩
  |enum p' ho' hP' hu' hp'=>
   obtain⟨ra,rc,rfl⟩:=zl ho';obtain⟨g,rfl⟩:=hu'.ptr;go_in;go_wp2;try go_ret
   rw[d.o];exact⟨_,rfl,f.o _ _,.syms⟩
  |bytes p' n' hp'=>
   go_in;go_wp2;try go_ret
   rw[d.o];exact⟨_,rfl,f.o _ _,.never (by simp[yV])⟩
 |bytes p n hp=>
  have g:=zy (λ(W:World) (b:Bool)=>jd (w:=W) b);cases hb with
  |recd p' ho' hP' h' hp'=>
   go_in;go_wp2_with (go_at_call 152;apply(g.o _ _).mono;rintro e w1 ⟨rfl,rfl⟩);try go_ret
   rw[d.o];exact⟨_,rfl,f.o _ _,.never (by simp[yV])⟩
  |enum p' ho' hP' hu' hp'=>
   go_in;go_wp2_with (go_at_call 152;apply(g.o _ _).mono;rintro e w1 ⟨rfl,rfl⟩);try go_ret
   rw[d.o];exact⟨_,rfl,f.o _ _,.never (by simp[yV])⟩
  |bytes p' n' hp'=>
   by_cases i:n=n'
   .subst i
    go_in;go_wp2_with (go_at_call 152;apply(g.o _ _).mono;rintro e w1 ⟨rfl,rfl⟩);try go_ret
    rw[d.o];exact⟨_,rfl,f.o _ _,.same⟩
   .have j:((n':Int)==(n:Int))=false:=by rw[beq_eq_false_iff_ne];omega
    have j:=zy i;go_in;go_wp2_with (go_at_call 152;apply(g.o _ _).mono;rintro e w1 ⟨rfl,rfl⟩);try go_ret
    rw[d.o];exact⟨_,rfl,f.o _ _,.never (by simp[yV];exact j)⟩
def vH:PT->Prop
 | .leaf _ _=>True
 | .wrap c _ _=>c=91\/c=123
 | .alts _ _=>False
def iH{w:World}{Q:Nat->Prop}{y:PT}{b:Value}(hb:TyV w Q y b)(hf:vH y):Calls prog 151 #[b] w λe w'=>e=.returned (.bool (y.kind==105))/\Fr w w' N_:=by
 cases hb with
 |base c p h=>
  simp only[zu,au_,beq_iff_eq]at h;rcases h with(((rfl|rfl)|rfl)|rfl)|rfl;all_goals first
   |exact XJ
   |exact fM _ D_ _
 |name c p h=>
  have hc:65<=c/\c<=70:=by simpa[zp] using h
  have e:((PT.leaf c p).kind==105)=false:=by
   rw[beq_eq_false_iff_ne];show c≠105;omega
  rw[e];exact fM _ D_ _
 |wrap c p h=>
  rcases hf with rfl|rfl
  .exact fM _ D_ _
  .exact fM _ D_ _
 |alts p X ho hP h=>exact hf.elim
def tC{w:World}{Q:Nat->Prop}{y:PT}{b:Value}(hb:TyV w Q y b)(hf:vH y):Calls prog 153 #[b] w λe w'=>e=.returned (.bool (y.kind==110))/\Fr w w' N_:=by
 cases hb with
 |base c p h=>
  simp only[zu,au_,beq_iff_eq]at h;rcases h with(((rfl|rfl)|rfl)|rfl)|rfl;all_goals first
   |exact lf
   |exact jD _ D_ _
 |name c p h=>
  have hc:65<=c/\c<=70:=by simpa[zp] using h
  have e:((PT.leaf c p).kind==110)=false:=by
   rw[beq_eq_false_iff_ne];show c≠110;omega
  rw[e];exact jD _ D_ _
 |wrap c p h=>
  rcases hf with rfl|rfl
  .exact jD _ D_ _
  .exact jD _ D_ _
 |alts p X ho hP h=>exact hf.elim
def oV{w:World}{Q:Nat->Prop}{y:PT}{b:Value}(hb:TyV w Q y b)(hf:vH y):Calls prog 154 #[b] w λe w'=>e=.returned (.bool (y.kind==116))/\Fr w w' N_:=by
 cases hb with
 |base c p h=>
  simp only[zu,au_,beq_iff_eq]at h;rcases h with(((rfl|rfl)|rfl)|rfl)|rfl;all_goals first
   |exact iC
   |exact kX _ D_ _
 |name c p h=>
  have hc:65<=c/\c<=70:=by simpa[zp] using h
  have e:((PT.leaf c p).kind==116)=false:=by
   rw[beq_eq_false_iff_ne];show c≠116;omega
  rw[e];exact kX _ D_ _
 |wrap c p h=>
  rcases hf with rfl|rfl
  .exact kX _ D_ _
  .exact kX _ D_ _
 |alts p X ho hP h=>exact hf.elim
def rh{w:World}{Q:Nat->Prop}{y:PT}{b:Value}(hb:TyV w Q y b)(hf:vH y):Calls prog 155 #[b] w λe w'=>e=.returned (.bool (y.kind==108))/\Fr w w' N_:=by
 cases hb with
 |base c p h=>
  simp only[zu,au_,beq_iff_eq]at h;rcases h with(((rfl|rfl)|rfl)|rfl)|rfl;all_goals first
   |exact oG
   |exact wL _ D_ _
 |name c p h=>
  have hc:65<=c/\c<=70:=by simpa[zp] using h
  have e:((PT.leaf c p).kind==108)=false:=by
   rw[beq_eq_false_iff_ne];show c≠108;omega
  rw[e];exact wL _ D_ _
 |wrap c p h=>
  rcases hf with rfl|rfl
  .exact wL _ D_ _
  .exact wL _ D_ _
 |alts p X ho hP h=>exact hf.elim
def XZ{w:World}{Q:Nat->Prop}{y:PT}{b:Value}(hb:TyV w Q y b)(hf:vH y):Calls prog 156 #[b] w λe w'=>e=.returned (.bool (y.kind==115))/\Fr w w' N_:=by
 cases hb with
 |base c p h=>
  simp only[zu,au_,beq_iff_eq]at h;rcases h with(((rfl|rfl)|rfl)|rfl)|rfl;all_goals first
   |exact oJ
   |exact wC _ D_ _
 |name c p h=>
  have hc:65<=c/\c<=70:=by simpa[zp] using h
  have e:((PT.leaf c p).kind==115)=false:=by
   rw[beq_eq_false_iff_ne];show c≠115;omega
  rw[e];exact wC _ D_ _
 |wrap c p h=>
  rcases hf with rfl|rfl
  .exact wC _ D_ _
  .exact wC _ D_ _
 |alts p X ho hP h=>exact hf.elim
def Xu{p:Nat}{y:PT}(hc:zu c=true)(hf:vH y):yW ew er (.leaf c p) y=(y.kind==c||(c==105&&y.kind==108)):=by
 cases y with
 |leaf c' p'=>simp only[yW,hc,if_true,PT.kind]
 |wrap c' p' u=>
  simp only[zu,au_,beq_iff_eq]at hc;have:c'=91\/c'=123:=hf;simp only[yW,PT.kind];rcases hc with(((rfl|rfl)|rfl)|rfl)|rfl<;>rcases this with rfl|rfl<;>rfl
 |alts p' l=>exact hf.elim
def wV(b:Bool):Value:=if b=true then .iface 332 (.agg #[]) else .iface 271 (.agg #[])
section
variable {w:World} {Q:Nat->Prop} {y:PT} {b:Value} {p:Nat} {sa ra:Option Addr} {sn sc rn rc:Nat} {sT rT:TypeId} {sx rx:Value}
def cq13_{p:Prop}(h:p:=by
 (first|(have:=cc1;obtain⟨i,d⟩:∃R,H_ (R=λ(e:Ending) (w':World)=>e=.returned (wV (y.kind==115))/\Fr w w' N_):=⟨_,rfl⟩)|(have:=cc2;obtain⟨i,d⟩:∃R,H_ (R=λ(e:Ending) (w':World)=>e=.returned (wV (y.kind==116))/\Fr w w' N_):=⟨_,rfl⟩)|(have:=cc3;obtain⟨i,d⟩:∃R,H_ (R=λ(e:Ending) (w':World)=>e=.returned (wV (y.kind==110))/\Fr w w' N_):=⟨_,rfl⟩)|(obtain⟨i,d⟩:∃R,H_ (R=λ(e:Ending) (w':World)=>e=.returned (wV (y.kind==108))/\Fr w w' N_):=⟨_,rfl⟩));rw[<- d.o];(first|(have:=cc1;have f:=zy (λW (g:Fr w W N_)=>XZ (hb.fr g u_) hf))|(have:=cc2;have f:=zy (λW (g:Fr w W N_)=>oV (hb.fr g u_) hf))|(have:=cc3;have f:=zy (λW (g:Fr w W N_)=>tC (hb.fr g u_) hf))|(have f:=zy (λW (g:Fr w W N_)=>rh (hb.fr g u_) hf)));have l:=zy (λ(W:World) (b:Bool)=>jd (w:=W) b);have A:=zy (λo m=>((A_ w N_).alloc o).alloc m);obtain⟨bT,bx,rfl⟩:=hb.iface;clear hb hf;(first|(have:=cc1;generalize (y.kind==115)=bb at d f)|(have:=cc2;generalize (y.kind==116)=bb at d f)|(have:=cc3;generalize (y.kind==110)=bb at d f)|(generalize (y.kind==108)=bb at d f));cases bb;all_goals
  go_in;go_wp2_with (first
   |((first|go_at_call 155|go_at_call 156|go_at_call 154|go_at_call 153);apply(f.o _ (A.o _ _)).mono;rintro e w1 ⟨rfl,j⟩;have k:=zy ((A.o _ _).trans j u_);clear j)
   |(go_at_call 152;apply(l.o _ _).mono;rintro e q ⟨rfl,rfl⟩))
  try go_ret
  rw[d.o];exact⟨rfl,k.o⟩):p:=h
def Xg(hb:TyV w Q y b)(hf:vH y):Calls prog 127 #[.agg #[.slice sa sn sc,.iface sT sx,.slice ra rn rc,.iface rT rx],.iface 199 (.agg #[I_ p]),b] w λe w'=>e=.returned (wV (y.kind==110))/\Fr w w' N_:=by
 have cc3:=trivial
 exact cq13_
def Xq(hb:TyV w Q y b)(hf:vH y):Calls prog 127 #[.agg #[.slice sa sn sc,.iface sT sx,.slice ra rn rc,.iface rT rx],.iface 201 (.agg #[I_ p]),b] w λe w'=>e=.returned (wV (y.kind==116))/\Fr w w' N_:=by
 have cc2:=trivial
 exact cq13_
def Xf(hb:TyV w Q y b)(hf:vH y):Calls prog 127 #[.agg #[.slice sa sn sc,.iface sT sx,.slice ra rn rc,.iface rT rx],.iface 203 (.agg #[I_ p]),b] w λe w'=>e=.returned (wV (y.kind==108))/\Fr w w' N_:=by
 exact cq13_
def Xw(hb:TyV w Q y b)(hf:vH y):Calls prog 127 #[.agg #[.slice sa sn sc,.iface sT sx,.slice ra rn rc,.iface rT rx],.iface 204 (.agg #[I_ p]),b] w λe w'=>e=.returned (wV (y.kind==115))/\Fr w w' N_:=by
 have cc1:=trivial
 exact cq13_
end
section
variable {w:World} {Q:Nat->Prop} {y:PT} {b:Value} {p:Nat} {sa ra:Option Addr} {sn sc rn rc:Nat} {sT rT:TypeId} {sx rx:Value}
def Xp(hb:TyV w Q y b)(hf:vH y):Calls prog 127 #[.agg #[.slice sa sn sc,.iface sT sx,.slice ra rn rc,.iface rT rx],.iface 202 (.agg #[I_ p]),b] w λe w'=>e=.returned (wV (y.kind==105||y.kind==108))/\Fr w w' N_:=by
 obtain⟨d,d⟩:=y_ (λ(e:Ending) (w':World)=>e=.returned (wV (y.kind==105||y.kind==108))/\Fr w w' N_);rw[<- d.o];have h:=zy (λW (f:Fr w W N_)=>iH (hb.fr f u_) hf);have j:=zy (λW (f:Fr w W N_)=>rh (hb.fr f u_) hf);have i:=zy (λ(W:World) (b:Bool)=>jd (w:=W) b);have A:=zy (λo f=>((A_ w N_).alloc o).alloc f);obtain⟨bT,bx,rfl⟩:=hb.iface;generalize (y.kind==105)=bb at d h;generalize (y.kind==108)=bl at d j;cases bb
 .cases bl;all_goals
   go_in;go_wp2_with (first
    |(go_at_call 151;apply(h.o _ (A.o _ _)).mono;rintro e w1 ⟨rfl,f⟩;have g:=zy ((A.o _ _).trans f u_))
    |(go_at_call 155;apply(j.o _ g).mono;rintro e j ⟨rfl,j⟩;have k:=zy (g.o.trans j u_))
    |(go_at_call 152;apply(i.o _ _).mono;rintro e j ⟨rfl,rfl⟩))
   try go_ret
   rw[d.o];exact⟨rfl,k⟩
 .go_in;go_wp2_with (first
   |(go_at_call 151;apply(h.o _ (A.o _ _)).mono;rintro e w1 ⟨rfl,f⟩;have g:=zy ((A.o _ _).trans f u_))
   |(go_at_call 152;apply(i.o _ _).mono;rintro e j ⟨rfl,rfl⟩))
  try go_ret
  rw[d.o];exact⟨rfl,g⟩
end
section
variable {w:World} {p p':Nat} {sa ra:Option Addr} {sn sc rn rc:Nat} {sT rT uT vT bT:TypeId} {sx rx ux vx bx:Value}
def cq17_{p:Prop}(h:p:=by
 obtain⟨f,d⟩:=y_ (λ(e:Ending) (w':World)=>e=.returned (.iface 277 (.agg #[.iface uT ux,.iface vT vx]))/\Fr w w' N_);rw[<- d.o];go_in;go_wp2;try go_ret
 rw[d.o];exact⟨rfl,(((A_ w N_).alloc _).alloc _).alloc _⟩):p:=h
def tW:Calls prog 127 #[.agg #[.slice sa sn sc,.iface sT sx,.slice ra rn rc,.iface rT rx],.iface 206 (.agg #[I_ p,.iface uT ux]),.iface 206 (.agg #[I_ p',.iface vT vx])] w λe w'=>e=.returned (.iface 277 (.agg #[.iface uT ux,.iface vT vx]))/\Fr w w' N_:=by
 exact cq17_
def cq22_{p:Prop}(h:p:=by
 obtain⟨g,d⟩:=y_ (λ(e:Ending) (w':World)=>e=.returned (.iface 271 (.agg #[]))/\Fr w w' N_);rw[<- d.o];(first|(have:=cc1;have f:=rC bT hT)|(have:=cc2;have f:=qN bT hT)|(have f:=wX bT hT));go_in;go_wp2;try go_ret
 rw[d.o];exact⟨rfl,(((A_ w N_).alloc _).alloc _).alloc _⟩):p:=h
def wm(hT:bT≠206):Calls prog 127 #[.agg #[.slice sa sn sc,.iface sT sx,.slice ra rn rc,.iface rT rx],.iface 206 (.agg #[I_ p,.iface uT ux]),.iface bT bx] w λe w'=>e=.returned (.iface 271 (.agg #[]))/\Fr w w' N_:=by
 have cc2:=trivial
 exact cq22_
def ly:Calls prog 127 #[.agg #[.slice sa sn sc,.iface sT sx,.slice ra rn rc,.iface rT rx],.iface 207 (.agg #[I_ p,.iface uT ux]),.iface 207 (.agg #[I_ p',.iface vT vx])] w λe w'=>e=.returned (.iface 277 (.agg #[.iface uT ux,.iface vT vx]))/\Fr w w' N_:=by
 exact cq17_
def ko(hT:bT≠207):Calls prog 127 #[.agg #[.slice sa sn sc,.iface sT sx,.slice ra rn rc,.iface rT rx],.iface 207 (.agg #[I_ p,.iface uT ux]),.iface bT bx] w λe w'=>e=.returned (.iface 271 (.agg #[]))/\Fr w w' N_:=by
 exact cq22_
def qW(hT:bT≠213):Calls prog 127 #[.agg #[.slice sa sn sc,.iface sT sx,.slice ra rn rc,.iface rT rx],.iface 213 (.agg #[I_ p,U_ c]),.iface bT bx] w λe w'=>e=.returned (.iface 271 (.agg #[]))/\Fr w w' N_:=by
 have cc1:=trivial
 exact cq22_
def pF{d:Nat}(hc:¬((d:Int)=(c:Int))):Calls prog 127 #[.agg #[.slice sa sn sc,.iface sT sx,.slice ra rn rc,.iface rT rx],.iface 213 (.agg #[I_ p,U_ c]),.iface 213 (.agg #[I_ p',U_ d])] w λe w'=>e=.returned (.iface 271 (.agg #[]))/\Fr w w' N_:=by
 obtain⟨f,f⟩:=y_ (λ(e:Ending) (w':World)=>e=.returned (.iface 271 (.agg #[]))/\Fr w w' N_);rw[<- f.o];have g:((d:Int)==(c:Int))=false:=by simpa using hc
 go_in;go_wp2;all_goals first
  |((try go_ret);rw[f.o];exact⟨rfl,(((A_ w N_).alloc _).alloc _).alloc _⟩)
  |omega
end
def um{w:World}{Q:Nat->Prop}{p p':Nat}{sT rT:TypeId}{sx rx:Value}{x y:PB}(D:xf w P s ds sv xs)(E:xf w Q s' ds' sv' xs')(hx:zx ds c=some x)(hy:zx ds' c=some y):Calls prog 127 #[.agg #[sv,.iface sT sx,sv',.iface rT rx],.iface 213 (.agg #[I_ p,U_ c]),.iface 213 (.agg #[I_ p',U_ c])] w λe w'=>∃a b v,e=.returned v/\Fr w w' N_/\ye w' P s x a/\ye w' Q s' y b/\ZV ds' xs' y b/\MbV x y a b v:=by
 obtain⟨d,t⟩:=y_ (λ(e:Ending) (w':World)=>∃a b v,e=.returned v/\Fr w w' N_/\ye w' P s x a/\ye w' Q s' y b/\ZV ds' xs' y b/\MbV x y a b v);rw[<- t.o];have z:=zy (λW (f:Fr w W N_)=>jV (rv:=.iface sT sx) c (D.fr f u_));have A:=zy (λW (f:Fr w W N_)=>ry (rv:=.iface rT rx) c (E.fr f u_));have B:=zy (λW a b (ha:ye W P s x a) (hb:ye W Q s' y b)=>iZ ha hb);have hx:=zy hx;have hy:=zy hy;obtain⟨sa,sc,rfl⟩:=zl D.row;obtain⟨ra,rc,rfl⟩:=zl E.row;obtain⟨i,g⟩:=e_ (((w.alloc (.cells #[.slice sa ds.length sc,.iface sT sx,.slice ra ds'.length rc,.iface rT rx] 86)).alloc (.cells #[I_ p,U_ c] 213)).alloc (.cells #[I_ p',U_ c] 213));have k:Fr w i N_:=by rw[g];exact(((A_ w N_).alloc _).alloc _).alloc _
 have j:Blk i w.heap.size [.slice sa ds.length sc,.iface sT sx,.slice ra ds'.length rc,.iface rT rx] 86:=by
  rw[g];exact((B_ w #[.slice sa ds.length sc,.iface sT sx,.slice ra ds'.length rc,.iface rT rx] 86).alloc _).alloc _
 have m:Blk i (w.heap.size+1) [I_ p,U_ c] 213:=by
  rw[g];have h:=(B_ (w.alloc (.cells #[.slice sa ds.length sc,.iface sT sx,.slice ra ds'.length rc,.iface rT rx] 86)) #[I_ p,U_ c] 213).alloc (.cells #[I_ p',U_ c] 213);have hs:∀(u:World) (o:Obj),(u.alloc o).heap.size=u.heap.size+1:=λu o=>by show(u.heap.push _).size=_;simp
  simp only[hs]at h;exact h
 have q:Blk i (w.heap.size+1+1) [I_ p',U_ c] 213:=by
  rw[g];have h:=B_ ((w.alloc (.cells #[.slice sa ds.length sc,.iface sT sx,.slice ra ds'.length rc,.iface rT rx] 86)).alloc (.cells #[I_ p,U_ c] 213)) #[I_ p',U_ c] 213;have hs:∀(u:World) (o:Obj),(u.alloc o).heap.size=u.heap.size+1:=λu o=>by show(u.heap.push _).size=_;simp
  simp only[hs]at h;exact h
 obtain⟨r,d⟩:∃C:World->Prop,C=λW=>W.cell? ⟨w.heap.size,0,none⟩=some (.slice sa ds.length sc)/\W.cell? ⟨w.heap.size,1,none⟩=some (.iface sT sx)/\W.cell? ⟨w.heap.size,2,none⟩=some (.slice ra ds'.length rc)/\W.cell? ⟨w.heap.size,3,none⟩=some (.iface rT rx)/\W.cell? ⟨w.heap.size+1,1,none⟩=some (U_ c)/\W.cell? ⟨w.heap.size+1+1,1,none⟩=some (U_ c):=⟨_,rfl⟩;have l:=zy (λW (f:Fr i W N_)=>show r W by
  rw[d]
  exact⟨(f.bl j id).cell 0,(f.bl j id).cell 1,(f.bl j id).cell 2,(f.bl j id).cell 3,(f.bl m id).cell 1,(f.bl q id).cell 1⟩)
 replace k:=zy k;replace g:=zy g;replace d:=zy d;go_in;go_wp2;rw[<- g.o];refine tR_ r ?_;refine tA_ 0 rfl K_ (λ_ _ _ h=>h) (by intro W h;rw[d.o]at h;obtain⟨c0,c1,c2,c3,c4,c5⟩:=h;go_simp<;>rfl) ?_;refine tA_ 1 rfl K_ (λ_ _ _ h=>h) (by intro W h;rw[d.o]at h;obtain⟨c0,c1,c2,c3,c4,c5⟩:=h;go_simp<;>rfl) ?_;refine tA_ 2 rfl K_ (λ_ _ _ h=>h) (by intro W h;rw[d.o]at h;obtain⟨c0,c1,c2,c3,c4,c5⟩:=h;go_simp<;>rfl) ?_;refine tA_ 3 rfl K_ (λ_ _ _ h=>h) (by intro W h;rw[d.o]at h;obtain⟨c0,c1,c2,c3,c4,c5⟩:=h;go_simp<;>rfl) ?_;refine tA_ 5 rfl K_ (λ_ _ _ h=>h) (by intro W h;rw[d.o]at h;obtain⟨c0,c1,c2,c3,c4,c5⟩:=h;go_simp<;>rfl) ?_;refine tA_ 6 rfl K_ (λ_ _ _ h=>h) (by intro W h;rw[d.o]at h;obtain⟨c0,c1,c2,c3,c4,c5⟩:=h;go_simp<;>rfl) ?_;refine tA_ 7 rfl K_ (λ_ _ _ h=>h) (by intro W h;rw[d.o]at h;obtain⟨c0,c1,c2,c3,c4,c5⟩:=h;go_simp<;>rfl) ?_;refine tA_ 8 rfl K_ (λ_ _ _ h=>h) (by intro W h;rw[d.o]at h;obtain⟨c0,c1,c2,c3,c4,c5⟩:=h;go_simp<;>rfl) ?_;refine zL 4 rfl K_ (l.o _ (A_ i _).drew) (λg d=>?_);go_simp;apply(z.o _ k.o.drew).mono;rintro e w1 ⟨f,rfl,f,j⟩;rw[hx.o]at j;have m:=zy ((A_ i N_).drew.trans f u_);replace j:=zy j;refine d _ _ ?_;refine zL 9 rfl K_ (l.o _ m) (λg d=>?_);go_simp;apply(A.o _ (k.o.trans m u_)).mono;rintro e f ⟨f,rfl,i,f⟩;rw[hy.o]at f;obtain⟨f,q⟩:=f;replace q:=zy q;have r:=zy (m.o.trans i u_);have z:=zy (j.o.fr i u_);replace f:=zy f;refine d _ _ ?_;refine zL 10 rfl K_ (l.o _ r) (λg d=>?_);go_simp;apply(B.o _ _ _ z f).mono;rintro e i ⟨i,rfl,i,j⟩;have m:=zy (r.o.trans i u_);have r:=zy (z.o.fr i u_);have z:=zy (f.o.fr i u_);replace j:=zy j;refine d _ _ ?_;refine tY_ 11 ?_;refine yh K_ (l.o _ m) ?_ _;go_wp2;try go_ret
 rw[t.o];exact⟨_,_,_,rfl,k.o.trans m u_,r,z,q,j⟩
inductive MtV (w:World) (P Q:Nat->Prop) (s s':BA) (ew er:Nat->Option PB) (Z:PB->Value->Prop):PT->PT->Value->Prop
 |never {x y:PT} (h:yW ew er x y=false):MtV w P Q s s' ew er Z x y (.iface 271 (.agg #[]))
 |same {c p:Nat} {y:PT} (hc:zu c=true) (h:yW ew er (.leaf c p) y=true):MtV w P Q s s' ew er Z (.leaf c p) y (.iface 332 (.agg #[]))
 |items {c p p':Nat} {t t':PT} {a b:Value} (hc:c=91\/c=123) (ha:TyV w P t a) (hb:TyV w Q t' b):MtV w P Q s s' ew er Z (.wrap c p t) (.wrap c p' t') (.iface 277 (.agg #[a,b]))
 |body {c p p':Nat} {X Y:PB} {a b v:Value} (hc:zp c=true) (hx:ew c=some X) (hy:er c=some Y) (ha:ye w P s X a) (hb:ye w Q s' Y b) (hz:Z Y b) (hm:MbV X Y a b v) (hs:yV X=yV Y):MtV w P Q s s' ew er Z (.leaf c p) (.leaf c p') v
def xM(h:zp c=true):zu c=false:=by
 have hc:65<=c/\c<=70:=by simpa[zp] using h
 cases e:zu c with
 |false=>rfl
 |true=>
  simp only[zu,au_,beq_iff_eq]at e;omega
def nY{d:Nat}(h:zp c=true)(e:zu d=true):(c==d)=false:=by
 have hc:65<=c/\c<=70:=by simpa[zp] using h
 simp only[zu,au_,beq_iff_eq]at e;rw[beq_eq_false_iff_ne];omega
def MbV.sort{X Y:PB}{b:Value}(h:MbV X Y a b v):yV X=yV Y\/(yV X≠yV Y/\v=.iface 271 (.agg #[])):=by
 cases h with
 |flds=>exact .inl rfl
 |syms=>exact .inl rfl
 |same=>exact .inl rfl
 |never h=>exact .inr ⟨h,rfl⟩
def rj{w:World}{Q:Nat->Prop}{sT rT:TypeId}{sx rx:Value}{y:PT}{b:Value}(D:xf w P s ds sv xs)(E:xf w Q s' ds' sv' xs')(ha:TyV w P x a)(hb:TyV w Q y b)(fx:vH x)(fy:vH y)(i:∀c p,x=.leaf c p->zp c=true->∃X,zx ds c=some X)(k:∀c p,y=.leaf c p->zp c=true->∃Y,zx ds' c=some Y):Calls prog 127 #[.agg #[sv,.iface sT sx,sv',.iface rT rx],a,b] w λe w'=>∃v,e=.returned v/\Fr w w' N_/\MtV w' P Q s s' (zx ds) (zx ds') (ZV ds' xs') x y v:=by
 obtain⟨sa,sc,g⟩:=zl D.row;obtain⟨ra,rc,f⟩:=zl E.row;have nev:∀(e:Ending) (w':World),yW (zx ds) (zx ds') x y=false->e=.returned (.iface 271 (.agg #[]))/\Fr w w' N_->∃v,e=.returned v/\Fr w w' N_/\MtV w' P Q s s' (zx ds) (zx ds') (ZV ds' xs') x y v:=
  λe w' hm h=>⟨_,h.1,h.2,.never hm⟩
 cases ha with
 |base c p h=>
  have fin:∀(e:Ending) (w':World),e=.returned (wV (y.kind==c||(c==105&&y.kind==108)))/\Fr w w' N_->∃v,e=.returned v/\Fr w w' N_/\MtV w' P Q s s' (zx ds) (zx ds') (ZV ds' xs') (.leaf c p) y v:=by
   rintro e w' ⟨h1,d⟩;rw[<- Xu (ew:=zx ds) (er:=zx ds') (p:=p) h fy]at h1;cases hm:yW (zx ds) (zx ds') (.leaf c p) y with
   |true=>rw[hm]at h1;exact⟨_,h1,d,.same h hm⟩
   |false=>rw[hm]at h1;exact⟨_,h1,d,.never hm⟩
  rw[g,f];simp only[zu,au_,beq_iff_eq]at h;rcases h with(((rfl|rfl)|rfl)|rfl)|rfl
  .exact(Xg hb fy).mono (λe w' q=>fin e w' (by simpa using q))
  .exact(Xq hb fy).mono (λe w' q=>fin e w' (by simpa using q))
  .exact(Xp hb fy).mono (λe w' q=>fin e w' (by simpa using q))
  .exact(Xf hb fy).mono (λe w' q=>fin e w' (by simpa using q))
  .exact(Xw hb fy).mono (λe w' q=>fin e w' (by simpa using q))
 |name c p h=>
  have j:=xM h;cases hb with
  |base c' p' h'=>
   rw[g,f];exact(qW (jx c').2.2.2.1).mono (λe w'=>nev e w' (by simp[yW,j,nY h h']))
  |name c' p' h'=>
   by_cases l:c=c'
   .subst l;obtain⟨X,hX⟩:=i c p rfl h;obtain⟨Y,i⟩:=k c p' rfl h;apply(um D E hX i).mono;rintro e w' ⟨a,b,v,h1,d,m,o,hz,k⟩;rcases k.sort with hs|⟨hs,rfl⟩
    .exact⟨v,h1,d,.body h hX i m o hz k hs⟩
    .exact⟨_,h1,d,.never (by simp[yW,j,hX,i,hs])⟩
   .rw[g,f];exact(pF M_).mono (λe w'=>nev e w' (by simp[yW,j,l]))
  |wrap c' p' h'=>
   rw[g,f];rcases fy with rfl|rfl
   .exact(qW D_).mono (λe w'=>nev e w' rfl)
   .exact(qW D_).mono (λe w'=>nev e w' rfl)
  |alts p' X ho hP h'=>exact fy.elim
 |wrap c p h=>
  have d:c=91\/c=123:=fx;obtain⟨uT,ux,rfl⟩:=h.iface;rw[g,f];cases hb with
  |base c' p' h'=>
   rcases d with rfl|rfl
   .exact(wm (jx c').1).mono (λe w'=>nev e w' rfl)
   .exact(ko (jx c').2.1).mono (λe w'=>nev e w' rfl)
  |name c' p' h'=>
   rcases d with rfl|rfl
   .exact(wm D_).mono (λe w'=>nev e w' rfl)
   .exact(ko D_).mono (λe w'=>nev e w' rfl)
  |wrap c' p' h'=>
   obtain⟨vT,vx,rfl⟩:=h'.iface;have f:c'=91\/c'=123:=fy;rcases d with rfl|rfl<;>rcases f with rfl|rfl
   .exact tW.mono (λe w' q=>⟨_,q.1,q.2,.items (.inl rfl) (h.fr q.2 u_) (h'.fr q.2 u_)⟩)
   .exact(wm D_).mono (λe w'=>nev e w' rfl)
   .exact(ko D_).mono (λe w'=>nev e w' rfl)
   .exact ly.mono (λe w' q=>⟨_,q.1,q.2,.items (.inr rfl) (h.fr q.2 u_) (h'.fr q.2 u_)⟩)
  |alts p' X ho hP h'=>exact fy.elim
 |alts p X ho hP h=>exact fx.elim
section
variable {w:World} {p:Nat} {sa ra:Option Addr} {sn sc rn rc:Nat} {sT rT aT bT:TypeId} {sx rx ax bx:Value}
def JF{d:Option Addr}{g f:Nat}:Calls prog 82 #[.agg #[.slice sa sn sc,.iface sT sx,.slice ra rn rc,.iface rT rx],.iface 210 (.agg #[I_ p,.slice d g f]),.iface bT bx] w λe w'=>e=.returned (.iface 273 (.agg #[.slice d g f,.iface bT bx]))/\Fr w w' N_:=by
 obtain⟨h,h⟩:=y_ (λ(e:Ending) (w':World)=>e=.returned (.iface 273 (.agg #[.slice d g f,.iface bT bx]))/\Fr w w' N_);rw[<- h.o];have A:=zy (λo d=>((A_ w N_).alloc o).alloc d);go_in;go_wp2;try go_ret
 rw[h.o];exact⟨rfl,A.o _ _⟩
def cq20_{p:Prop}(h:p:=by
 refine hq_ λj f=>?_;have A:=zy (λo g i=>(((A_ w N_).alloc o).alloc g).alloc i);replace h:=zy h;have k:=vy aT ha;(first|(have:=cc1)|(have l:=vy bT hb));go_in;go_wp2_with ((first|go_at_call 127|go_at_call 126);apply(h.o _ (A.o _ _ _)).mono;rintro e w1 ⟨v,rfl,d⟩;replace d:=zy d);try go_ret
 rw[f.o];exact d.o):p:=h
def Xj{R:Ending->World->Prop}(ha:aT≠210)(hb:bT≠210)(h:∀W,Fr w W N_->Calls prog 127 #[.agg #[.slice sa sn sc,.iface sT sx,.slice ra rn rc,.iface rT rx],.iface aT ax,.iface bT bx] W (λe w'=>∃v,e=.returned v/\R (.returned v) w')):Calls prog 82 #[.agg #[.slice sa sn sc,.iface sT sx,.slice ra rn rc,.iface rT rx],.iface aT ax,.iface bT bx] w R:=by
 exact cq20_
end
def fk{r:PT}:∀(l:List PT) (i:Nat) (k:Option Nat),xk ew er x (l++[r]) i k=(if (yW ew er x r&&((xk ew er x l i k).isNone||r.kind==105))=true then some (i+l.length) else xk ew er x l i k)
 | [],i,k=>by simp[xk]
 |a::l,i,k=>by
  show xk ew er x (l++[r]) (i+1) _=_;rw[fk l];have:i+1+l.length=i+(a::l).length:=by simp only[a6_];omega
  rw[this];rfl
def am{r:PT}{q:Nat}(h:rs[q]?=some r):xk ew er x (rs.take (q+1)) 0 none=(if (yW ew er x r&&((xk ew er x (rs.take q) 0 none).isNone||r.kind==105))=true then some q else xk ew er x (rs.take q) 0 none):=by
 have d:q<rs.length:=by
  rcases Nat.lt_or_ge q rs.length with d|d
  .exact d
  .rw[a4_ d]at h;exact absurd h (by simp)
 have e:rs.take (q+1)=rs.take q++[r]:=by rw[bf_,h];rfl
 have l:(rs.take q).length=q:=by rw[List.length_take];omega
 rw[e,fk,l,bn_]
def MtV.fr{w:World}{Q S:Nat->Prop}{y:PT}(h:MtV w P Q s s' ew er Z x y v)(hf:Fr w w' S)(hP:∀g,P g->¬S g)(hQ:∀g,Q g->¬S g):MtV w' P Q s s' ew er Z x y v:=by
 cases h with
 |never h=>exact .never h
 |same hc h=>exact .same hc h
 |items hc ha hb=>exact .items hc (ha.fr hf hP) (hb.fr hf hQ)
 |body hc hx hy ha hb hz hm hs=>exact .body hc hx hy (ha.fr hf hP) (hb.fr hf hQ) hz hm hs
def MtV.kind{w:World}{Q:Nat->Prop}{y:PT}(h:MtV w P Q s s' ew er Z x y v):(yW ew er x y=false/\v=.iface 271 (.agg #[]))\/(yW ew er x y=true/\∃T u,v=.iface T u/\T≠271/\T≠276):=by
 cases h with
 |never h=>exact .inl ⟨h,rfl⟩
 |same hc h=>exact .inr ⟨h,_,_,rfl,D_,D_⟩
 |items hc ha hb=>exact .inr ⟨by simp[yW],_,_,rfl,D_,D_⟩
 |body hc hx hy ha hb hz hm hs=>
  refine .inr ⟨by simp[yW,xM hc,hx,hy,hs],?_⟩;cases hm with
  |flds=>exact⟨_,_,rfl,D_,D_⟩
  |syms=>exact⟨_,_,rfl,D_,D_⟩
  |same=>exact⟨_,_,rfl,D_,D_⟩
  |never h=>exact absurd hs h
def BrV(w:World)(P Q:Nat->Prop)(s s':BA)(ew er:Nat->Option PB)(Z:PB->Value->Prop)(x:PT)(rs:List PT)(k:Option Nat)(v:Value):Prop:=
 match k with
 |none=>v=.iface 271 (.agg #[])
 |some i=>∃r T u,rs[i]?=some r/\v=.iface 276 (.agg #[I_ i,.iface T u])/\yW ew er x r=true/\MtV w P Q s s' ew er Z x r (.iface T u)
def BrV.fr{w:World}{Q S:Nat->Prop}{k:Option Nat}(h:BrV w P Q s s' ew er Z x rs k v)(hf:Fr w w' S)(hP:∀g,P g->¬S g)(hQ:∀g,Q g->¬S g):BrV w' P Q s s' ew er Z x rs k v:=by
 cases k with
 |none=>exact h
 |some i=>
  obtain⟨r,T,u,h1,d,e,f⟩:=h;exact⟨r,T,u,h1,d,e,f.fr hf hP hQ⟩
def MtV.iface{w:World}{Q:Nat->Prop}{y:PT}(h:MtV w P Q s s' ew er Z x y v):∃T u,v=.iface T u:=by
 rcases h.kind with⟨_,rfl⟩|⟨_,T,u,rfl,_,_⟩
 .exact⟨_,_,rfl⟩
 .exact⟨_,_,rfl⟩
def oQ{w:World}{Q:Nat->Prop}{y:PT}(h:MtV w P Q s s' ew er Z x y v):Calls prog 149 #[v] w λe w'=>e=.returned (.bool (!yW ew er x y))/\Fr w w' N_:=by
 rcases h.kind with⟨hk,rfl⟩|⟨hk,T,u,rfl,h1,d⟩
 .rw[hk];exact iL
 .rw[hk];exact oK T h1 u
def mV{w:World}{Q:Nat->Prop}{uv:Value}{sT rT:TypeId}{sx rx:Value}{X:Nat->Value}{p:Nat}(D:xf w P s ds sv xs)(E:xf w Q s' ds' sv' xs')(ha:TyV w P x a)(fx:vH x)(ex:∀c p,x=.leaf c p->zp c=true->∃X,zx ds c=some X)(ho:w.ownsRow 0 53 1 uv rs.length ((List.range rs.length).map X))(a9:∀g,uv.ownBlock=some g->Q g)(hX:∀i t,rs[i]?=some t->TyV w Q t (X i))(hl:rs.length<=1000)(fl:∀t∈rs,vH t)(ey:∀t∈rs,∀c p,t=.leaf c p->zp c=true->∃Y,zx ds' c=some Y):Calls prog 126 #[.agg #[sv,.iface sT sx,sv',.iface rT rx],a,.agg #[I_ p,uv]] w λe w'=>∃v,e=.returned v/\Fr w w' N_/\BrV w' P Q s s' (zx ds) (zx ds') (ZV ds' xs') x rs (xk (zx ds) (zx ds') x rs 0 none) v:=by
 obtain⟨d2,M⟩:=y_ (λ(e:Ending) (w':World)=>∃v,e=.returned v/\Fr w w' N_/\BrV w' P Q s s' (zx ds) (zx ds') (ZV ds' xs') x rs (xk (zx ds) (zx ds') x rs 0 none) v);rw[<- M.o];have H:=zy (λW (O:Fr w W N_) r b (hr:r∈rs) (hb:TyV W Q r b)=>rj (sT:=sT) (rT:=rT) (sx:=sx) (rx:=rx) (D.fr O u_) (E.fr O u_) (ha.fr O u_) hb fx (fl r hr) ex (ey r hr));obtain⟨sa,sc,rfl⟩:=zl D.row;obtain⟨ra,rc,rfl⟩:=zl E.row;obtain⟨ua,uc,rfl⟩:=zl ho;obtain⟨aT,ax,rfl⟩:=ha.iface;obtain⟨wz,U⟩:=e_ ((w.alloc (.cells #[.slice sa ds.length sc,.iface sT sx,.slice ra ds'.length rc,.iface rT rx] 86)).alloc (.cells #[I_ p,.slice ua rs.length uc] 210));have Fz:Fr w wz N_:=by rw[U];exact((A_ w N_).alloc _).alloc _
 have B0:Blk wz w.heap.size [.slice sa ds.length sc,.iface sT sx,.slice ra ds'.length rc,.iface rT rx] 86:=by
  rw[U];exact(B_ w #[.slice sa ds.length sc,.iface sT sx,.slice ra ds'.length rc,.iface rT rx] 86).alloc _
 replace Fz:=zy Fz;replace B0:=zy B0;replace U:=zy U;replace ho:=zy ho;replace a9:=zy a9;replace hX:=zy hX;replace fl:=zy fl;generalize b6:zx ds=ew at H M;generalize b5:zx ds'=er at H M;generalize b9:ZV ds' xs'=Z at H M;go_in;go_wp2;rw[<- U.o];go_loopg [7,16] (rs.length+1) (λm v7 v W=>∃q:Nat,v=I_ q/\q<=rs.length/\rs.length+1-q<=m/\Fr wz W N_/\BrV W P Q s s' ew er Z x rs (xk ew er x (rs.take q) 0 none) v7);case atStart=>exact⟨0,rfl,al_ _,M_,A_ _ _,rfl⟩
 case round=>
  obtain⟨q,rfl,hq,hm,hf,hB⟩:=hrel;by_cases J:q<rs.length
  .have b8:(q:Int)<(rs.length:Int):=M_;have hd:rs[q]?=some rs[q]:=af_ J;have B:rs[q]∈rs:=a0_ J;generalize rs[q]=r at hd B;obtain⟨g,cap,b7⟩:=zm ho M_;cases b7;have A:=Fz.o.trans hf u_;have ty:=(hX.o q r hd).fr A u_;have c0:=zr (zj ho A u_) rfl (k:=q) (x:=X q) (by rw[aq_,b9_ J];rfl);obtain⟨bT,bx,a7⟩:=ty.iface;rw[a7]at ty c0;have b0:=hf.bl B0 id;obtain⟨k0,k1,k2,k3⟩:=b0.d4;have a2:=zy (am (ew:=ew) (er:=er) (x:=x) hd);have N:=zy ty;replace A:=zy A;have B:=zy B;have a0:=zy (λW (O:Fr wr W N_)=>iH (N.o.fr O u_) (fl.o r B));have K:=zy (λW m (h:MtV W P Q s s' ew er Z x r m)=>oQ h);cases hk:yW ew er x r
   .rw[hk]at K;have C:H_ (xk ew er x (rs.take (q+1)) 0 none=xk ew er x (rs.take q) 0 none):=zy (by rw[a2.o,hk];rfl);replace hB:=zy hB;replace hf:=zy hf;go_wp2_with (first
     |(go_at_call 127;apply(H.o _ A r _ B N).mono;rintro e w1 ⟨m1,rfl,j,d⟩;obtain⟨V,mu,rfl⟩:=d.iface;have d:=zy d;have F:=zy j)
     |(go_at_call 149;apply(K.o _ _ d).mono;rintro e w2 ⟨rfl,f⟩;have z:=zy (F.o.trans f u_)))
    go_roundg (rs.length+1-(q+1));case measure=>omega
    case rel=>
     refine⟨q+1,rfl,J,l_,hf.o.trans z u_,?_⟩;rw[C.o];exact hB.o.fr z u_ u_
   .rw[hk]at K;cases T:xk ew er x (rs.take q) 0 none
    .rw[T]at hB;have C:H_ (xk ew er x (rs.take (q+1)) 0 none=some q):=zy (by rw[a2.o,hk,T];rfl);replace hB:u7=_:=hB;subst hB;replace hf:=zy hf;go_wp2_with (first
      |(go_at_call 127;apply(H.o _ A r _ B N).mono;rintro e w1 ⟨m1,rfl,j,d⟩;obtain⟨V,mu,rfl⟩:=d.iface;have d:=zy d;have F:=zy j)
      |(go_at_call 149;apply(K.o _ _ d).mono;rintro e w2 ⟨rfl,f⟩;have z:=zy (F.o.trans f u_);have L:=zy (d.o.fr f u_ u_))
      |(go_at_call 150;apply(XV _ D_ _).mono;rintro e w3 ⟨rfl,l⟩;have G:=zy (z.o.trans l u_);have S:=zy (L.o.fr l u_ u_)))
     go_roundg (rs.length+1-(q+1));case measure=>omega
     case rel=>
      refine⟨q+1,rfl,J,l_,hf.o.trans G u_,?_⟩;rw[C.o];exact⟨r,V,mu,hd,rfl,hk,S⟩
    .rename_i i0;cases a1:(r.kind==105)
     .rw[a1]at a0;have C:H_ (xk ew er x (rs.take (q+1)) 0 none=xk ew er x (rs.take q) 0 none):=zy (by rw[a2.o,hk,T,a1];rfl);rw[T]at C hB;have b4:=hB;obtain⟨r',T',u',a3,a4,a5,a6⟩:=b4;subst a4;replace hB:=zy hB;replace hf:=zy hf;go_wp2_with (first
       |(go_at_call 127;apply(H.o _ A r _ B N).mono;rintro e w1 ⟨m1,rfl,j,d⟩;obtain⟨V,mu,rfl⟩:=d.iface;have d:=zy d;have F:=zy j)
       |(go_at_call 149;apply(K.o _ _ d).mono;rintro e w2 ⟨rfl,f⟩;have z:=zy (F.o.trans f u_);have L:=zy (d.o.fr f u_ u_))
       |(go_at_call 150;apply mU.mono;rintro e w3 ⟨rfl,l⟩;have G:=zy (z.o.trans l u_);have S:=zy (L.o.fr l u_ u_))
       |(go_at_call 151;apply(a0.o _ G).mono;rintro e w4 ⟨rfl,I⟩;have F4:=zy (G.o.trans I u_)))
      go_roundg (rs.length+1-(q+1));case measure=>omega
      case rel=>
       refine⟨q+1,rfl,J,l_,hf.o.trans F4 u_,?_⟩;rw[C.o];exact hB.o.fr F4 u_ u_
     .rw[a1]at a0;have C:H_ (xk ew er x (rs.take (q+1)) 0 none=some q):=zy (by rw[a2.o,hk,a1];simp);rw[T]at hB;obtain⟨r',T',u',a3,a4,a5,a6⟩:=hB;subst a4;replace hf:=zy hf;go_wp2_with (first
       |(go_at_call 127;apply(H.o _ A r _ B N).mono;rintro e w1 ⟨m1,rfl,j,d⟩;obtain⟨V,mu,rfl⟩:=d.iface;have d:=zy d;have F:=zy j)
       |(go_at_call 149;apply(K.o _ _ d).mono;rintro e w2 ⟨rfl,f⟩;have z:=zy (F.o.trans f u_);have L:=zy (d.o.fr f u_ u_))
       |(go_at_call 150;apply mU.mono;rintro e w3 ⟨rfl,l⟩;have G:=zy (z.o.trans l u_);have S:=zy (L.o.fr l u_ u_))
       |(go_at_call 151;apply(a0.o _ G).mono;rintro e w4 ⟨rfl,I⟩;have F4:=zy (G.o.trans I u_);have a8:=zy (S.o.fr I u_ u_)))
      go_roundg (rs.length+1-(q+1));case measure=>omega
      case rel=>
       refine⟨q+1,rfl,J,l_,hf.o.trans F4 u_,?_⟩;rw[C.o];exact⟨r,V,mu,hd,rfl,hk,a8⟩
  .have b8:¬((q:Int)<(rs.length:Int)):=M_;rw[bv_ M_]at hB;replace hB:=zy hB;replace hf:=zy hf;go_wp2;try go_ret
   rw[M.o];exact⟨_,rfl,Fz.o.trans hf u_,hB⟩
end Go.Proofs.YtjkiencmjggakaaGreatDoor
