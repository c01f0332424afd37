import Derived.Test.YtjkiencmjggakaaGreatDoorW04
set_option maxHeartbeats 16000000
set_option maxRecDepth 100000
set_option linter.defProp false
set_option linter.unusedSimpArgs false
open Go.Proofs.Tryz
namespace Go.Proofs.YtjkiencmjggakaaGreatDoor
open Go.RowKit
variable {i f p fin base size b:Nat}{v:Value}{R_:Option (List (BA×DT)×Nat)}{R:Nat->Option (DT×Nat)}{acc:List (BA×DT)}{w' w5:World}{o:Obj}{e:Ending}{S:Nat->Prop}
def fN{s:BA}{e:Nat}(h1:i<e)(a:e<=s.size):(s.extract i e).data.toList=(s[i]' M_)::(s.extract (i+1) e).data.toList:=by
 obtain⟨⟨l⟩⟩:=s;have hl:e<=l.length:=a;simp only[ByteArray.data_extract,List.extract_toArray,List.extract_eq_take_drop];have hd:l.drop i=l[i]::l.drop (i+1):=ba_ M_;rw[hd,show e-i=(e-(i+1))+1 by omega,List.take_succ_cons];rfl
def loV(kd:Nat):Int:=if kd=105 then -2147483648 else -9223372036854775808
def hiV(kd:Nat):Int:=if kd=105 then 2147483647 else 9223372036854775807
def ip{s:BA}{kd:Nat}(h0:0<(yw s i).size)(hz:¬(bt (yw s i) 0=48/\(1<(yw s i).size\/xL s i=true))):qo kd (xL s i) (yw s i)↔∃v,Lib.parseIntB 64 (s.extract i (yQ s i)).data.toList=.ok v/\loV kd<=v/\v<=hiV kd:=by
 have hd:kQ (yw s i).data.toList:=ed s (sgn s i);have q:(yw s i).data.toList≠[]:=by
  intro e;have hs:(yw s i).size=(yw s i).data.toList.length:=Array.length_toList.symm;rw[e,a7_]at hs;omega
 rw[YD hd];by_cases a:bt s i=45
 .have h:xL s i=true:=by unfold xL;rw[a];rfl
  have l:i<s.size:=by
   by_cases d:i<s.size
   .exact d
   .unfold bt at a;rw[dif_neg d]at a;exact absurd a D_
  have hs:sgn s i=i+1:=by unfold sgn;rw[i_ a]
  have d:=vU 48 57 s _ (i+1) l_;have he:(s.extract i (yQ s i)).data.toList=45::(yw s i).data.toList:=by
   unfold yw yQ;rw[hs,fN M_ (d.2 M_)]
   congr 1
   unfold bt at a;rw[dif_pos l]at a;exact UInt8.toNat_inj.1 a
  rw[he,ZD q hd,h];generalize dv (yw s i).data.toList=n;unfold VL loV hiV;rw[h]at hz;constructor
  .rintro⟨_,_,g⟩;refine⟨-(n:Int),?_,?_,?_⟩
   .rw[i_ (by split at g<;>simp at g<;>omega)]
   .split at g<;>simp at g<;>simp_all<;>omega
   .split<;>omega
  .rintro⟨v,d,l,m⟩;refine⟨h0,hz,?_⟩;split at d
   .cases d;split at l<;>simp_all<;>omega
   .cases d
 .have h:xL s i=false:=by
   unfold xL;exact beq_eq_false_iff_ne.2 M_
  have hs:sgn s i=i:=by unfold sgn;rw[n_ a]
  have he:s.extract i (yQ s i)=yw s i:=by unfold yw;rw[hs]
  rw[he,ZR q hd,h];generalize dv (yw s i).data.toList=n;unfold VL loV hiV;rw[h]at hz;constructor
  .rintro⟨_,_,g⟩;refine⟨(n:Int),?_,?_,?_⟩
   .rw[i_ (by split at g<;>simp at g<;>omega)]
   .split<;>omega
   .split at g<;>simp at g<;>simp_all<;>omega
  .rintro⟨v,d,l,m⟩;refine⟨h0,hz,?_⟩;split at d
   .cases d;split at m<;>simp_all<;>omega
   .cases d
def zt(k:Nat)(n:Int)(tx:BA)(vk vs:Value):List Value:=[U_ k,z_ n,.string tx,vk,vs]
def zS{w:World}{e:TypeId}{n:Nat}{xs:List Value}(h:w.ownsRow base e size v n xs):w.ownsRow 0 e size v n xs:=by
 refine⟨h.1,?_⟩;rcases h.2 with h0|⟨g,cap,d,a,b,c⟩
 .exact .inl h0
 .exact .inr ⟨g,cap,d,a,al_ _,c⟩
def yT(n:Nat)(X Y:Nat->List Value)(h:∀i,i<n->X i=Y i):(List.range n).flatMap X=(List.range n).flatMap Y:=by
 induction n with
 |zero=>rfl
 |succ n ih=>rw[bp_,be_,be_,ih (λi hi=>h i M_)];simp[h n M_]
mutual
def isT(ts:List TR)(k:Nat):PT->Prop
 | .leaf c _=>ts[k]?=some ⟨c,[]⟩
 | .wrap c _ t=>∃j,ts[k]?=some ⟨c,[j]⟩/\isT ts j t
 | .alts _ l=>∃js,ts[k]?=some ⟨40,js⟩/\jR ts js l
def jR(ts:List TR)(js:List Nat):List PT->Prop
 | []=>js=[]
 |t::r=>∃j q,js=j::q/\isT ts j t/\jR ts q r
end
def PT.isAlts:PT->Bool
 | .alts _ _=>true
 | _=>false
mutual
def okT(env:Nat->Option PB):PT->Prop
 | .leaf c _=>zu c=true\/(zp c=true/\∃pb,env c=some pb)
 | .wrap c _ t=>(c=91\/c=123)/\okT env t
 | .alts _ l=>l≠[]/\tm env l
def tm(env:Nat->Option PB):List PT->Prop
 | []=>True
 |t::r=>t.isAlts=false/\okT env t/\tm env r
end
def okB(env:Nat->Option PB):PB->Prop
 | .recd fs=>∀f∈fs,okT env f.ty
 | .enum l _=>(∀c∈l.map Prod.fst,0<c)/\l.length<=300
 | .bytes n=>n<=9
def qU(env:Nat->Option PB):Prop:=∀c pb,env c=some pb->okB env pb
def pq(w:World)(P:Nat->Prop)(tv:Value)(ts:List TR):Prop:=
 ∃xs,w.ownsRow 0 75 2 tv ts.length xs/\(∀g,tv.ownBlock=some g->P g)/\
  ∀k t,ts[k]?=some t->∃sv,xs[2*k]?=some (U_ t.kind)/\xs[2*k+1]?=some sv/\w.ownsRow 0 3 1 sv t.subs.length (t.subs.map λ(n:Nat)=>Value.int .i64 (n:Int))/\∀g,sv.ownBlock=some g->P g
def wO(w:World)(P:Nat->Prop)(ts:List TR)(pb:PB)(so:Int)(fv:Value)(sb:BA)(n:Int):Prop:=
 (∃a m c,fv=.slice a m c)/\(∀g,fv.ownBlock=some g->P g)/\
 match pb with
 | .recd fs=>so=114/\∃xs,w.ownsRow 0 113 10 fv fs.length xs/\∀q f,fs[q]?=some f->∃num:Nat,xs[10*q+1]?=some (z_ (num:Int))/\isT ts num f.ty
 | .enum l _=>so=101/\sb.data.toList.map UInt8.toNat=l.map Prod.fst
 | .bytes k=>so=102/\n=(k:Int)
structure ZAt(w:World)(P:Nat->Prop)(bz:Nat)(ts:List TR)(env:Nat->Option PB):Prop where
 zP:P bz
 z:∃tv zs,Blk w bz (tv::zs) 47/\pq w P tv ts/\
  ∀k,k<6->∀pb,env (65+k)=some pb->∃(so:Int) (fv:Value) (sb:BA) (o n:Int),(∀p,p<5->zs[5*k+p]?=[Value.int .u8 so,fv,Value.string sb,Value.int .i64 o,Value.int .i64 n][p]?)/\wO w P ts pb so fv sb n
def pq.fr{w:World}{P:Nat->Prop}{tv:Value}{ts:List TR}(h:pq w P tv ts)(hf:Fr w w' S)(d:∀g,P g->¬S g):pq w' P tv ts:=by
 obtain⟨xs,a,b,c⟩:=h;refine⟨xs,zj a hf (λg e=>d g (b g e)),b,λk t l=>?_⟩;obtain⟨sv,c1,c2,c3,c4⟩:=c k t l;exact⟨sv,c1,c2,zj c3 hf (λg e=>d g (c4 g e)),c4⟩
def wO.fr{w:World}{P:Nat->Prop}{ts:List TR}{pb:PB}{so:Int}{fv:Value}{sb:BA}{n:Int}(h:wO w P ts pb so fv sb n)(hf:Fr w w' S)(d:∀g,P g->¬S g):wO w' P ts pb so fv sb n:=by
 obtain⟨a,b,c⟩:=h;refine⟨a,b,?_⟩;cases pb with
 |recd fs=>
  obtain⟨c1,xs,c2,c3⟩:=c;exact⟨c1,xs,zj c2 hf (λg e=>d g (b g e)),c3⟩
 |enum l o=>exact c
 |bytes k=>exact c
def ZAt.fr{w:World}{P:Nat->Prop}{bz:Nat}{ts:List TR}{env:Nat->Option PB}(h:ZAt w P bz ts env)(hf:Fr w w' S)(d:∀g,P g->¬S g):ZAt w' P bz ts env:=by
 refine⟨h.zP,?_⟩;obtain⟨tv,zs,a,b,c⟩:=h.z;refine⟨tv,zs,hf.bl a (d _ h.zP),b.fr hf d,λk hk pb hp=>?_⟩;obtain⟨so,fv,sb,o,n,c1,c2⟩:=c k hk pb hp;exact⟨so,fv,sb,o,n,c1,c2.fr hf d⟩
def zr{w:World}{e:TypeId}{n:Nat}{xs:List Value}(h:w.ownsRow base e size v n xs){g cap:Nat}(hv:v=S_ g n cap){k:Nat}{x:Value}(hx:xs[k]?=some x):w.cell? ⟨g,k,none⟩=some x:=by
 have a:k<xs.length:=(ae_.1 hx).1;rcases h.2 with⟨hn,_⟩|⟨g',a,a,d,hb,hg,_,_,_,a⟩
 .rw[hn]at hv;cases hv
 .rw[d]at hv;cases hv;simp only[World.cell?,hg];rw[<- a,b7_]at hx;split at hx
  .simpa using hx
  .cases hx
def ZAt.type{w:World}{P:Nat->Prop}{bz:Nat}{ts:List TR}{env:Nat->Option PB}(h:ZAt w P bz ts env){k:Nat}{t:TR}(d:ts[k]?=some t):∃g n cap sv,w.cell? ⟨bz,0,none⟩=some (S_ g n cap)/\k<n/\w.cell? ⟨g,k*2,none⟩=some (U_ t.kind)/\w.cell? ⟨g,k*2+1,none⟩=some sv/\
  w.ownsRow 0 3 1 sv t.subs.length (t.subs.map λ(n:Nat)=>Value.int .i64 (n:Int))/\∀g,sv.ownBlock=some g->P g:=by
 obtain⟨tv,zs,a,⟨xs,b1,b2,b3⟩,c⟩:=h.z;obtain⟨sv,c1,c2,c3,c4⟩:=b3 k t d;have hk:k<ts.length:=(ae_.1 d).1;obtain⟨g,cap,hv⟩:=zm b1 M_;refine⟨g,ts.length,cap,sv,?_,hk,zr b1 hv (by rw[bc_];exact c1),zr b1 hv (by rw[bc_];exact c2),c3,c4⟩;rw[a.cell 0,hv];rfl
mutual
def fH(ts:List TR):∀(t:PT) (b:Nat),(∀q x,(flat b t)[q]?=some x->ts[b+q]?=some x)->isT ts (b+(flat b t).length-1) t
 | .leaf c p,b,h=>by
  simp only[flat,isT,av_,Nat.add_sub_cancel];exact h 0 _ rfl
 | .wrap c p t,b,h=>by
  have hp:=mI b t;have h1:=fH ts t b (λq x a=>h q x (by rw[flat,ar_ (ae_.1 a).1];exact a));have d:=h (flat b t).length ⟨c,[b+(flat b t).length-1]⟩ (by rw[flat,as_ l_];simp);simp only[isT];refine⟨_,?_,h1⟩;rw[flat,ai_,av_,show b+((flat b t).length+1)-1=b+(flat b t).length by omega];exact d
 | .alts p l,b,h=>by
  have h1:=kJ ts l b (λq x a=>h q x (by rw[flat,ar_ (ae_.1 a).1];exact a));have d:=h (zJ b l).length ⟨40,jw b l⟩ (by rw[flat,as_ l_];simp);simp only[isT];refine⟨_,?_,h1⟩;rw[flat,ai_,av_,show b+((zJ b l).length+1)-1=b+(zJ b l).length by omega];exact d
def kJ(ts:List TR):∀(l:List PT) (b:Nat),(∀q x,(zJ b l)[q]?=some x->ts[b+q]?=some x)->jR ts (jw b l) l
 | [],b,h=>by simp[jR,jw]
 |t::r,b,h=>by
  have h1:=fH ts t b (λq x a=>h q x (by rw[zJ,ar_ (ae_.1 a).1];exact a));have d:=kJ ts r (b+(flat b t).length) (λq x a=>by
   rw[br_]
   refine h _ x ?_
   rw[zJ,as_ M_,b8_]
   exact a)
  simp only[jR];exact⟨_,_,by rw[jw],h1,d⟩
end
def ZH{ts:List TR}:∀{l:List PT}{js:List Nat},jR ts js l->∀(q:Nat) (t:PT),l[q]?=some t->∃j,js[q]?=some j/\isT ts j t
 | [],js,h,q,t,ht=>by simp at ht
 |u::r,js,h,q,t,ht=>by
  simp only[jR]at h;obtain⟨j,a,rfl,h1,a⟩:=h;cases q with
  |zero=>simp only[aa_,ah_]at ht;subst ht;exact⟨j,rfl,h1⟩
  |succ q=>rw[ab_]at ht⊢;exact ZH a q t ht
def iM{ts:List TR}:∀{l:List PT}{js:List Nat},jR ts js l->js.length=l.length
 | [],js,h=>by simp only[jR]at h;subst h;rfl
 |u::r,js,h=>by
  simp only[jR]at h;obtain⟨j,a,rfl,h1,a⟩:=h;simp[iM a]
def vp{env:Nat->Option PB}:∀{l:List PT},tm env l->∀t∈l,t.isAlts=false/\okT env t
 | [],h,t,a=>by simp at a
 |u::r,h,t,a=>by
  simp only[tm]at h;rcases ao_.1 a with rfl|a
  .exact⟨h.1,h.2.1⟩
  .exact vp h.2.2 t a
mutual
def shT:PT->Prop
 | .leaf c _=>zu c=true\/zp c=true
 | .wrap c _ t=>(c=91\/c=123)/\shT t
 | .alts _ l=>l≠[]/\cC l
def cC:List PT->Prop
 | []=>True
 |t::r=>shT t/\cC r
end
def KG(s:BA)(f:Nat):(∀i t j,vQ s f i=.ok (t,j)->shT t)/\(∀i ts j,xw s f i=.ok (ts,j)->ts≠[]/\cC ts):=by
 have cc1:=trivial
 exact cq7_
def sH{s:BA}{t:PT}{j:Nat}(h:pT s i=.ok (t,j)):shT t:=(KG s _).1 i t j h
def aN{a:List Nat}{t:PT}{m:Int}(h:qk a t m<0):m<0/\t.kind≠40:=by
 unfold qk at h;split at h
 .omega
 .rename_i hc;refine⟨h,λe=>hc ⟨.inl e,.inl h⟩⟩
def Xe{t:PT}(h:t.kind≠40):t.isAlts=false:=by
 cases t<;>simp_all [PT.kind,PT.isAlts]
mutual
def ml(env:Nat->Option PB):∀(t:PT) (m:Int),shT t->mix t m<0->(∀u∈zZ t,∃pb,env u.1=some pb)->m<0/\okT env t
 | .leaf c p,m,hs,hm,hu=>by
  simp only[mix]at hm;refine⟨hm,?_⟩;simp only[okT];cases hb:zu c with
  |true=>exact .inl rfl
  |false=>
   simp only[shT,hb]at hs;refine .inr ⟨hs.resolve_left D_,?_⟩;exact hu (c,p) (by simp[zZ,hb])
 | .wrap c p t,m,hs,hm,hu=>by
  simp only[shT]at hs;have:=ml env t m hs.2 hm hu;exact⟨this.1,hs.1,this.2⟩
 | .alts p l,m,hs,hm,hu=>by
  simp only[shT]at hs;have:=ZJ env l [] m hs.2 hm hu;exact⟨this.1,hs.1,this.2⟩
def ZJ(env:Nat->Option PB):∀(l:List PT) (a:List Nat) (m:Int),cC l->jL a l m<0->(∀u∈zY l,∃pb,env u.1=some pb)->m<0/\tm env l
 | [],a,m,hs,hm,hu=>⟨hm,trivial⟩
 |t::r,a,m,hs,hm,hu=>by
  simp only[cC]at hs;simp only[jL]at hm;have h1:=ZJ env r _ _ hs.2 hm (λu a=>hu u (by rw[zY];exact b1_ _ a));have d:=aN h1.1;have g:=ml env t m hs.1 d.1 (λu a=>hu u (by rw[zY];exact bu_ _ a));exact⟨g.1,Xe d.2,g.2,h1.2⟩
end
def zo:List Value:=zt 0 0 noB (L_) (L_)
structure DM(w:World)(P:Nat->Prop)(bl:Nat)(s:BA)(bz:Nat)(pl:Bool)(j:Nat)(bad:Bool)(ts:List TR)(env:Nat->Option PB)(W:World):Prop where
 L:LAt W bl s bz pl j bad
 Z:ZAt W P bz ts env
 nP:¬P bl
 Plt:∀g,P g->g<w.heap.size
 lt:bl<w.heap.size
 fr:Fr w W (· = bl)
 jl:j<=s.size
 sl:s.size<=4000
section
variable {w W W':World} {P:Nat->Prop} {bl:Nat} {s:BA} {bz:Nat} {pl:Bool} {j j':Nat} {bad bad':Bool} {ts:List TR} {env:Nat->Option PB}
def DM.call(M:DM w P bl s bz pl j bad ts env W)(a:LAt W' bl s bz pl j' bad')(hf:Fr W W' (· = bl))(d:j'<=s.size):DM w P bl s bz pl j' bad' ts env W':=
 ⟨a,M.Z.fr hf (λ_ hg e=>M.nP (e▸hg)),M.nP,M.Plt,M.lt,M.fr.trans hf u_,d,M.sl⟩
def DM.si(M:DM w P bl s bz pl j bad ts env W)(h:zq W W'):DM w P bl s bz pl j bad ts env W':=M.call (M.L.si h) ((A_ W _).si h) M.jl
def DM.inc(M:DM w P bl s bz pl j bad ts env W)(h:j<s.size):DM w P bl s bz pl (j+1) bad ts env (W.setCell ⟨bl,1,none⟩ (z_ ((j:Int)+1))):=M.call M.L.inc (Y_ _ _ _) h
def DM.sp(M:DM w P bl s bz pl j bad ts env W):DM w P bl s bz pl j true ts env (W.setCell ⟨bl,2,none⟩ (.bool true)):=M.call M.L.sp (Y_ _ _ _) M.jl
def DM.own(M:DM w P bl s bz pl j bad ts env W)(hf:Fr W W' (λg=>w.heap.size<=g)):DM w P bl s bz pl j bad ts env W':=by
 have:=M.lt;exact⟨hf.bl M.L M_,M.Z.fr hf (λg hg=>by have:=M.Plt g hg;omega),M.nP,M.Plt,M.lt,M.fr.trans hf (λx hx e=>absurd e M_),M.jl,M.sl⟩
def DM.alloc(M:DM w P bl s bz pl j bad ts env W)(o:Obj):DM w P bl s bz pl j bad ts env (W.alloc o):=M.own ((A_ W _).alloc o)
def DM.put(M:DM w P bl s bz pl j bad ts env W)(a:Addr)(v:Value)(h:w.heap.size<=a.block):DM w P bl s bz pl j bad ts env (W.setCell a v):=M.own ((A_ W _).setCell a v (λ_=>h))
def DM.here(M:DM w P bl s bz pl j bad ts env W):DM W P bl s bz pl j bad ts env W:=
 ⟨M.L,M.Z,M.nP,λg hg=>bb_ (M.Plt g hg) M.fr.size,bb_ M.lt M.fr.size,A_ _ _,M.jl,M.sl⟩
end
def zW(w:World)(bl:Nat)(s:BA)(bz:Nat)(pl:Bool)(r:Option (DT×Nat))(e:Ending)(w':World):Prop:=
 ∃(k:Nat) (n:Int) (tx:BA) (a1:Option Addr) (m1 c1:Nat) (a2:Option Addr) (m2 c2:Nat),e=.returned (.agg (zt k n tx (.slice a1 m1 c1) (.slice a2 m2 c2)).toArray)/\Fr w w' (· = bl)/\
 match r with
 |none=>∃j,j<=s.size/\LAt w' bl s bz pl j true
 |some (_,j)=>j<=s.size/\LAt w' bl s bz pl j false
def vV(s:BA)(env:Nat->Option PB)(pl:Bool)(ts:List TR)(f:Nat)(t:PT)(i:Nat):Prop:=
 ∀(w:World) (P:Nat->Prop) (bl bz k:Nat),DM w P bl s bz pl i false ts env w->isT ts k t->
  Calls prog 64 #[P_ bl,I_ k] w (zW w bl s bz pl (rdT s env pl f t i))
section
variable {w W W':World} {P:Nat->Prop} {bl:Nat} {s:BA} {bz:Nat} {pl:Bool} {j:Nat} {ts:List TR} {env:Nat->Option PB} {k:Nat} {n:Int} {tx:BA} {a1 a2:Option Addr} {m1 c1 m2 c2:Nat} {r:Option (DT×Nat)}
def cq24_{p:Prop}(h:p:=by
 have a:=M.own (hF.mono (λ_ _ e=>M_));cases r with
 |none=>cases hr
 |some q=>
  obtain rfl:q.2=j:=by simpa using hr
  exact⟨k,n,tx,_,_,_,_,_,_,rfl,a.fr,M.jl,a.L⟩):p:=h
def xP(M:DM w P bl s bz pl j false ts env W)(hF:Fr W W' (λg=>g=w.heap.size))(hr:r.map Prod.snd=some j):zW w bl s bz pl r (.returned (.agg (zt k n tx (.slice a1 m1 c1) (.slice a2 m2 c2)).toArray)) W':=by
 exact cq24_
def vJ(M:DM w P bl s bz pl j true ts env W)(d:Fr W W' (λg=>g=w.heap.size))(hr:r=none):zW w bl s bz pl r (.returned (.agg (zt k n tx (.slice a1 m1 c1) (.slice a2 m2 c2)).toArray)) W':=by
 have a:=M.own (d.mono (λ_ _ e=>M_));subst hr;exact⟨k,n,tx,_,_,_,_,_,_,rfl,a.fr,j,M.jl,a.L⟩
end
def dw(w:World)(c:Nat)(sv:Value):World:=
 ((w.alloc (.cells zo.toArray 111)).alloc (.cells #[U_ c,sv] 75)).alloc (.cells (zt c 0 noB (L_) (L_)).toArray 111)
def lZ(w:World)(c:Nat)(sv:Value):Blk (dw w c sv) w.heap.size zo 111:=((B_ w _ _).alloc _).alloc _
def ng(w:World)(c:Nat)(sv:Value):Blk (dw w c sv) (w.heap.size+1) [U_ c,sv] 75:=by
 have:=(B_ (w.alloc (.cells zo.toArray 111)) #[U_ c,sv] 75).alloc (.cells (zt c 0 noB (L_) (L_)).toArray 111);simpa[dw] using this
def eu(w:World)(c:Nat)(sv:Value):Blk (dw w c sv) (w.heap.size+2) (zt c 0 noB (L_) (L_)) 111:=by
 have:=B_ ((w.alloc (.cells zo.toArray 111)).alloc (.cells #[U_ c,sv] 75)) (zt c 0 noB (L_) (L_)).toArray 111;simpa[dw] using this
def nk{w:World}{P:Nat->Prop}{bl:Nat}{s:BA}{bz:Nat}{pl:Bool}{j:Nat}{bad:Bool}{ts:List TR}{env:Nat->Option PB}(M:DM w P bl s bz pl j bad ts env w)(c:Nat)(sv:Value):DM w P bl s bz pl j bad ts env (dw w c sv):=((M.alloc _).alloc _).alloc _
structure LM(w:World)(P:Nat->Prop)(bl:Nat)(s:BA)(bz:Nat)(pl:Bool)(j:Nat)(bad:Bool)(ts:List TR)(env:Nat->Option PB)(b0 b1 B c:Nat)(vk vs:Value)(ks:List BA)(n:Nat)(xs:List Value)(W:World):Prop where
 M:DM w P bl s bz pl j bad ts env W
 hb:w.heap.size<=b0/\b0<b1/\b1<B
 bB:B<=W.heap.size
 r0:Blk W b0 zo 111
 r1:Blk W b1 (zt c 0 noB vk vs) 111
 kr:W.ownsRow B 9 1 vk ks.length (ks.map Value.string)
 vr:W.ownsRow B 111 5 vs n xs
 ap:∀g,vk.ownBlock=some g->vs.ownBlock≠some g
section
variable {w W W':World} {P:Nat->Prop} {bl:Nat} {s:BA} {bz:Nat} {pl:Bool} {j j':Nat} {bad bad':Bool} {ts:List TR} {env:Nat->Option PB} {b0 b1 B c:Nat} {vk vs:Value} {ks:List BA} {n:Nat} {xs:List Value}
def LM.call(Q:LM w P bl s bz pl j bad ts env b0 b1 B c vk vs ks n xs W)(a:LAt W' bl s bz pl j' bad')(hf:Fr W W' (· = bl))(d:j'<=s.size):LM w P bl s bz pl j' bad' ts env b0 b1 B c vk vs ks n xs W':=by
 have h1:=Q.M.lt;have h:=Q.hb;exact⟨Q.M.call a hf d,Q.hb,ak_ Q.bB hf.size,hf.bl Q.r0 M_,hf.bl Q.r1 M_,zj Q.kr hf (λg hg e=>by have:=Q.kr.lt g hg;omega),zj Q.vr hf (λg hg e=>by have:=Q.vr.lt g hg;omega),Q.ap⟩
def LM.si(Q:LM w P bl s bz pl j bad ts env b0 b1 B c vk vs ks n xs W)(h:zq W W'):LM w P bl s bz pl j bad ts env b0 b1 B c vk vs ks n xs W':=Q.call (Q.M.L.si h) ((A_ W _).si h) Q.M.jl
def LM.inc(Q:LM w P bl s bz pl j bad ts env b0 b1 B c vk vs ks n xs W)(h:j<s.size):LM w P bl s bz pl (j+1) bad ts env b0 b1 B c vk vs ks n xs (W.setCell ⟨bl,1,none⟩ (z_ ((j:Int)+1))):=Q.call Q.M.L.inc (Y_ _ _ _) h
def LM.sp(Q:LM w P bl s bz pl j bad ts env b0 b1 B c vk vs ks n xs W):LM w P bl s bz pl j true ts env b0 b1 B c vk vs ks n xs (W.setCell ⟨bl,2,none⟩ (.bool true)):=Q.call Q.M.L.sp (Y_ _ _ _) Q.M.jl
def LM.alloc(Q:LM w P bl s bz pl j bad ts env b0 b1 B c vk vs ks n xs W)(o:Obj):LM w P bl s bz pl j bad ts env b0 b1 B c vk vs ks n xs (W.alloc o):=
 ⟨Q.M.alloc o,Q.hb,by have:=Q.bB;simp;omega,Q.r0.alloc o,Q.r1.alloc o,World.ownsRow.alloc Q.kr o,World.ownsRow.alloc Q.vr o,Q.ap⟩
def LM.key(Q:LM w P bl s bz pl j bad ts env b0 b1 B c vk vs ks n xs W){d:Value}{key:BA}(hg:(W.alloc o).grownBy w5 vk.ownBlock)(ho:w5.ownsRow B 9 1 d (ks.length+1) (ks.map Value.string++[.string key]))(hl:d.ownBlock=vk.ownBlock\/d.ownBlock=some (W.alloc o).heap.size):LM w P bl s bz pl j bad ts env b0 b1 B c d vs (ks++[key]) n xs (w5.setCell ⟨b1,3,none⟩ d):=by
 have hb:=Q.hb;have u:=Q.bB;have l:Fr W w5 (λg=>vk.ownBlock=some g):=a_ ((A_ W _).alloc o) hg (λk e _=>e);have hv:∀g,d.ownBlock=some g->B<=g/\(vk.ownBlock=some g\/W.heap.size<=g):=λg a=>by
  rcases hl with e|e
  .exact⟨(Q.kr.lt g (e▸a)).1,.inl (e▸a)⟩
  .rw[e]at a;simp only[ah_]at a;have:(W.alloc o).heap.size=W.heap.size+1:=by simp
   exact⟨M_,.inr M_⟩
 have m:Fr w5 (w5.setCell ⟨b1,3,none⟩ d) (λg=>g=b1):=(A_ w5 (λg=>g=b1)).setCell ⟨b1,3,none⟩ d (λ_=>rfl);have h:Fr W (w5.setCell ⟨b1,3,none⟩ d) (λg=>vk.ownBlock=some g\/g=b1):=(l.mono (λ_ _ e=>.inl e)).trans m (λ_ _ e=>.inr e);have t:=l.bl Q.r1 (λe=>by have:=Q.kr.lt _ e;omega);refine⟨Q.M.own (h.mono (λg _ e=>?_)),Q.hb,ak_ u h.size,h.bl Q.r0 (λe=>?_),t.set 3 d,?_,zj Q.vr h (λg a e=>?_),λg a e=>?_⟩
 .rcases e with e|e
  .have:=Q.kr.lt g e;omega
  .omega
 .rcases e with e|e
  .have:=Q.kr.lt _ e;omega
  .omega
 .rw[ai_,av_,bj_,aw_,bd_];exact zj ho m (λg a e=>by have:=hv g a;omega)
 .rcases e with e|e
  .exact Q.ap g e a
  .have:=Q.vr.lt _ a;omega
 .rcases(hv g a).2 with q|q
  .exact Q.ap g q e
  .have:=Q.vr.lt _ e;omega
def LM.item(Q:LM w P bl s bz pl j bad ts env b0 b1 B c vk vs ks n xs W){d:Value}{v:List Value}(hg:(W.alloc o).grownBy w5 vs.ownBlock)(ho:w5.ownsRow B 111 5 d (n+1) (xs++v))(hl:d.ownBlock=vs.ownBlock\/d.ownBlock=some (W.alloc o).heap.size):LM w P bl s bz pl j bad ts env b0 b1 B c vk d ks (n+1) (xs++v) (w5.setCell ⟨b1,4,none⟩ d):=by
 have hb:=Q.hb;have u:=Q.bB;have l:Fr W w5 (λg=>vs.ownBlock=some g):=a_ ((A_ W _).alloc o) hg (λk e _=>e);have hv:∀g,d.ownBlock=some g->B<=g/\(vs.ownBlock=some g\/W.heap.size<=g):=λg a=>by
  rcases hl with e|e
  .exact⟨(Q.vr.lt g (e▸a)).1,.inl (e▸a)⟩
  .rw[e]at a;simp only[ah_]at a;have:(W.alloc o).heap.size=W.heap.size+1:=by simp
   exact⟨M_,.inr M_⟩
 have m:Fr w5 (w5.setCell ⟨b1,4,none⟩ d) (λg=>g=b1):=(A_ w5 (λg=>g=b1)).setCell ⟨b1,4,none⟩ d (λ_=>rfl);have h:Fr W (w5.setCell ⟨b1,4,none⟩ d) (λg=>vs.ownBlock=some g\/g=b1):=(l.mono (λ_ _ e=>.inl e)).trans m (λ_ _ e=>.inr e);have t:=l.bl Q.r1 (λe=>by have:=Q.vr.lt _ e;omega);refine⟨Q.M.own (h.mono (λg _ e=>?_)),Q.hb,ak_ u h.size,h.bl Q.r0 (λe=>?_),t.set 4 d,zj Q.kr h (λg a e=>?_),zj ho m (λg a e=>by have:=hv g a;omega),λg a e=>?_⟩
 .rcases e with e|e
  .have:=Q.vr.lt g e;omega
  .omega
 .rcases e with e|e
  .have:=Q.vr.lt _ e;omega
  .omega
 .rcases e with e|e
  .exact Q.ap g a e
  .have:=Q.kr.lt _ a;omega
 .rcases(hv g e).2 with q|q
  .exact Q.ap g a q
  .have:=Q.kr.lt _ a;omega
def LM.ie(Q:LM w P bl s bz pl j bad ts env b0 b1 B c vk vs ks n xs W)(hg:(W.alloc o).grownBy w5 vs.ownBlock):w5.cell? ⟨b1,4,none⟩=some vs/\w5.frozen? ⟨b1,4,none⟩=false:=by
 have hb:=Q.hb;have d:Fr W w5 (λg=>vs.ownBlock=some g):=a_ ((A_ W _).alloc o) hg (λk e _=>e);have a:=d.bl Q.r1 (λe=>by have:=Q.vr.lt _ e;omega);exact⟨a.cell 4,a.th 4⟩
def LM.keyCell(Q:LM w P bl s bz pl j bad ts env b0 b1 B c vk vs ks n xs W)(hg:(W.alloc o).grownBy w5 vk.ownBlock):w5.cell? ⟨b1,3,none⟩=some vk/\w5.frozen? ⟨b1,3,none⟩=false:=by
 have hb:=Q.hb;have d:Fr W w5 (λg=>vk.ownBlock=some g):=a_ ((A_ W _).alloc o) hg (λk e _=>e);have a:=d.bl Q.r1 (λe=>by have:=Q.kr.lt _ e;omega);exact⟨a.cell 3,a.th 3⟩
end
def gH(acc:List (BA×DT)):Option (List (BA×DT)×Nat)->Option (List (BA×DT)×Nat)
 |none=>none
 |some (l,e)=>some (acc++l,e)
def fF(acc:List (BA×DT)):Option BA:=acc.getLast?.map Prod.fst
def rF(R:Nat->Option (DT×Nat))(s:BA)(fin:Nat)(keyed:Bool)(n:Nat)(acc:List (BA×DT))(j:Nat):Option (List (BA×DT)×Nat):=
 if bt s j=fin then some (acc,j+1) else if bt s j=44 then gH acc (yC R s fin keyed n (fF acc) (j+1)) else none
def rm(R:Nat->Option (DT×Nat))(s:BA)(fin:Nat)(keyed:Bool)(n:Nat)(acc:List (BA×DT))(k:BA)(j:Nat):Option (List (BA×DT)×Nat):=
 match R j with
 |none=>none
 |some (d,e)=>rF R s fin keyed n (acc++[(k,d)]) e
def Zw(x:Option (List (BA×DT)×Nat)):gH [] x=x:=by
 match x with
 |none=>rfl
 |some (r,j)=>rfl
def uz(R:Nat->Option (DT×Nat))(s:BA)(fin:Nat)(keyed:Bool)(n:Nat)(acc:List (BA×DT))(last:Option BA)(j:Nat):gH acc (yC R s fin keyed (n+1) last j) =
 match kE s keyed last j with
 |none=>none
 |some (k,a)=>rm R s fin keyed n acc k a:=by
 rw[yC];cases kE s keyed last j with
 |none=>rfl
 |some q=>
  obtain⟨k,a⟩:=q;simp only[rm];cases R a with
  |none=>rfl
  |some q=>
   obtain⟨d,e⟩:=q;simp only[rF];split
   .rfl
   .split
    .have:fF (acc++[(k,d)])=some k:=by simp[fF]
     rw[this];cases yC R s fin keyed n (some k) (e+1) with
     |none=>rfl
     |some q=>simp[gH]
    .rfl
def ZM(keyed:Bool):Option (List (BA×DT)×Nat)->Option (DT×Nat)
 |none=>none
 |some (l,e)=>some (.mk 0 0 noB (if keyed=true then l.map Prod.fst else []) (l.map Prod.snd),e)
def kZ(keyed:Bool)(acc:List (BA×DT)):List BA:=if keyed=true then acc.map Prod.fst else []
def Bw(R_:Option (List (BA×DT)×Nat))(R:Nat->Option (DT×Nat))(fin:Nat)(keyed:Bool)(i:Nat)(w:World)(P:Nat->Prop)(bl:Nat)(s:BA)(bz:Nat)(pl:Bool)(ts:List TR)(env:Nat->Option PB)(m:Nat)(W:World):Prop:=
 ∃vk vs ks n xs,
  ((∃acc j,LM w P bl s bz pl j false ts env w.heap.size (w.heap.size+1) (w.heap.size+2) 0 vk vs ks n xs W/\n=acc.length/\ks=kZ keyed acc/\s.size+2-j<=m/\
   ((acc=[]/\j=i/\R_=if bt s i=fin then some ([],i+1) else gH [] (yC R s fin keyed (s.size+2) none i))\/(acc≠[]/\i+acc.length<=j/\∃nn,s.size<nn+j/\R_=rF R s fin keyed nn acc j)))\/
   (∃j,LM w P bl s bz pl j true ts env w.heap.size (w.heap.size+1) (w.heap.size+2) 0 vk vs ks n xs W/\R_=none))
def iX{w:World}{P:Nat->Prop}{bl:Nat}{s:BA}{bz:Nat}{pl:Bool}{bad:Bool}{ts:List TR}{env:Nat->Option PB}(M:DM w P bl s bz pl i bad ts env w):LM w P bl s bz pl i bad ts env w.heap.size (w.heap.size+1) (w.heap.size+2) 0 (L_) (L_) [] 0 [] ((w.alloc (.cells zo.toArray 111)).alloc (.cells zo.toArray 111)):=by
 refine⟨(M.alloc _).alloc _,M_,by simp,(B_ w _ _).alloc _,?_,World.ownsRow_nil _ _ _ _,World.ownsRow_nil _ _ _ _,λg hg=>by simp[Value.ownBlock]at hg⟩;have:=B_ (w.alloc (.cells zo.toArray 111)) zo.toArray 111;have e:(w.alloc (.cells zo.toArray 111)).heap.size=w.heap.size+1:=by simp
 rw[e]at this;exact this
def Zh:Tryz.prog.underlying 109=some (.slice 111):=K_
def ZI:(Tryz.prog.info? 111).map (λi=>(i.zero,i.size,i.bytes))=some (some (.agg zo.toArray),5,80):=K_
def VK:Tryz.prog.underlying 108=some (.slice 9):=K_
def PJ:(Tryz.prog.info? 9).map (λi=>(i.zero,i.size,i.bytes))=some (some (.string noB),1,16):=K_
def Pv(s:BA)(env:Nat->Option PB)(pl:Bool)(ts:List TR)(t:PT):Prop:=
 ∀(w:World) (P:Nat->Prop) (bl bz k i:Nat),DM w P bl s bz pl i true ts env w->isT ts k t->
  Calls prog 64 #[P_ bl,I_ k] w (zW w bl s bz pl none)
def zQ{w:World}{o:Nat}(h:w.cell? ⟨b,o,none⟩=some v):b<w.heap.size:=World.block_lt_of_cell? w ⟨b,o,none⟩ h
def gB{w:World}{o:Nat}(h:w.cell? ⟨b,o,none⟩=some v)(X:Obj):(w.alloc X).cell? ⟨b,o,none⟩=some v:=by
 rw[World.cell?_alloc_past X b o (zQ h)];exact h
def yu{w:World}{o:Nat}(h:w.cell? ⟨b,o,none⟩=some v)(X Y Z:Obj):(((w.alloc X).alloc Y).alloc Z).cell? ⟨b,o,none⟩=some v:=gB (gB (gB h X) Y) Z
def qc.any{w:World}{P:Nat->Prop}{bl:Nat}{s:BA}{bz:Nat}{pl:Bool}{j:Nat}{bad:Bool}{ts:List TR}{env:Nat->Option PB}{W:World}{d:Nat}(hd:0<d)(M:DM w P bl s bz pl j bad ts env W)(h:qc W bl s bz pl j bad d w'):∃j' bad',DM w P bl s bz pl j' bad' ts env w'/\Fr W w' (· = bl)/\H_ ((bad=false/\bt s j=d/\j'=j+1/\bad'=false)\/((bad=true\/bt s j≠d)/\j'=j/\bad'=true)):=by
 have:=M.jl;obtain⟨h1,a⟩:=h;cases bad with
 |true=>
  by_cases hb:lk s j true=d
  .simp[lk]at hb;omega
  .rw[n_ hb]at h1;exact⟨j,true,M.call h1 a M.jl,a,.inr ⟨.inl rfl,rfl,rfl⟩⟩
 |false=>
  by_cases hb:lk s j false=d
  .rw[i_ hb]at h1;exact⟨j+1,false,M.call h1.1 a h1.2,a,.inl ⟨rfl,by simpa[lk] using hb,rfl,rfl⟩⟩
  .rw[n_ hb]at h1;exact⟨j,true,M.call h1 a M.jl,a,.inr ⟨.inr (by simpa[lk] using hb),rfl,rfl⟩⟩
def cq3_{p:Prop}(h:p:=by
 intro w P bl bz k M hk;simp only[isT]at hk;obtain⟨g,m,cap,sv,z0,a5,z1,z2,ho,a0⟩:=M.Z.type hk;simp only[az_]at z1;refine hq_ λa3 Q_=>?_;have a7:=M.lt;have a8:=zQ z0;have a9:=zQ z1;have c3:=M.L.c3;have c2:=M.L.c2;have K:=M.jl;have N:=M.sl;obtain⟨l,sn,q,rfl⟩:=yG ho;(first|(have:=cc1;have x:=zy (nk M 108 (.slice l sn q)))|(have:=cc2;have x:=zy (nk M 110 (.slice l sn q)))|(have x:=zy (nk M 105 (.slice l sn q))));(first|(have:=cc1;have C:=zy (lZ w 108 (.slice l sn q)))|(have:=cc2;have C:=zy (lZ w 110 (.slice l sn q)))|(have C:=zy (lZ w 105 (.slice l sn q))));(first|(have:=cc1;have V:=zy (ng w 108 (.slice l sn q)))|(have:=cc2;have V:=zy (ng w 110 (.slice l sn q)))|(have V:=zy (ng w 105 (.slice l sn q))));(first|(have:=cc1;have D:=zy (eu w 108 (.slice l sn q)))|(have:=cc2;have D:=zy (eu w 110 (.slice l sn q)))|(have D:=zy (eu w 105 (.slice l sn q))));have d2:=λX Y Z=>yu c2 X Y Z;have a6:(k:Int)<(m:Int):=M_;replace M:=zy M;replace ho:=zy ho;replace a0:=zy a0;replace hk:=zy hk;go_in;go_wp2_with ((first|go_at_call 90|go_at_call 88);(first|(have:=cc1;apply(mr (kd:=108) x.o.L N K).mono)|(have:=cc2;apply(xg 78 x.o.L N K rfl D_).mono)|(apply(mr (kd:=105) x.o.L N K).mono));(first|(have:=cc2;rintro e w1 ⟨rfl,F⟩)|(intro e w1 F));(first|(have:=cc2;obtain⟨b4,j1,y,t,J⟩:=qc.any D_ x.o F)|(obtain⟨v,j1,a4,rfl,H,t,J⟩:=F.any x.o));(first|(have:=cc2;have d:=t.bl C.o M_)|(have y:=t.bl C.o M_));(first|(have:=cc2;have u:=t.bl D.o M_)|(have A:=t.bl D.o M_;have p1:=A.cell 1;have p2:=A.th 1;simp only[zt,aa_,ab_]at p1;have E:=H.put ⟨w.heap.size+1+1,1,none⟩ (z_ v) (by simp;omega);have u:=T_ A 1 (z_ v);have d:=F_ y (a:=⟨w.heap.size+2,1,none⟩) (z_ v) (by simp)));have r0:=d.cell 0;have r1:=d.cell 1;have r2:=d.cell 2;have r3:=d.cell 3;have r4:=d.cell 4;have t0:=u.cell 0;have t1:=u.cell 1;have t2:=u.cell 2;have t3:=u.cell 3;have t4:=u.cell 4;obtain⟨g0,g1,g2,g3,g4⟩:=d.t5;(first|(have:=cc2;simp only[zo,zt,aa_,ab_,az_]at r0 r1 r2 r3 r4 t0 t1 t2 t3 t4)|(simp only[zo,zt,aa_,ab_,am_,an_,az_]at r0 r1 r2 r3 r4 t0 t1 t2 t3 t4;revert H t E;refine h_ λH t E=>?_));replace y:=zy y;(first|(have:=cc2;replace t:=zy t)|(replace A:=zy A));replace d:=zy d;replace u:=zy u;clear F);(first|(have:=cc1;have G:=G_ d.o (.int .u8 108) (z_ v) (.string noB) (L_) (L_))|(have:=cc2;have G:=G_ d.o (.int .u8 110) (O_) (.string noB) (L_) (L_))|(have G:=G_ d.o (.int .u8 105) (z_ v) (.string noB) (L_) (L_)));obtain⟨O,Q,T,q3,U⟩:=G.d5;(first|(have:=cc1;have z:=J_ (w1.setCell ⟨w.heap.size+1+1,1,none⟩ (z_ v)) (w.heap.size) (.int .u8 108) (z_ v) (.string noB) (L_) (L_))|(have:=cc2;have z:=J_ w1 (w.heap.size) (.int .u8 110) (O_) (.string noB) (L_) (L_))|(have z:=J_ (w1.setCell ⟨w.heap.size+1+1,1,none⟩ (z_ v)) (w.heap.size) (.int .u8 105) (z_ v) (.string noB) (L_) (L_)));(first|(have:=cc1;generalize (((((World.setCell (w1.setCell ⟨w.heap.size+1+1,1,none⟩ (z_ v)) ⟨w.heap.size,0,none⟩ (.int .u8 108)).setCell ⟨w.heap.size,1,none⟩ (z_ v)).setCell ⟨w.heap.size,2,none⟩ (.string noB)).setCell ⟨w.heap.size,3,none⟩ (L_)).setCell ⟨w.heap.size,4,none⟩ (L_))=W5 at *)|(have:=cc2;generalize (((((World.setCell w1 ⟨w.heap.size,0,none⟩ (.int .u8 110)).setCell ⟨w.heap.size,1,none⟩ (O_)).setCell ⟨w.heap.size,2,none⟩ (.string noB)).setCell ⟨w.heap.size,3,none⟩ (L_)).setCell ⟨w.heap.size,4,none⟩ (L_))=W5 at *)|(generalize (((((World.setCell (w1.setCell ⟨w.heap.size+1+1,1,none⟩ (.int .i64 v)) ⟨w.heap.size,0,none⟩ (.int .u8 105)).setCell ⟨w.heap.size,1,none⟩ (.int .i64 v)).setCell ⟨w.heap.size,2,none⟩ (.string noB)).setCell ⟨w.heap.size,3,none⟩ (L_)).setCell ⟨w.heap.size,4,none⟩ (L_))=W5 at *));(first|(have:=cc1;refine bodyPost_ret (v:=.agg (zt 108 v noB (L_) (L_)).toArray) (by simp[results,results64,go_sem,O,Q,T,q3,U,zt]) rfl ?_)|(have:=cc2;refine bodyPost_ret (v:=.agg (zt 110 0 noB (L_) (L_)).toArray) (by simp[results,results64,go_sem,O,Q,T,q3,U,zt]) rfl ?_)|(refine bodyPost_ret (v:=.agg (zt 105 v noB (L_) (L_)).toArray) (by simp[results,results64,go_sem,O,Q,T,q3,U,zt]) rfl ?_));rw[Q_.o];(first|(have:=cc2;rcases J.o with⟨_,I,rfl,rfl⟩|⟨I,rfl,rfl⟩)|(rcases J.o with⟨rfl,hr⟩|⟨rfl,hr⟩))
 ·(first|(have:=cc2;exact xP y.o z (by simp[rdT,xj,I]))|(exact xP E.o z (by simp[rdT,xj,hr])))
 ·(first|(have:=cc2;exact vJ y.o z (by simp[rdT,xj];simpa using I))|(exact vJ E.o z (by simp[rdT,xj,hr])))):p:=h
def PU{s:BA}{env:Nat->Option PB}{pl:Bool}{ts:List TR}:vV s env pl ts (f+1) (.leaf 110 p) i:=by
 have cc2:=trivial
 exact cq3_
def PG{s:BA}{env:Nat->Option PB}{pl:Bool}{ts:List TR}:vV s env pl ts (f+1) (.leaf 116 p) i:=by
 intro w P bl bz k M hk;simp only[isT]at hk;obtain⟨g,m,cap,sv,z0,a7,z1,z2,ho,a3⟩:=M.Z.type hk;simp only[az_]at z1;refine hq_ λa5 Q_=>?_;have a9:=M.lt;have b4:=zQ z0;have b5:=zQ z1;have c3:=M.L.c3;have c2:=M.L.c2;have N:=M.jl;have O:=M.sl;obtain⟨G,sn,H,rfl⟩:=yG ho;have D:=zy (nk M 116 (.slice G sn H));have B0:=zy (lZ w 116 (.slice G sn H));have B2:=zy (eu w 116 (.slice G sn H));have d2:=λX Y Z=>yu c2 X Y Z;have a8:(k:Int)<(m:Int):=M_;obtain⟨c,hc⟩:=x_ (bt s i);have a0:=zy (show lk s i false=c by simp[lk,hc]);by_cases E:c=84
 .subst E;have a4:i<s.size:=zc M_;replace hc:=zy hc;go_in;go_wp2_with (go_at_call 89;apply(yP D.o.L O N).mono;rintro e w1 ⟨rfl,A⟩;rw[a0.o];have u:=D.o.si A;have q:=(A_ _ (λg=>g=bl)).si A;have x:=q.bl B0 M_;have y:=q.bl B2 M_;have p1:=y.cell 1;have p2:=y.th 1;simp only[zt,aa_,ab_]at p1;have l:=u.put ⟨w.heap.size+1+1,1,none⟩ (z_ 1) (by simp;omega);have h:=T_ y 1 (z_ 1);have d:=F_ x (a:=⟨w.heap.size+2,1,none⟩) (z_ 1) (by simp);have c1:=l.L.c1;have f1:=l.L.th 1;have J:=l.inc a4;have z:=F_ h (a:=⟨bl,1,none⟩) (z_ ((i:Int)+1)) (by simp;omega);have t:=F_ d (a:=⟨bl,1,none⟩) (z_ ((i:Int)+1)) (by simp;omega);have r0:=t.cell 0;have r1:=t.cell 1;have r2:=t.cell 2;have r3:=t.cell 3;have r4:=t.cell 4;have t0:=z.cell 0;have t1:=z.cell 1;have t2:=z.cell 2;have t3:=z.cell 3;have t4:=z.cell 4;obtain⟨g0,g1,g2,g3,g4⟩:=t.t5;simp only[zo,zt,aa_,ab_,am_,an_,az_]at r0 r1 r2 r3 r4 t0 t1 t2 t3 t4;revert u q x y l h;refine m_ λu q x y l h=>?_;revert d J z t;refine g_ λd J z t=>?_);have I:=G_ t (.int .u8 116) (z_ 1) (.string noB) (L_) (L_);obtain⟨Q,T,U,q3,V⟩:=I.d5;have F:=J_ ((w1.setCell ⟨w.heap.size+1+1,1,none⟩ (z_ 1)).setCell ⟨bl,1,none⟩ (z_ ((i:Int)+1))) (w.heap.size) (.int .u8 116) (z_ 1) (.string noB) (L_) (L_);generalize (((((World.setCell ((w1.setCell ⟨w.heap.size+1+1,1,none⟩ (z_ 1)).setCell ⟨bl,1,none⟩ (z_ ((i:Int)+1))) ⟨w.heap.size,0,none⟩ (.int .u8 116)).setCell ⟨w.heap.size,1,none⟩ (z_ 1)).setCell ⟨w.heap.size,2,none⟩ (.string noB)).setCell ⟨w.heap.size,3,none⟩ (L_)).setCell ⟨w.heap.size,4,none⟩ (L_))=W5 at *;refine bodyPost_ret (v:=.agg (zt 116 1 noB (L_) (L_)).toArray) (by simp[results,results64,go_sem,Q,T,U,q3,V,zt]) rfl ?_;rw[Q_.o];exact xP J F (by simp[rdT,xj,hc.o])
 .have b6:((c:Int)==84)=false:=by simp;omega
  replace hc:=zy hc;replace E:=zy E;go_in;go_wp2_with (first
   |(go_at_call 89;apply(yP D.o.L O N).mono;rintro e w1 ⟨rfl,A⟩;rw[a0.o];have u:=D.o.si A;have q:=(A_ _ (λg=>g=bl)).si A;have x:=q.bl B0 M_;have y:=zy (q.bl B2 M_);revert u q x;refine h_ λu q x=>?_)
   |(go_at_call 88;apply(xg 70 u.o.L O N rfl D_).mono;rintro e w2 ⟨rfl,hE⟩;obtain⟨j2,a6,l,C,hJ⟩:=qc.any D_ u hE;have d:=C.bl x M_;have h:=C.bl y M_;have r0:=d.cell 0;have r1:=d.cell 1;have r2:=d.cell 2;have r3:=d.cell 3;have r4:=d.cell 4;have t0:=h.cell 0;have t1:=h.cell 1;have t2:=h.cell 2;have t3:=h.cell 3;have t4:=h.cell 4;obtain⟨g0,g1,g2,g3,g4⟩:=d.t5;simp only[zo,zt,aa_,ab_,az_]at r0 r1 r2 r3 r4 t0 t1 t2 t3 t4;revert l C d h;refine g_ λl C d h=>?_))
  have I:=G_ d (.int .u8 116) (O_) (.string noB) (L_) (L_);obtain⟨Q,T,U,q3,V⟩:=I.d5;have F:=J_ w2 (w.heap.size) (.int .u8 116) (O_) (.string noB) (L_) (L_);generalize (((((World.setCell w2 ⟨w.heap.size,0,none⟩ (.int .u8 116)).setCell ⟨w.heap.size,1,none⟩ (O_)).setCell ⟨w.heap.size,2,none⟩ (.string noB)).setCell ⟨w.heap.size,3,none⟩ (L_)).setCell ⟨w.heap.size,4,none⟩ (L_))=W5 at *;refine bodyPost_ret (v:=.agg (zt 116 0 noB (L_) (L_)).toArray) (by simp[results,results64,go_sem,Q,T,U,q3,V,zt]) rfl ?_;rw[Q_.o];rcases hJ.o with⟨_,K,rfl,rfl⟩|⟨K,_,rfl⟩
  .exact xP l F (by simp[rdT,xj,K])
  .have t:bt s i≠70:=by simpa using K
   have z:bt s i≠84:=by rw[hc.o];exact E
   exact vJ l F (by simp[rdT,xj,t,z])
def wE.any{w:World}{P:Nat->Prop}{bl:Nat}{s:BA}{bz:Nat}{pl:Bool}{j kd:Nat}{ts:List TR}{env:Nat->Option PB}{W W':World}(M:DM w P bl s bz pl j false ts env W)(h:wE W bl s bz pl j kd e W'):∃v j' bad',e=.returned (z_ v)/\DM w P bl s bz pl j' bad' ts env W'/\Fr W W' (· = bl)/\H_ ((bad'=false/\xE s kd j=some (v,j'))\/(bad'=true/\xE s kd j=none)):=by
 obtain⟨k,neg,t,hn,m,hk,h1,g,hf,l⟩:=h;subst hn m hk;rcases l with⟨a,b,c,d⟩|⟨a,c,d⟩
 .exact⟨_,_,_,d,M.call c hf g,hf,.inl ⟨rfl,by unfold xE;exact i_ a⟩⟩
 .exact⟨_,_,_,d,M.call c hf g,hf,.inr ⟨rfl,by unfold xE;exact n_ a⟩⟩
def PC{s:BA}{env:Nat->Option PB}{pl:Bool}{ts:List TR}:vV s env pl ts (f+1) (.leaf 105 p) i:=by
 exact cq3_
def PM{s:BA}{env:Nat->Option PB}{pl:Bool}{ts:List TR}:vV s env pl ts (f+1) (.leaf 108 p) i:=by
 have cc1:=trivial
 exact cq3_
def qJ.any{w:World}{P:Nat->Prop}{bl:Nat}{s:BA}{bz:Nat}{pl:Bool}{j:Nat}{bad:Bool}{ts:List TR}{env:Nat->Option PB}{W W':World}(M:DM w P bl s bz pl j bad ts env W)(h:qJ W bl s bz pl j bad e W'):∃tx j',e=.returned (.string tx)/\DM w P bl s bz pl j' bad ts env W'/\Fr W W' (· = bl)/\tx.size<=4000/\H_ (tx=s.extract j j'/\j<=j'/\(bad=false->j'=zG s j)):=by
 obtain⟨k,h1,d,g,l,m,a⟩:=h;refine⟨_,k,l,M.call m a g,a,?_,rfl,d,λhb=>by rw[h1,hb];rfl⟩;have:=M.sl;rw[bl_];omega
def PP{s:BA}{env:Nat->Option PB}{pl:Bool}{ts:List TR}:vV s env pl ts (f+1) (.leaf 115 p) i:=by
 intro w P bl bz k M hk;simp only[isT]at hk;obtain⟨g,m,cap,sv,z0,b4,z1,z2,ho,U⟩:=M.Z.type hk;simp only[az_]at z1;refine hq_ λa7 Q_=>?_;have b6:=M.lt;have b7:=zQ z0;have b8:=zQ z1;have c3:=M.L.c3;have c2:=M.L.c2;have a5:=M.jl;have K:=M.sl;obtain⟨D,sn,E,rfl⟩:=yG ho;have N:=zy (nk M 115 (.slice D sn E));have B0:=zy (lZ w 115 (.slice D sn E));have B2:=zy (eu w 115 (.slice D sn E));have d2:=λX Y Z=>yu c2 X Y Z;have b5:(k:Int)<(m:Int):=M_;go_in;go_wp2_with (first
  |(go_at_call 91;apply(qZ q.o.L K q.o.jl).mono;intro e w2 T;obtain⟨tx,j2,rfl,I,z,hx,hK⟩:=T.any q;have G:=z.bl F M_;have l:=z.bl D2 M_;have p1:=l.cell 2;have p2:=l.th 2;simp only[zt,aa_,ab_]at p1;have t:=I.put ⟨w.heap.size+1+1,2,none⟩ (.string tx) (by simp;omega);have H:=T_ l 2 (.string tx);have G0:=zy (F_ G (a:=⟨w.heap.size+2,2,none⟩) (.string tx) (by simp));revert I z G l t H;refine m_ λI z G l t H=>?_)
  |(go_at_call 88;apply(xg 34 t.o.L K t.o.jl rfl D_).mono;rintro e w4 ⟨rfl,x⟩;obtain⟨j4,a9,C,A,a4⟩:=qc.any D_ t x;have d:=A.bl G0 M_;have h:=A.bl H M_;have r0:=d.cell 0;have r1:=d.cell 1;have r2:=d.cell 2;have r3:=d.cell 3;have r4:=d.cell 4;have t0:=h.cell 0;have t1:=h.cell 1;have t2:=h.cell 2;have t3:=h.cell 3;have t4:=h.cell 4;obtain⟨g0,g1,g2,g3,g4⟩:=d.t5;simp only[zo,zt,aa_,ab_,am_,an_,az_]at r0 r1 r2 r3 r4 t0 t1 t2 t3 t4;revert C A d h;refine g_ λC A d h=>?_)
  |(go_at_call 88;apply(xg 34 N.o.L K a5 rfl D_).mono;rintro e w1 ⟨rfl,x⟩;obtain⟨j1,a8,q,y,Q⟩:=qc.any D_ N x;have F:=y.bl B0 M_;have D2:=zy (y.bl B2 M_);revert q y F;refine h_ λq y F=>?_))
 have L5:=G_ d (.int .u8 115) (O_) (.string tx) (L_) (L_);obtain⟨q0,q1,q2,q3,q4⟩:=L5.d5;have O:=J_ w4 (w.heap.size) (.int .u8 115) (O_) (.string tx) (L_) (L_);generalize (((((World.setCell w4 ⟨w.heap.size,0,none⟩ (.int .u8 115)).setCell ⟨w.heap.size,1,none⟩ (O_)).setCell ⟨w.heap.size,2,none⟩ (.string tx)).setCell ⟨w.heap.size,3,none⟩ (L_)).setCell ⟨w.heap.size,4,none⟩ (L_))=W5 at *;refine bodyPost_ret (v:=.agg (zt 115 0 tx (L_) (L_)).toArray) (by simp[results,results64,go_sem,q0,q1,q2,q3,q4,zt]) rfl ?_;rw[Q_.o];obtain⟨a6,b9,V⟩:=hK.o;rcases a4.o with⟨rfl,u,rfl,rfl⟩|⟨u,rfl,rfl⟩
 .rcases Q.o with⟨_,h1,rfl,_⟩|⟨_,_,hb⟩
  .have J:=V rfl;subst a6;refine xP C O ?_;rw[J]at u⊢;simp[rdT,xj,h1,u]
  .cases hb
 .refine vJ C O ?_;rcases Q.o with⟨_,h1,rfl,rfl⟩|⟨h1,_,hb⟩
  .have J:=V rfl;rw[J]at u;have a3:bt s (zG s (i+1))≠34:=by simpa using u
   simp[rdT,xj,a3]
  .have a0:bt s i≠34:=by simpa using h1
   simp[rdT,xj,a0]
def JI{ts:List TR}{k:Nat}{t:PT}(h:isT ts k t):∃l,ts[k]?=some ⟨t.kind,l⟩:=by
 cases t with
 |leaf c p=>exact⟨_,h⟩
 |wrap c p t=>obtain⟨j,h,_⟩:=h;exact⟨_,h⟩
 |alts p l=>obtain⟨j,h,_⟩:=h;exact⟨_,h⟩
def oI{s:BA}{env:Nat->Option PB}{pl:Bool}{ts:List TR}(t:PT):Pv s env pl ts t:=by
 intro w P bl bz k i M hk;obtain⟨l,hk⟩:=JI hk;obtain⟨c,hc⟩:=x_ t.kind;rw[hc]at hk;obtain⟨g,m,cap,sv,z0,a,a,d,ho,u⟩:=M.Z.type hk;simp only at a;refine hq_ λd x=>?_;have d:=M.lt;have d:=zQ z0;have d:=zQ a;have c3:=M.L.c3;have c2:=M.L.c2;obtain⟨h,sn,q,rfl⟩:=yG ho;have a:=lZ w c (.slice h sn q);have d:=eu w c (.slice h sn q);have r0:=a.cell 0;have H:=d.cell 0;have y:=a.th 0;have r1:=a.cell 1;have I:=d.cell 1;have z:=a.th 1;have E:=a.cell 2;have J:=d.cell 2;have A:=a.th 2;have F:=a.cell 3;have t3:=d.cell 3;have C:=a.th 3;have G:=a.cell 4;have t4:=d.cell 4;have D:=a.th 4;have K:=λX Y Z=>yu c2 X Y Z;simp only[dw,zo,zt,noB,aa_,ab_,az_]at r0 r1 E F G H I J t3 t4 y z A C D;have a:(k:Int)<(m:Int):=M_;replace M:=zy M;replace u:=zy u;go_in;go_wp2;have a:=((B_ w (zt c 0 noB (L_) (L_)).toArray 111).alloc (.cells #[U_ c,.slice h sn q] 75)).alloc (.cells (zt c 0 noB (L_) (L_)).toArray 111);have d:=a.cell 0;have h:=a.cell 1;have q:=a.cell 2;have q3:=a.cell 3;have u:=a.cell 4;simp only[zt,noB,aa_,ab_]at d h q q3 u;refine bodyPost_ret (v:=.agg (zt c 0 noB (L_) (L_)).toArray) (by simp[results,results64,go_sem,d,h,q,q3,u,zt,noB]) rfl ?_;rw[x.o];exact vJ (((M.o.alloc _).alloc _).alloc _) (A_ _ _) rfl
def zl{w:World}{n:Nat}{e:TypeId}{xs:List Value}(h:w.ownsRow base e size v n xs):∃a c,v=.slice a n c:=by
 rcases h.2 with⟨h1,h0⟩|⟨g,cap,_,h1,_⟩
 .subst h0;exact⟨_,_,h1⟩
 .exact⟨_,_,h1⟩
section
variable {w W W':World} {P:Nat->Prop} {bl:Nat} {s:BA} {bz:Nat} {pl:Bool} {j:Nat} {bad:Bool} {ts:List TR} {env:Nat->Option PB} {b0 b1 B c:Nat} {vk vs:Value} {ks:List BA} {n:Nat} {xs:List Value}
def qc.lm{d:Nat}(hd:0<d)(Q:LM w P bl s bz pl j bad ts env b0 b1 B c vk vs ks n xs W)(h:qc W bl s bz pl j bad d W'):∃j' bad',LM w P bl s bz pl j' bad' ts env b0 b1 B c vk vs ks n xs W'/\Fr W W' (· = bl)/\H_ ((bad=false/\bt s j=d/\j'=j+1/\bad'=false)\/((bad=true\/bt s j≠d)/\j'=j/\bad'=true)):=by
 obtain⟨j',bad',a,hf,g⟩:=qc.any hd Q.M h;exact⟨j',bad',Q.call a.L hf a.jl,hf,g⟩
def qJ.lm(Q:LM w P bl s bz pl j bad ts env b0 b1 B c vk vs ks n xs W)(h:qJ W bl s bz pl j bad e W'):∃tx j',e=.returned (.string tx)/\LM w P bl s bz pl j' bad ts env b0 b1 B c vk vs ks n xs W'/\Fr W W' (· = bl)/\tx.size<=4000/\H_ (tx=s.extract j j'/\j<=j'/\(bad=false->j'=zG s j)):=by
 obtain⟨tx,j',he,a,hf,hx,d⟩:=qJ.any Q.M h;exact⟨tx,j',he,Q.call a.L hf a.jl,hf,hx,d⟩
def zW.lm{r:Option (DT×Nat)}(Q:LM w P bl s bz pl j bad ts env b0 b1 B c vk vs ks n xs W)(h:zW W bl s bz pl r e W'):∃(k:Nat) (m:Int) (tx:BA) (a1:Option Addr) (m1 c1:Nat) (a2:Option Addr) (m2 c2:Nat) (j':Nat) (bad':Bool),e=.returned (.agg #[U_ k,z_ m,.string tx,.slice a1 m1 c1,.slice a2 m2 c2])/\LM w P bl s bz pl j' bad' ts env b0 b1 B c vk vs ks n xs W'/\Fr W W' (· = bl)/\
  H_ ((∃d,r=some (d,j')/\bad'=false)\/(r=none/\bad'=true)):=by
 obtain⟨k,m,tx,a1,m1,c1,a2,m2,c2,he,hf,a⟩:=h;cases r with
 |none=>
  obtain⟨j',h1,g⟩:=a;exact⟨k,m,tx,a1,m1,c1,a2,m2,c2,j',true,he,Q.call g hf h1,hf,.inr ⟨rfl,rfl⟩⟩
 |some q=>
  exact⟨k,m,tx,a1,m1,c1,a2,m2,c2,q.2,false,he,Q.call a.2 hf a.1,hf,.inl ⟨q.1,rfl,rfl⟩⟩
end
def QE(R_:Option (List (BA×DT)×Nat))(R:Nat->Option (DT×Nat))(s:BA)(fin:Nat)(keyed:Bool)(acc:List (BA×DT))(i j j':Nat)(bad':Bool):Prop:=
 (bad'=false/\j<=j'/\i+acc.length<=j'/\∃nn,s.size<nn+j'/\R_=gH acc (yC R s fin keyed nn (fF acc) j'))\/(bad'=true/\R_=none)
def QI(R_:Option (List (BA×DT)×Nat))(R:Nat->Option (DT×Nat))(s:BA)(fin:Nat)(keyed:Bool)(acc:List (BA×DT))(i j:Nat)(tx:BA)(j':Nat)(bad':Bool):Prop:=
 (bad'=false/\j<=j'/\i+acc.length<=j'/\∃nn,s.size<nn+1+j'/\R_=if bt s j'=58 then rm R s fin keyed nn acc tx (j'+1) else none)\/(bad'=true/\R_=none)
def Pz(R_:Option (List (BA×DT)×Nat))(R:Nat->Option (DT×Nat))(s:BA)(fin:Nat)(keyed:Bool)(acc:List (BA×DT))(ks:List BA)(i j j':Nat)(bad':Bool):Prop:=
 (bad'=false/\j<=j'/\i+acc.length<=j'/\∃nn key,(∀d,ks=kZ keyed (acc++[(key,d)]))/\s.size<nn+1+j'/\R_=rm R s fin keyed nn acc key j')\/(bad'=true/\R_=none)
def aK{s:BA}{keyed:Bool}{j:Nat}(d:j=i)(hc:bt s j≠fin)(a:R_=if bt s i=fin then some ([],i+1) else gH [] (yC R s fin keyed (s.size+2) none i)):QE R_ R s fin keyed [] i j j false:=by
 subst d;rw[n_ hc]at a;exact .inl ⟨rfl,l_,by simp,s.size+2,M_,a⟩
def YH{s:BA}{keyed:Bool}{j d j':Nat}{bad':Bool}(hc:bt s j≠fin)(a:i+acc.length<=j)(a:s.size<d+j)(a:R_=rF R s fin keyed d acc j)(g:(bt s j=44/\j'=j+1/\bad'=false)\/(bt s j≠44/\j'=j/\bad'=true)):QE R_ R s fin keyed acc i j j' bad':=by
 unfold rF at a;rw[n_ hc]at a;rcases g with⟨h,rfl,rfl⟩|⟨h,rfl,rfl⟩
 .rw[i_ h]at a;exact .inl ⟨rfl,M_,M_,d,M_,a⟩
 .rw[n_ h]at a;exact .inr ⟨rfl,a⟩
def aQ{s:BA}{j j':Nat}{bad':Bool}(a:j'<=s.size)(h:QE R_ R s fin false acc i j j' bad')(ks:List BA)(q:bad'=false->ks=kZ false acc):Pz R_ R s fin false acc ks i j j' bad':=by
 rcases h with⟨rfl,h1,l,g,a,a⟩|h
 .obtain⟨m,rfl⟩:∃m,g=m+1:=⟨g-1,M_⟩;rw[uz]at a;refine .inl ⟨rfl,h1,l,m,noB,λd=>by rw[q rfl];rfl,M_,a⟩
 .exact .inr h
def tf{s:BA}{j j' a:Nat}{bad':Bool}{tx:BA}(d:j'<=s.size)(h:QE R_ R s fin true acc i j j' bad')(g:tx=s.extract j' a/\j'<=a/\(bad'=false->a=zG s j')):(bK (fF acc) tx=true->QI R_ R s fin true acc i j tx a bad')/\(bK (fF acc) tx=false->QI R_ R s fin true acc i j tx a true):=by
 rcases h with⟨rfl,h1,d,l,d,d⟩|h
 .obtain⟨m,rfl⟩:∃m,l=m+1:=⟨l-1,M_⟩;rw[uz]at d;have l:=g.2.2 rfl;unfold kE at d;rw[i_ rfl,<- l,<- g.1]at d;refine⟨λhr=>.inl ⟨rfl,M_,M_,m,M_,?_⟩,λhr=>.inr ⟨rfl,?_⟩⟩
  .rw[d,hr];by_cases hb:bt s a=58
   .rw[i_ ⟨hb,rfl⟩,i_ hb]
   .rw[n_ (λx=>hb x.1),n_ hb]
  .rw[d,hr,n_ (λx=>by simp at x)]
 .exact⟨λ_=>.inr h,λ_=>.inr ⟨rfl,h.2⟩⟩
def ik{s:BA}{j j' g:Nat}{bad bad':Bool}{tx:BA}{ks:List BA}(m:ks=kZ true acc)(h:QI R_ R s fin true acc i j tx j' bad)(l:(bad=false/\bt s j'=58/\g=j'+1/\bad'=false)\/((bad=true\/bt s j'≠58)/\g=j'/\bad'=true)):Pz R_ R s fin true acc (ks++[tx]) i j g bad':=by
 rcases h with⟨rfl,h1,a,q,a,a⟩|⟨rfl,h⟩
 .rcases l with⟨_,hb,rfl,rfl⟩|⟨hb,rfl,rfl⟩
  .rw[i_ hb]at a;exact .inl ⟨rfl,M_,M_,q,tx,λd=>by rw[m];simp[kZ],M_,a⟩
  .have m:bt s g≠58:=by simpa using hb
   rw[n_ m]at a;exact .inr ⟨rfl,a⟩
 .rcases l with⟨hb,_⟩|⟨_,rfl,rfl⟩
  .cases hb
  .exact .inr ⟨rfl,h⟩
def uN{ks:List BA}(a:ks=kZ true acc):(ks=[]->fF acc=none)/\(∀q d,ks=q++[d]->fF acc=some d):=by
 unfold kZ at a;rw[i_ rfl]at a;subst a;refine⟨λh=>?_,λq d h=>?_⟩
 .rw[List.map_eq_nil_iff]at h;subst h;rfl
 .unfold fF;rw[<- List.getLast?_map,h];simp
end Go.Proofs.YtjkiencmjggakaaGreatDoor
