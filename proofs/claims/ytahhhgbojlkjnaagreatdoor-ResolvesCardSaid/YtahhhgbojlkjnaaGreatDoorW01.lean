import Derived.Test.YtahhhgbojlkjnaaGreatDoorW00
import Derived.Deep.LoopGhost
set_option maxHeartbeats 16000000
set_option maxRecDepth 100000
set_option linter.defProp false
set_option linter.unusedSimpArgs false
open Go.Proofs.Tryz
namespace Go.Proofs.YtahhhgbojlkjnaaGreatDoor
open Go.RowKit
variable {u' tv':Ax}{c i' n N:Nat}{l:Ai}{ds:Af}{t:PT}{kb:BA}{a:Aw}
def jf(w:Aw)(B:Nat)(tv u sv:Ax)(l:Ai):Prop:=
 w.ownsRow B 3 1 sv l.length (l.map λ(n:Nat)=>Value.int .i64 (n:Int))/\∀g,sv.ownBlock=some g->tv.ownBlock≠some g/\u.ownBlock≠some g
def Bt(w:Aw)(X:Au)(B:Nat)(tv u:Ax)(ts:Aq):Prop:=
 ∃xs,w.ownsRow B 57 2 tv ts.length xs/\∀k t,ts[k]?=some t->∃sv,xs[2*k]?=some (U_ t.kind)/\xs[2*k+1]?=some sv/\jf w B tv u sv t.subs/\∀g,X g->sv.ownBlock≠some g
def jo(us:Av):List Value:=us.flatMap λp=>[U_ p.1,I_ p.2]
structure Rep(w:Aw)(X:Au)(br bz B:Nat)(s:BA)(i:Nat)(bad:Ap)(wr mx:Int)(ts:Aq)(us:Av)(zs:Az)(tv u:Ax):Prop where
 here:RAt w br s bz ⟨i,bad,u,wr,mx⟩
 z:Blk w bz (tv::zs) 42
 tys:Bt w X B tv u ts
 uses:w.ownsRow B 83 2 u us.length (jo us)
 apart:∀g,tv.ownBlock=some g->u.ownBlock≠some g
 rB:br<B
 zB:bz<B
 hB:B<=w.heap.size
 rz:br≠bz
 il:i<=s.size
 sl:s.size<=300
 tl:ts.length<=i
 ul:us.length<=i
 av:∀g,X g->g<w.heap.size/\g≠br/\g≠bz/\tv.ownBlock≠some g/\u.ownBlock≠some g
structure zI(w w':Aw)(br bz:Nat)(tv u tv' u':Ax):Prop where
 fr:Fr w w' (λx=>x=br\/x=bz\/tv.ownBlock=some x\/u.ownBlock=some x)
 tvb:tv'.ownBlock=tv.ownBlock\/∃g,tv'.ownBlock=some g/\w.heap.size<=g
 ub:u'.ownBlock=u.ownBlock\/∃g,u'.ownBlock=some g/\w.heap.size<=g
def zI.refl(w:Aw)(br bz:Nat)(tv u:Ax):zI w w br bz tv u tv u:=⟨A_ _ _,.inl rfl,.inl rfl⟩
def zI.trans{b c:Aw}{br bz:Nat}{tv u d f:Ax}(h:zI a b br bz tv u tv' u')(k:zI b c br bz tv' u' d f):zI a c br bz tv u d f:=by
 refine⟨h.fr.trans k.fr (λx hx d=>?_),?_,?_⟩
 .rcases d with e|e|e|e
  .exact .inl e
  .exact .inr (.inl e)
  .rcases h.tvb with q|⟨g,q,hg⟩
   .exact .inr (.inr (.inl (q▸e)))
   .rw[q]at e;cases e;omega
  .rcases h.ub with q|⟨g,q,hg⟩
   .exact .inr (.inr (.inr (q▸e)))
   .rw[q]at e;cases e;omega
 .rcases k.tvb with q|⟨g,q,hg⟩
  .rw[q];exact h.tvb
  .exact .inr ⟨g,q,ai_ h.fr.size hg⟩
 .rcases k.ub with q|⟨g,q,hg⟩
  .rw[q];exact h.ub
  .exact .inr ⟨g,q,ai_ h.fr.size hg⟩
def zI.subs{w w':Aw}{br bz B:Nat}{tv u sv:Ax}(h:zI w w' br bz tv u tv' u')(hs:jf w B tv u sv l)(hr:br<B)(hz:bz<B):jf w' B tv' u' sv l:=by
 refine⟨zk hs.1 h.fr (λg hg b=>?_),λg hg=>?_⟩
 .have:=hs.1.lt g hg;rcases b with e|e|e|e
  .omega
  .omega
  .exact(hs.2 g hg).1 e
  .exact(hs.2 g hg).2 e
 .have:=hs.1.lt g hg;refine⟨λe=>?_,λe=>?_⟩
  .rcases h.tvb with q|⟨x,q,hx⟩
   .exact(hs.2 g hg).1 (q▸e)
   .rw[q]at e;cases e;omega
  .rcases h.ub with q|⟨x,q,hx⟩
   .exact(hs.2 g hg).2 (q▸e)
   .rw[q]at e;cases e;omega
def cD(w:Aw)(B:Nat)(tv u:Ax):jf w B tv u (L_) []:=⟨World.ownsRow_nil _ _ _ _,λg hg=>by simp[Value.ownBlock]at hg⟩
section
variable {w w':Aw} {X:Au} {br bz B:Nat} {s:BA} {i j:Nat} {bad bad':Ap} {wr mx wr' mx':Int} {ts:Aq} {us:Av} {zs:Az} {tv u:Ax}
def Rep.move(R:Rep w X br bz B s i bad wr mx ts us zs tv u)(f:Fr w w' (· = br))(ha:RAt w' br s bz ⟨j,bad',u,wr',mx'⟩)(h1:i<=j)(m:j<=s.size):Rep w' X br bz B s j bad' wr' mx' ts us zs tv u/\zI w w' br bz tv u tv u:=by
 have h:zI w w' br bz tv u tv u:=⟨f.mono (λ_ _ e=>.inl e),.inl rfl,.inl rfl⟩;refine⟨⟨ha,f.bl R.z (Ne.symm R.rz),?_,zk R.uses f (λg hg e=>ql R.uses R.rB (e▸hg)),R.apart,R.rB,R.zB,ai_ R.hB f.size,R.rz,m,R.sl,ai_ R.tl h1,ai_ R.ul h1,λg hg=>⟨bg_ (R.av g hg).1 f.size,(R.av g hg).2⟩⟩,h⟩;obtain⟨xs,hx,hk⟩:=R.tys;refine⟨xs,zk hx f (λg hg e=>ql hx R.rB (e▸hg)),λk t f=>?_⟩;obtain⟨sv,a,b,c,d⟩:=hk k t f;exact⟨sv,a,b,h.subs c R.rB R.zB,d⟩
def Rep.si(R:Rep w X br bz B s i bad wr mx ts us zs tv u)(b:zw w w'):Rep w' X br bz B s i bad wr mx ts us zs tv u:=by
 obtain⟨n,rfl⟩:=b;exact⟨R.here,R.z,R.tys,R.uses,R.apart,R.rB,R.zB,R.hB,R.rz,R.il,R.sl,R.tl,R.ul,R.av⟩
def zI.si(h:zI a w br bz tv u tv' u')(b:zw w w'):zI a w' br bz tv u tv' u':=⟨h.fr.si b,h.tvb,h.ub⟩
def zI.oS(b:zw w w'):zI w w' br bz tv u tv u:=(zI.refl w br bz tv u).si b
def Rep.inc(R:Rep w X br bz B s i bad wr mx ts us zs tv u)(h:i<s.size):Rep (w.setCell ⟨br,1,none⟩ (Z_ ((i:Int)+1))) X br bz B s (i+1) bad wr mx ts us zs tv u/\zI w (w.setCell ⟨br,1,none⟩ (Z_ ((i:Int)+1))) br bz tv u tv u:=
 R.move (V_ _ _ _) (RAt.setI R.here (i+1)) M_ M_
def Rep.sp(R:Rep w X br bz B s i bad wr mx ts us zs tv u):Rep (w.setCell ⟨br,2,none⟩ (.bool true)) X br bz B s i true wr mx ts us zs tv u/\zI w (w.setCell ⟨br,2,none⟩ (.bool true)) br bz tv u tv u:=
 R.move (V_ _ _ _) (RAt.setBad R.here true) l_ R.il
def Rep.setMx(R:Rep w X br bz B s i bad wr mx ts us zs tv u)(m:Int):Rep (w.setCell ⟨br,6,none⟩ (Z_ m)) X br bz B s i bad wr m ts us zs tv u/\zI w (w.setCell ⟨br,6,none⟩ (Z_ m)) br bz tv u tv u:=
 R.move (V_ _ _ _) (RAt.setMx R.here m) l_ R.il
def Rep.fe(R:Rep w X br bz B s i bad wr mx ts us zs tv u){Y:Au}(e:∀g,Y g->X g):Rep w Y br bz B s i bad wr mx ts us zs tv u:=by
 refine⟨R.here,R.z,?_,R.uses,R.apart,R.rB,R.zB,R.hB,R.rz,R.il,R.sl,R.tl,R.ul,λg hg=>R.av g (e g hg)⟩;obtain⟨xs,hx,hk⟩:=R.tys;refine⟨xs,hx,λk t f=>?_⟩;obtain⟨sv,a,b,c,d⟩:=hk k t f;exact⟨sv,a,b,c,λg hg=>d g (e g hg)⟩
def Rep.o(R:Rep w X br bz B s i bad wr mx ts us zs tv u)(f:Fr w w' X):Rep w' (λg=>X g\/(w.heap.size<=g/\g<w'.heap.size)) br bz B s i bad wr mx ts us zs tv u:=by
 obtain⟨xs,hx,hk⟩:=R.tys;have hb:=R.here.lt;have m:=R.z.lt;refine⟨f.bl R.here (λh=>(R.av _ h).2.1 rfl),f.bl R.z (λh=>(R.av _ h).2.2.1 rfl),⟨xs,zk hx f (λg hg h=>(R.av g h).2.2.2.1 hg),λk t m=>?_⟩,zk R.uses f (λg hg h=>(R.av g h).2.2.2.2 hg),R.apart,R.rB,R.zB,ai_ R.hB f.size,R.rz,R.il,R.sl,R.tl,R.ul,λg hg=>?_⟩
 .obtain⟨sv,a,b,c,d⟩:=hk k t m;refine⟨sv,a,b,⟨zk c.1 f (λg hg h=>d g h hg),c.2⟩,λg hg=>?_⟩;rcases hg with hg|hg
  .exact d g hg
  .intro e;have:=c.1.lt g e;omega
 .rcases hg with hg|hg
  .exact⟨bg_ (R.av g hg).1 f.size,(R.av g hg).2⟩
  .refine⟨hg.2,M_,M_,λe=>?_,λe=>?_⟩
   .have:=hx.lt g e;omega
   .have:=R.uses.lt g e;omega
def zI.o(h:zI a w br bz tv u tv' u')(b:Fr w w' X)(hX:∀g,X g->a.heap.size<=g):zI a w' br bz tv u tv' u':=
 ⟨h.fr.trans b (λx hx b=>absurd (hX x b) M_),h.tvb,h.ub⟩
def Rep.alloc(R:Rep w X br bz B s i bad wr mx ts us zs tv u)(o:Cj):Rep (w.alloc o) X br bz B s i bad wr mx ts us zs tv u/\zI w (w.alloc o) br bz tv u tv u:=
 ⟨(R.o ((A_ w _).alloc o)).fe (λ_ h=>.inl h),⟨(A_ w _).alloc o,.inl rfl,.inl rfl⟩⟩
end
def Pu(w:Aw)(X:Au)(br bz B:Nat)(s:BA)(i:Nat)(bad:Ap)(wr mx:Int)(ts:Aq)(us:Av)(zs:Az)(tv u:Ax)(c:Nat)(l:Ai)(w':Aw):Prop:=
 ∃tv',Rep w' X br bz B s i bad wr mx (ts++[⟨c,l⟩]) us zs tv' u/\zI w w' br bz tv u tv' u
def YN{w:Aw}{base size:Nat}{e:As}{v:Ax}{xs:Az}(h:w.ownsRow base e size v n xs):v.oneCell'=true:=by
 rcases h.2 with⟨rfl,_⟩|⟨g,b,_,rfl,_⟩<;>rfl
def fY{w:Aw}{X:Au}{br bz B:Nat}{s:BA}{i:Nat}{bad:Ap}{wr mx:Int}{ts:Aq}{us:Av}{zs:Az}{tv u sv:Ax}(R:Rep w X br bz B s i bad wr mx ts us zs tv u)(hs:jf w B tv u sv l)(y:∀g,X g->sv.ownBlock≠some g)(hl:ts.length<i):Calls prog 68 #[P_ br,.agg #[U_ c,sv]] w λe w'=>e=.returned (I_ ts.length)/\Pu w X br bz B s i bad wr mx ts us zs tv u c l w':=by
 obtain⟨xs,hx,hk⟩:=R.tys;have A:=R.il;have A:=R.sl;apply(Wk R.here R.z hx rfl (YN hs.1) M_ R.hB R.rB R.zB R.rz).mono;rintro e w' ⟨rfl,tv',h1,r,v,m,o⟩;refine⟨rfl,tv',?_⟩;have p:zI w w' br bz tv u tv' u:=⟨m.mono (λ_ _ e=>e.elim (λe=>.inr (.inl e)) (λe=>.inr (.inr (.inl e)))),o,.inl rfl⟩;have A:=hx.1;refine⟨⟨h1,r,⟨xs++[U_ c,sv],by simpa using v,λk t f=>?_⟩,?_,?_,R.rB,R.zB,ai_ R.hB m.size,R.rz,R.il,R.sl,by rw[ah_];exact hl,R.ul,λg hg=>?_⟩,p⟩
 .by_cases r:k<ts.length
  .rw[ay_ r]at f;obtain⟨sv',a,b,d,r⟩:=hk k t f;exact⟨sv',by rw[ay_ M_];exact a,by rw[ay_ M_];exact b,p.subs d R.rB R.zB,r⟩
  .rw[ax_ M_]at f;have r:k-ts.length=0:=by
    rcases b6_ (k-ts.length) with h|h
    .exact h
    .rw[bq_ x4_]at f;cases f
   rw[r]at f;simp only[aa_,ae_]at f;subst f;have f:k=ts.length:=M_;refine⟨sv,?_,?_,p.subs hs R.rB R.zB,y⟩
   .rw[ax_ M_,show 2*k-xs.length=0 by omega];rfl
   .rw[ax_ M_,show 2*k+1-xs.length=1 by omega];rfl
 .refine zk R.uses m (λg hg e=>?_);rcases e with e|e
  .exact ql R.uses R.zB (e▸hg)
  .exact R.apart g e hg
 .intro g hg hu;rcases o with q|⟨x,q,A⟩
  .exact R.apart g (q▸hg) hu
  .rw[q]at hg;cases hg;have:=R.uses.lt _ hu;omega
 .obtain⟨f,p,r,v,y⟩:=R.av g hg;refine⟨bg_ f m.size,p,r,λe=>?_,y⟩;rcases o with q|⟨x,q,A⟩
  .exact v (q▸e)
  .rw[q]at e;cases e;omega
def zR{w:Aw}{X:Au}{br bz B:Nat}{s:BA}{i:Nat}{wr mx:Int}{ts:Aq}{us:Av}{zs:Az}{tv u:Ax}(R:Rep w X br bz B s i false wr mx ts us zs tv u)(hc:bt s i=c):Calls prog 40 #[P_ br] w λe w'=>e=.returned (U_ c)/\zw w w':=by
 have h1:=R.il;have b:=R.sl;apply(gn R.here R.sl y5_).mono;rintro e w' ⟨rfl,b⟩;exact⟨by simp only[iO,hc],b⟩
def yc(w:Aw)(X:Au)(br bz B:Nat)(s:BA)(i:Nat)(wr mx:Int)(ts:Aq)(us:Av)(zs:Az)(tv u:Ax)(e:Ah)(w':Aw):Prop:=
 match pT s i with
 | .ok (t,j)=>e=.returned (Z_ ((ts.length+(flat ts.length t).length-1:Nat):Int))/\∃tv' u',Rep w' X br bz B s j false wr (mix t mx) (ts++flat ts.length t) (us++zK t) zs tv' u'/\zI w w' br bz tv u tv' u'
 | .error k=>(∃v:Nat,e=.returned (Z_ (v:Int)))/\∃mx' ts' us' tv' u',Rep w' X br bz B s k true wr mx' ts' us' zs tv' u'/\ts'.length+i<=k+ts.length/\zI w w' br bz tv u tv' u'
def ug(w:Aw)(X:Au)(br bz B:Nat)(s:BA)(i:Nat)(wr mx:Int)(ts:Aq)(us:Av)(zs:Az)(tv u:Ax)(e:Ah)(w':Aw):Prop:=
 ∃sv tv' u',e=.returned (.agg #[.int .u8 40,sv])/\zI w w' br bz tv u tv' u'/\
 match pA s i with
 | .ok (ds,j)=>if bt s j=41 then Rep w' X br bz B s (j+1) false wr (qZ [] ds mx) (ts++zA ts.length ds) (us++zG ds) zs tv' u'/\jf w' B tv' u' sv (qk ts.length ds)/\∀g,X g->sv.ownBlock≠some g
  else ∃mx' ts' us' l,Rep w' X br bz B s j true wr mx' ts' us' zs tv' u'/\ts'.length+i<=j+ts.length/\jf w' B tv' u' sv l/\∀g,X g->sv.ownBlock≠some g
 | .error k=>∃mx' ts' us' l,Rep w' X br bz B s k true wr mx' ts' us' zs tv' u'/\ts'.length+i<=k+ts.length/\jf w' B tv' u' sv l/\∀g,X g->sv.ownBlock≠some g
def uz(s:BA)(i:Nat):Prop:=∀(w:World) (X:Nat->Prop) (br bz B:Nat) (wr mx:Int) (ts:List TR) (us:List (Nat×Nat)) (zs:List Value) (tv u:Value),Rep w X br bz B s i false wr mx ts us zs tv u->
 Calls prog 43 #[P_ br] w (yc w X br bz B s i wr mx ts us zs tv u)
def Kj(s:BA)(i:Nat):Prop:=∀(w:World) (X:Nat->Prop) (br bz B:Nat) (wr mx:Int) (ts:List TR) (us:List (Nat×Nat)) (zs:List Value) (tv u:Value),Rep w X br bz B s i false wr mx ts us zs tv u->
 Calls prog 69 #[P_ br] w (ug w X br bz B s i wr mx ts us zs tv u)
def KY{s:BA}{i:Nat}(h:zY (bt s i)=true):pT s i=.ok (.leaf (bt s i) i,i+1):=by
 rw[mi];unfold qy;rw[i_ h]
def nA{s:BA}{i:Nat}(h:bt s i=91\/bt s i=123):pT s i =
 match pT s (i+1) with
 | .error k=>.error k
 | .ok (t,j)=>if bt s j=xl (bt s i) then .ok (.wrap (bt s i) i t,j+1) else .error j:=by
 rw[mi];unfold qy;rw[n_ (by rcases h with h|h<;>rw[h]<;>decide),i_ h];rfl
def Yx{s:BA}{i:Nat}(h:bt s i=40):pT s i =
 match pA s (i+1) with
 | .error k=>.error k
 | .ok (ts,j)=>if bt s j=41 then .ok (.alts i ts,j+1) else .error j:=by
 rw[mi];unfold qy;rw[n_ (by rw[h];decide),n_ M_,i_ h];rfl
def nO{s:BA}{i:Nat}(h:65<=bt s i/\bt s i<=70):pT s i=.ok (.leaf (bt s i) i,i+1):=by
 rw[mi];unfold qy;rw[n_ (by simp only[zY,av_,beq_iff_eq];omega),n_ M_,n_ M_,i_ (by simp[zZ,h])]
def Ji{s:BA}{i:Nat}(h1:¬zY (bt s i)=true)(b:¬(bt s i=91\/bt s i=123))(d:¬bt s i=40)(e:¬(65<=bt s i/\bt s i<=70)):pT s i=.error i:=by
 rw[mi];unfold qy;rw[n_ h1,n_ b,n_ d,n_ (by simp only[zZ,a0_,decide_eq_true_eq];exact e)]
def VD{s:BA}{i:Nat}(hb:zY (bt s i)=true):uz s i:=by
 intro w X br bz B wr mx ts us zs tv u R;have f:i<s.size:=zr (lD hb);have k:=R.sl;have d:=KY hb;generalize hc:bt s i=c at *;have m:c=110\/c=116\/c=105\/c=108\/c=115:=by simp only[zY,av_,beq_iff_eq]at hb;omega
 have h:H_ (∀(e:Ending) (w':World),(e=.returned (I_ ts.length)/\∃tv',Rep w' X br bz B s (i+1) false wr mx (ts++[⟨c,[]⟩]) us zs tv' u/\zI w w' br bz tv u tv' u)->yc w X br bz B s i wr mx ts us zs tv u e w'):=by
  rintro e w' ⟨rfl,tv',h1,k⟩;unfold yc;rw[d];refine⟨by simp[flat],tv',u,?_,k⟩;simpa[mix,flat,zK,hb] using h1
 generalize yc w X br bz B s i wr mx ts us zs tv u=POST at *;rcases m with rfl|rfl|rfl|rfl|rfl;all_goals
  go_in;go_wp2_with (first
   |(go_at_call 40;apply(zR R hc).mono;rintro e w1 ⟨rfl,g⟩;have b:=R.si g;have c1:=b.here.c1;have d:=b.here.th 1)
   |(go_at_call 68;apply(fY (b.inc f).1 (cD _ _ _ _) (λ_ _=>nofun) (by have:=R.tl;omega)).mono;rintro e d ⟨rfl,d⟩))
  try go_ret
  obtain⟨tv',p,st⟩:=d;exact h.o _ _ ⟨rfl,tv',p,((zI.oS g).trans (b.inc f).2).trans st⟩
def ZE{s:BA}{i:Nat}(h1:¬zY (bt s i)=true)(d:¬(bt s i=91\/bt s i=123))(f:¬bt s i=40)(g:¬(65<=bt s i/\bt s i<=70)):uz s i:=by
 intro w X br bz B wr mx ts us zs tv u R;have h:=Ji h1 d f g;generalize hc:bt s i=c at *;have m:H_ (∀(e:Ending) (w':World),(e=.returned (O_)/\Rep w' X br bz B s i true wr mx ts us zs tv u/\zI w w' br bz tv u tv u)->yc w X br bz B s i wr mx ts us zs tv u e w'):=by
  rintro e w' ⟨rfl,q,st⟩;unfold yc;rw[h];exact⟨⟨0,rfl⟩,mx,ts,us,tv,u,q,M_,st⟩
 generalize yc w X br bz B s i wr mx ts us zs tv u=POST at *;have h:((c:Int)==110)=false:=yf_
 have h:((c:Int)==116)=false:=yf_
 have h:((c:Int)==105)=false:=yf_
 have h:((c:Int)==108)=false:=yf_
 have h:((c:Int)==115)=false:=yf_
 have h:((c:Int)==91)=false:=x4_
 have h:((c:Int)==123)=false:=x4_
 have h:((c:Int)==40)=false:=x4_
 have p:(decide ((65:Int)<=(c:Int))&&decide ((c:Int)<=70))=false:=x4_
 go_in;go_wp2_with (first
  |(go_at_call 40;apply(zR R hc).mono;rintro e w1 ⟨rfl,k⟩;have b:=R.si k;have c1:=b.here.c2;have d:=b.here.th 2)
  |(go_at_call 39;apply(ya _ _ _ _).mono;rintro e d ⟨rfl,rfl⟩;rw[p]))
 try go_ret
 exact m.o _ _ ⟨rfl,b.sp.1,(zI.oS k).trans b.sp.2⟩
def PK:Tryz.prog.underlying 79=some (.slice 83):=K_
def Bj:(Tryz.prog.info? 83).map (λi=>(i.zero,i.size,i.bytes))=some (some (.agg #[.int .u8 0,O_]),2,16):=K_
def rL(us:Av)(c i:Nat):jo (us++[(c,i)])=jo us++[U_ c,I_ i]:=by simp[jo]
def RAt.incI{w:Aw}{br:Nat}{s:BA}{bz i:Nat}{b:Ap}{u:Ax}{wr mx:Int}(h:RAt w br s bz ⟨i,b,u,wr,mx⟩):RAt (w.setCell ⟨br,1,none⟩ (Z_ ((i:Int)+1))) br s bz ⟨i+1,b,u,wr,mx⟩:=RAt.setI h (i+1)
def Rep.used{w w' f:Aw}{X:Au}{br bz B:Nat}{s:BA}{i:Nat}{wr mx:Int}{ts:Aq}{us:Av}{zs:Az}{tv u:Ax}(R:Rep w X br bz B s i false wr mx ts us zs tv u)(v:i<s.size)(ho:w'.ownsRow B 83 2 u' (us.length+1) (jo us++[U_ c,I_ i]))(r:Fr w w' (λx=>u.ownBlock=some x))(o:u'.ownBlock=u.ownBlock\/∃g,u'.ownBlock=some g/\w.heap.size<=g)(m:Fr w' f (· = br))(h1:RAt f br s bz ⟨i+1,false,u',wr,mx⟩):Rep f X br bz B s (i+1) false wr mx ts (us++[(c,i)]) zs tv u'/\zI w f br bz tv u tv u':=by
 have y:=ql R.uses R.zB;have hz:=r.bl R.z y;have h:Fr w f (λx=>x=br\/u.ownBlock=some x):=(r.mono (λ_ _ e=>.inr e)).trans m (λ_ _ e=>.inl e);have p:zI w f br bz tv u tv u':=⟨h.mono (λ_ _ e=>e.elim .inl (λe=>.inr (.inr (.inr e)))),.inl rfl,o⟩;refine⟨⟨h1,m.bl hz (Ne.symm R.rz),?_,?_,?_,R.rB,R.zB,ai_ R.hB h.size,R.rz,v,R.sl,Nat.le_succ_of_le R.tl,by rw[ah_];exact Nat.succ_le_succ R.ul,λg hg=>?_⟩,p⟩
 .obtain⟨xs,hx,hk⟩:=R.tys;refine⟨xs,zk hx h (λg hg e=>?_),λk t r=>?_⟩
  .rcases e with e|e
   .exact ql hx R.rB (e▸hg)
   .exact R.apart g hg e
  .obtain⟨sv,a,b,d,f⟩:=hk k t r;exact⟨sv,a,b,p.subs d R.rB R.zB,f⟩
 .rw[rL,ah_];exact zk ho m (λg hg e=>ql ho R.rB (e▸hg))
 .intro g hg e;rcases o with q|⟨x,q,hx⟩
  .exact R.apart g hg (q▸e)
  .rw[q]at e;cases e;obtain⟨xs,f,_⟩:=R.tys;have:=f.lt _ hg;omega
 .obtain⟨f,m,p,r,v⟩:=R.av g hg;refine⟨bg_ f h.size,m,p,r,λe=>?_⟩;rcases o with q|⟨x,q,hx⟩
  .exact v (q▸e)
  .rw[q]at e;cases e;omega
def VR{s:BA}{i:Nat}(h:65<=bt s i/\bt s i<=70):uz s i:=by
 intro w X br bz B wr mx ts us zs tv u R;have I:i<s.size:=zr M_;have y:=R.sl;have y:=R.ul;have m:=nO h;generalize hc:bt s i=c at *;have D:H_ (∀(e:Ending) (w':World),(e=.returned (I_ ts.length)/\∃tv' u',Rep w' X br bz B s (i+1) false wr mx (ts++[⟨c,[]⟩]) (us++[(c,i)]) zs tv' u'/\zI w w' br bz tv u tv' u')->yc w X br bz B s i wr mx ts us zs tv u e w'):=by
  rintro e w' ⟨rfl,tv',u',h1,y⟩;unfold yc;rw[m];refine⟨by simp[flat],tv',u',?_,y⟩;have hb:zY c=false:=by simp[zY];omega
  simpa[mix,flat,zK,hb] using h1
 generalize yc w X br bz B s i wr mx ts us zs tv u=POST at *;have m:((c:Int)==110)=false:=x4_
 have m:((c:Int)==116)=false:=x4_
 have m:((c:Int)==105)=false:=x4_
 have m:((c:Int)==108)=false:=x4_
 have m:((c:Int)==115)=false:=x4_
 have m:((c:Int)==91)=false:=x4_
 have m:((c:Int)==123)=false:=x4_
 have m:((c:Int)==40)=false:=x4_
 have J:(decide ((65:Int)<=(c:Int))&&decide ((c:Int)<=70))=true:=x4_
 obtain⟨ti,E,F,G,H⟩:=info_parts Bj;go_in;go_wp2_with (first
  |(go_at_call 40;apply(zR R hc).mono;rintro e w1 ⟨rfl,C⟩;have b:=R.si C)
  |(go_at_call 39;apply(ya _ _ _ _).mono;rintro e d ⟨rfl,rfl⟩;rw[J]))
 have c1:=b.here.c1;have c4:=b.here.c4;have hX:∀W,Fr d W N_->W.ownsRow B 83 2 u us.length (jo us):=λW m=>zk b.uses m (λ_ _=>id);refine tr_ 15 (λW=>z_ W br 4 u/\z_ W br 1 (I_ i)) ?_;refine tb_ 0 rfl K_ (λ_ _ _ h=>h) xq_ xf_ ?_;refine tb_ 1 rfl K_ (λ_ _ _ h=>h) xq_ xf_ ?_;refine tb_ 2 rfl K_ (λ_ _ _ h=>h) xq_ xf_ ?_;refine tb_ 3 rfl K_ (λ_ _ _ h=>h) xq_ xf_ ?_;refine tb_ 4 rfl K_ (λ_ _ _ h=>h) xq_ xf_ ?_;refine tb_ 5 rfl K_ (λ_ _ _ h=>h) xq_ xf_ ?_;refine tb_ 6 rfl K_ (λ_ _ _ h=>h) xq_ xf_ ?_;refine tb_ 7 rfl K_ (λ_ _ _ h=>h) xq_ xf_ ?_;refine tb_ 8 rfl K_ (λ_ _ _ h=>h) xq_ xf_ ?_;refine tb_ 9 rfl K_ (λ_ _ _ h=>h) xq_ xf_ ?_;refine tb_ 10 rfl K_ (λ_ _ _ h=>h) xq_ xf_ ?_;refine t1_ 11 ⟨c4,c1⟩ ?_;have y:(d.alloc (.cells #[U_ c,I_ i] 83)).cell? ⟨br,4,none⟩=some u:=Blk.ce b.here 4 _;have m:(d.alloc (.cells #[U_ c,I_ i] 83)).cell? ⟨br,1,none⟩=some (I_ i):=Blk.ce b.here 1 _;refine yz 12 rfl K_ (λ_=>⟨y,m⟩) (λK y=>?_);refine qU rfl (.tmp 79) (.tmp 86) 79 rfl B 83 ti _ 2 16 PK E F G H rfl D_ u us.length (jo us) (by simp[Act.eval]) (hX _ (((A_ d _).alloc _).drew)) _ 1 1 [U_ c,I_ i] (by simp[Act.eval];rfl) x8_ (zL _ _ _ _ x8_) zn_ (by simp[maxLen];omega) M_ (by have:=b.hB;simp;omega) ?_;intro u' m ho A z;refine y _ _ ?_;have y:Fr d m (λx=>u.ownBlock=some x):=T_ (((A_ d _).alloc _).drew) A (λk e _=>e);have E:u'.ownBlock=u.ownBlock\/∃g,u'.ownBlock=some g/\d.heap.size<=g:=z.imp id (λe=>⟨_,e,by simp⟩);have f:RAt m br s bz ⟨i,false,u,wr,mx⟩:=y.bl b.here (ql b.uses b.rB);have q:=f.c4;have p:=f.c1;have d:=f.th 4;have d:=f.th 1;have v:RAt (m.setCell ⟨br,4,none⟩ u') br s bz ⟨i,false,u',wr,mx⟩:=RAt.setU f u';have r:=b.used I ho y E (((A_ m (· = br)).setCell ⟨br,4,none⟩ u' (λ_=>rfl)).setCell ⟨br,1,none⟩ (Z_ ((i:Int)+1)) (λ_=>rfl)) v.incI;obtain⟨g,d,rfl⟩:=zu ho M_;refine t1_ 13 ⟨q,p⟩ ?_;refine t1_ 14 ⟨q,p⟩ ?_;refine t1_ 15 ⟨q,p⟩ ?_;refine td_ ?_ _;go_wp2_with (go_at_call 68;apply(fY r.1 (cD _ _ _ _) (λ_ _=>nofun) (by have:=b.tl;omega)).mono;rintro e b ⟨rfl,b⟩);try go_ret
 obtain⟨tv',M,st⟩:=b;exact D.o _ _ ⟨rfl,tv',_,M,((zI.oS C).trans r.2).trans st⟩
def ia(w:Aw)(X:Au)(br bz B:Nat)(s:BA)(i:Nat)(wr mx:Int)(ts:Aq)(us:Av)(zs:Az)(tv u:Ax)(c:Nat)(w':Aw):Prop:=
 (if bt s i=c then Rep w' X br bz B s (i+1) false wr mx ts us zs tv u else Rep w' X br bz B s i true wr mx ts us zs tv u)/\zI w w' br bz tv u tv u
def Wl{w:Aw}{X:Au}{br bz B:Nat}{s:BA}{i:Nat}{wr mx:Int}{ts:Aq}{us:Av}{zs:Az}{tv u:Ax}(R:Rep w X br bz B s i false wr mx ts us zs tv u)(hc:0<c):Calls prog 41 #[P_ br,U_ c] w λe w'=>e=.returned (.tuple #[])/\ia w X br bz B s i wr mx ts us zs tv u c w':=by
 have h1:=R.il;have d:=R.sl;apply(Wh R.here R.sl y5_).mono;rintro e w' ⟨rfl,ha,b⟩;refine⟨rfl,?_⟩;unfold ia;unfold RV.eat at ha;simp only[iO]at ha;by_cases hb:bt s i=c
 .rw[i_ M_]at ha;rw[i_ hb];exact R.move b ha M_ (zr M_)
 .rw[n_ M_]at ha;rw[n_ hb];exact R.move b ha M_ h1
def yT{w:Aw}{X:Au}{br bz B:Nat}{s:BA}{i:Nat}{wr mx:Int}{ts:Aq}{us:Av}{zs:Az}{tv u:Ax}{c:Int}(d:Nat)(R:Rep w X br bz B s i false wr mx ts us zs tv u)(hd:c=(d:Int))(hc:0<d):Calls prog 41 #[P_ br,.int .u8 c] w λe w'=>e=.returned (.tuple #[])/\ia w X br bz B s i wr mx ts us zs tv u d w':=by
 subst hd;exact Wl R hc
def cR{w:Aw}{X:Au}{br bz B:Nat}{s:BA}{i:Nat}{bad:Ap}{wr mx:Int}{ts:Aq}{us:Av}{zs:Az}{tv u:Ax}(R:Rep w X br bz B s i bad wr mx ts us zs tv u)(v:Nat):jf (w.alloc (.cells #[I_ v] 3)) B tv u (S_ w.heap.size 1 1) [v]:=by
 refine⟨World.ownsRow_lit w #[I_ v] 1 R.hB zw_ rfl,λg hg=>?_⟩;simp only[Value.ownBlock,ae_]at hg;obtain⟨xs,hx,_⟩:=R.tys;exact⟨λe=>by have:=hx.lt g e;omega,λe=>by have:=R.uses.lt g e;omega⟩
def sZ{w:Aw}{X:Au}{br bz B:Nat}{s:BA}{i:Nat}{bad:Ap}{wr mx:Int}{ts:Aq}{us:Av}{zs:Az}{tv u:Ax}(R:Rep w X br bz B s i bad wr mx ts us zs tv u){g:Nat}(hg:X g):(Value.slice (some ⟨w.heap.size,0,none⟩) n c).ownBlock≠some g:=by
 have:=(R.av g hg).1;simp only[Value.ownBlock,ne_eq,ae_];omega
def cwVL1_{p:Prop}(h:p:=by
 (first|(have:=cc1;refine have fin:H_ (∀(e:Ending) (w':World),(∃v:Nat,e=.returned (I_ v))->(∃mx' ts' us' tv' u',Rep w' X br bz B s j true wr mx' ts' us' zs tv' u'/\ts'.length+i<=j+ts.length/\zI w w' br bz tv u tv' u')->yc w X br bz B s i wr mx ts us zs tv u e w'):=?_;?_)|(refine have fin:H_ (∀(e:Ending) (w':World),e=.returned (.int .i64 (((ts++flat ts.length t).length:Nat):Int))->(∃tv' u',Rep w' X br bz B s (j+1) false wr (mix t mx) ((ts++flat ts.length t)++[⟨c,[ts.length+(flat ts.length t).length-1]⟩]) (us++zK t) zs tv' u'/\zI w w' br bz tv u tv' u')->yc w X br bz B s i wr mx ts us zs tv u e w'):=?_;?_))
 .intro e w' h1 h2;unfold yc;rw[hPT,hp];(first|(have:=cc1;simp only[hj,if_false])|(simp only[hj,if_true]));(first|(have:=cc1;exact⟨h1,h2⟩)|(refine⟨by rw[h1];simp[flat],?_⟩;simpa[flat,mix,zK] using h2))
 generalize yc w X br bz B s i wr mx ts us zs tv u=POST at *;generalize hN:ts.length+(flat ts.length t).length-1=N at *;(first|(have:=cc1;have hlen:(ts++flat ts.length t).length<j:=x4_;have hlen2:(ts++flat ts.length t).length+1+i<=j+ts.length:=x4_)|(have hlen:(ts++flat ts.length t).length<j+1:=x4_))
 generalize ts++flat ts.length t=TS at *;generalize us++zK t=US at *;generalize mix t mx=MX at *;clear hPT hT hp hcnt hN;(try have:=cc1;obtain⟨d,hd⟩:=e_ (xl c);rw[<- hd]at hj);rcases h with rfl|rfl;all_goals
  (first|(have:=cc1;simp[xl]at hd;have hd:H_ (d=_):=hd)|(simp[xl]at hj));go_in;go_wp2_with (first
   |(go_at_call 40;apply(zR R hc).mono;rintro e w1 ⟨rfl,hw⟩;have R1:=R.si hw;have c1:=R1.here.c1;have f1:=R1.here.th 1)
   |(go_at_call 43;apply(hT'.o _ (R1.inc hil).1).mono;rintro e w2 ⟨rfl,hR2⟩;obtain⟨tv2,u2,R2,st2⟩:=hR2.o;have c2:=R2.here.c2)
   |(go_at_call 41;(first|(have:=cc1;apply(yT d R2 (by rw[hd.o];rfl) (by rw[hd.o];decide)).mono)|(apply(yT (bt s j) R2 M_ M_).mono));rintro e w3 ⟨rfl,hE,st3⟩;(first|(have:=cc1;rw[n_ hj]at hE)|(rw[i_ rfl]at hE)))
   |(go_at_call 68;apply(fY (hE.alloc _).1 (cR hE N) (λg hg=>sZ hE hg) hlen).mono;rintro e w4 ⟨rfl,hL⟩))
  try go_ret
  obtain⟨tv',r,st⟩:=hL;(first|(have:=cc1;exact fin.o _ _ ⟨_,rfl⟩ ⟨_,_,_,_,_,r,by rw[ah_];exact hlen2,(((((zI.oS hw).trans (R1.inc hil).2).trans st2).trans st3).trans (hE.alloc _).2).trans st⟩)|(exact fin.o _ _ rfl ⟨_,_,r,(((((zI.oS hw).trans (R1.inc hil).2).trans st2).trans st3).trans (hE.alloc _).2).trans st⟩))):p:=h
def VL{s:BA}{i:Nat}(h:bt s i=91\/bt s i=123)(hT:uz s (i+1)):uz s i:=by
 intro w X br bz B wr mx ts us zs tv u R;have hil:i<s.size:=zr M_;have f:=R.sl;have f:=R.tl;have hPT:=nA h;generalize hc:bt s i=c at *;cases hp:pT s (i+1) with
 |error k=>
  have fin:H_ (∀(e:Ending) (w':World),(∃v:Nat,e=.returned (I_ v))->(∃mx' ts' us' tv' u',Rep w' X br bz B s k true wr mx' ts' us' zs tv' u'/\ts'.length+i<=k+ts.length/\zI w w' br bz tv u tv' u')->yc w X br bz B s i wr mx ts us zs tv u e w'):=by
   intro e w' h1 h2;unfold yc;rw[hPT,hp];exact⟨h1,h2⟩
  have hT':H_ (∀(w:World),Rep w X br bz B s (i+1) false wr mx ts us zs tv u->Calls prog 43 #[P_ br] w λe w'=>(∃v:Nat,e=.returned (I_ v))/\H_ (∃mx' ts' us' tv' u',Rep w' X br bz B s k true wr mx' ts' us' zs tv' u'/\ts'.length+(i+1)<=k+ts.length/\zI w w' br bz tv u tv' u')):=by
   intro w R;apply(hT w X br bz B wr mx ts us zs tv u R).mono;intro e w' b;unfold yc at b;rw[hp]at b;exact b
  generalize yc w X br bz B s i wr mx ts us zs tv u=POST at *;rcases h with rfl|rfl;all_goals
   go_in;go_wp2_with (first
    |(go_at_call 40;apply(zR R hc).mono;rintro e w1 ⟨rfl,hw⟩;have R1:=R.si hw;have c1:=R1.here.c1;have f1:=R1.here.th 1)
    |(go_at_call 43;apply(hT'.o _ (R1.inc hil).1).mono;rintro e w2 ⟨⟨v,rfl⟩,hR2⟩;obtain⟨f,f,f,tv2,u2,R2,f,st2⟩:=hR2.o;have c2:=R2.here.c2)
    |(go_at_call 68;apply(fY (R2.alloc _).1 (cR R2 v) (λg hg=>sZ R2 hg) M_).mono;rintro e w3 ⟨rfl,hL⟩))
   try go_ret
   obtain⟨tv',r,st⟩:=hL;exact fin.o _ _ ⟨_,rfl⟩ ⟨_,_,_,_,_,r,by simp;omega,((((zI.oS hw).trans (R1.inc hil).2).trans st2).trans (R2.alloc _).2).trans st⟩
 |ok q=>
  obtain⟨t,j⟩:=q;have hcnt:=lp hp ts.length;have hT':H_ (∀(w:World),Rep w X br bz B s (i+1) false wr mx ts us zs tv u->Calls prog 43 #[P_ br] w λe w'=>e=.returned (Z_ ((ts.length+(flat ts.length t).length-1:Nat):Int))/\H_ (∃tv' u',Rep w' X br bz B s j false wr (mix t mx) (ts++flat ts.length t) (us++zK t) zs tv' u'/\zI w w' br bz tv u tv' u')):=by
   intro w R;apply(hT w X br bz B wr mx ts us zs tv u R).mono;intro e w' b;unfold yc at b;rw[hp]at b;exact b
  by_cases hj:bt s j=xl c
  .exact cwVL1_
  .have cc1:=Nat;exact cwVL1_
def zW{w:Aw}{base size:Nat}{e:As}{v:Ax}{xs:Az}(h:w.ownsRow base e size v n xs):∃a n c,v=.slice a n c:=by
 rcases h.2 with⟨rfl,_⟩|⟨g,b,_,rfl,_⟩
 .exact⟨_,_,_,rfl⟩
 .exact⟨_,_,_,rfl⟩
def Gp(w:Aw)(X:Au)(br bz B:Nat)(s:BA)(wr:Int)(zs:Az)(tv u:Ax)(Good:Ch)(sv:Ax)(w':Aw):Prop:=
 ∃J b MX TS US L tv' u',Good J b MX TS US L/\Rep w' X br bz B s J b wr MX TS US zs tv' u'/\jf w' B tv' u' sv L/\(∀g,X g->sv.ownBlock≠some g)/\TS.length<J/\zI w w' br bz tv u tv' u'
def fA{s:BA}{i:Nat}(hc:bt s i=40)(h:Ch)(k:Cu){w:Aw}{X:Au}{br bz B:Nat}{wr mx:Int}{ts:Aq}{us:Av}{zs:Az}{tv u:Ax}(R:Rep w X br bz B s i false wr mx ts us zs tv u)(x:H_ (∀(w:World),Rep w X br bz B s (i+1) false wr mx ts us zs tv u->Calls prog 69 #[P_ br] w λe w'=>∃sv,e=.returned (.agg #[.int .u8 40,sv])/\Gp w X br bz B s wr zs tv u h sv w'))(r:H_ (∀(w':World) (g:Nat) (b:Bool) (MX:Int) (TS:List TR) (US:List (Nat×Nat)) (L:List Nat) (tv' u':Value),h g b MX TS US L->Rep w' X br bz B s g b wr MX (TS++[⟨40,L⟩]) US zs tv' u'->zI w w' br bz tv u tv' u'->k (.returned (I_ TS.length)) w')):Calls prog 43 #[P_ br] w k:=by
 have m:i<s.size:=zr M_;have h:=R.sl;go_in;go_wp2_with (first
  |(go_at_call 40;apply(zR R hc).mono;rintro e w1 ⟨rfl,q⟩;have f:=R.si q;have c1:=f.here.c1;have h:=f.here.th 1)
  |(go_at_call 69;apply(x.o _ (f.inc m).1).mono;rintro e h ⟨sv,rfl,h⟩;obtain⟨g,b,MX,TS,US,L,tv2,u2,v,d,p,y,z,st2⟩:=h;obtain⟨g,sn,g,rfl⟩:=zW p.1)
  |(go_at_call 68;apply(fY (d.alloc _).1 ((d.alloc _).2.subs p d.rB d.zB) y z).mono;rintro e g ⟨rfl,g⟩))
 try go_ret
 obtain⟨tv',h,st⟩:=g;exact r.o _ _ _ _ _ _ _ _ _ v h (((((zI.oS q).trans (f.inc m).2).trans st2).trans (d.alloc _).2).trans st)
def cwYH1_{p:Prop}(h:p:=by
 (first|(have:=cc1;refine fA hc (λJ b _ TS _ _=>J=j/\b=true/\TS.length+(i+1)<=j+ts.length) _ R ?_ ?_)|(refine fA hc (λJ b _ TS _ _=>J=k/\b=true/\TS.length+(i+1)<=k+ts.length) _ R ?_ ?_))
 .intro w R;apply(hA w X br bz B wr mx ts us zs tv u R).mono;rintro e w' ⟨sv,tv',u',rfl,st,hh⟩;rw[hp]at hh;(try have:=cc1;simp only[hj,if_false]at hh);obtain⟨mx',ts',us',l,r,hl,hs,hx⟩:=hh;(first|(have:=cc1;exact⟨sv,rfl,j,true,mx',ts',us',l,tv',u',⟨rfl,rfl,hl⟩,r,hs,hx,M_,st⟩)|(exact⟨sv,rfl,k,true,mx',ts',us',l,tv',u',⟨rfl,rfl,hl⟩,r,hs,hx,M_,st⟩))
 .rintro w' J b MX TS US L tv' u' ⟨rfl,rfl,hl⟩ r st;unfold yc;rw[hPT,hp];(try have:=cc1;simp only[hj,if_false]);exact⟨⟨_,rfl⟩,_,_,_,_,_,r,by rw[ah_];simp only[au_,ar_];omega,st⟩):p:=h
def YH{s:BA}{i:Nat}(hc:bt s i=40)(hA:Kj s (i+1)):uz s i:=by
 intro w X br bz B wr mx ts us zs tv u R;have d:=R.tl;have hPT:=Yx hc;cases hp:pA s (i+1) with
 |error k=>
  exact cwYH1_
 |ok q=>
  obtain⟨ds,j⟩:=q;have d:=eQ hp ts.length;by_cases hj:bt s j=41
  .refine fA hc (λJ b MX TS US L=>J=j+1/\b=false/\MX=qZ [] ds mx/\TS=ts++zA ts.length ds/\US=us++zG ds/\L=qk ts.length ds) _ R ?_ ?_
   .intro w R;apply(hA w X br bz B wr mx ts us zs tv u R).mono;rintro e w' ⟨sv,tv',u',rfl,st,hh⟩;rw[hp]at hh;simp only[hj,if_true]at hh;exact⟨sv,rfl,j+1,false,_,_,_,_,tv',u',⟨rfl,rfl,rfl,rfl,rfl,rfl⟩,hh.1,hh.2.1,hh.2.2,by rw[ah_];omega,st⟩
   .rintro w' J b MX TS US L tv' u' ⟨rfl,rfl,rfl,rfl,rfl,rfl⟩ r st;unfold yc;rw[hPT,hp];simp only[hj,if_true];refine⟨by simp[flat],tv',u',?_,st⟩;simpa[flat,mix,zK] using r
  .have cc1:=Nat;exact cwYH1_
structure Mid(w:Aw)(X:Au)(br bz B:Nat)(s:BA)(j:Nat)(wg MX:Int)(TS:Aq)(US:Av)(zs:Az)(tv u tv2 u2 sv:Ax)(L:Ai)(W:Aw):Prop where
 R:Rep W (λg=>X g\/g=w.heap.size\/g=w.heap.size+1\/sv.ownBlock=some g) br bz B s j false wg MX TS US zs tv2 u2
 b2:Blk W w.heap.size [.int .u8 0,L_] 57
 b3:Blk W (w.heap.size+1) [.int .u8 40,sv] 57
 ss:jf W B tv2 u2 sv L
 sn:∀g,sv.ownBlock=some g->w.heap.size+2<=g
 st:zI w W br bz tv u tv2 u2
def ZN(w:Aw)(X:Au)(br bz B:Nat)(s:BA)(i:Nat)(wr mx:Int)(ts:Aq)(us:Av)(zs:Az)(tv u:Ax)(n:Nat)(kv mv:Ax)(W:Aw):Prop:=
 ∃(ds:List PT) (i':Nat) (more:Bool) (kb:BA) (sv tv' u':Value),
  kv=.string kb/\mv=.bool more/\kb.data.toList.map UInt8.toNat=ds.map PT.kind/\i+(zA ts.length ds).length<=i'/\ds.length<=i'/\
  Mid w X br bz B s i' wr (qZ [] ds mx) (ts++zA ts.length ds) (us++zG ds) zs tv u tv' u' sv (qk ts.length ds) W/\
  s.size+1-i'<=n/\(more=true->pA s i=bA ds (pA s i'))/\(more=false->pA s i=.ok (ds,i'))
def Rep.offS{w:Aw}{X:Au}{br bz B:Nat}{s:BA}{i:Nat}{bad:Ap}{wr mx:Int}{ts:Aq}{us:Av}{zs:Az}{tv u:Ax}(R:Rep w X br bz B s i bad wr mx ts us zs tv u){g:Nat}(hg:X g):¬(g=br\/g=bz\/tv.ownBlock=some g\/u.ownBlock=some g):=by
 obtain⟨_,a,b,c,d⟩:=R.av g hg;rintro(h|h|h|h)
 .exact a h
 .exact b h
 .exact c h
 .exact d h
section
variable {w W W':Aw} {X:Au} {br bz B:Nat} {s:BA} {j:Nat} {wg MX:Int} {TS:Aq} {US:Av} {zs:Az} {tv u tv2 u2 sv:Ax} {L:Ai}
def Mid.call(M:Mid w X br bz B s j wg MX TS US zs tv u tv2 u2 sv L W){j':Nat}{e:Int}{f:Aq}{h:Av}{b d:Ax}(k:Rep W' (λg=>X g\/g=w.heap.size\/g=w.heap.size+1\/sv.ownBlock=some g) br bz B s j' false wg e f h zs b d)(st:zI W W' br bz tv2 u2 b d):Mid w X br bz B s j' wg e f h zs tv u b d sv L W':=
 ⟨k,st.fr.bl M.b2 (M.R.offS (.inr (.inl rfl))),st.fr.bl M.b3 (M.R.offS (.inr (.inr (.inl rfl)))),st.subs M.ss M.R.rB M.R.zB,M.sn,M.st.trans st⟩
def Mid.si(M:Mid w X br bz B s j wg MX TS US zs tv u tv2 u2 sv L W)(h:zw W W'):Mid w X br bz B s j wg MX TS US zs tv u tv2 u2 sv L W':=M.call (M.R.si h) (zI.oS h)
def Mid.inc(M:Mid w X br bz B s j wg MX TS US zs tv u tv2 u2 sv L W)(h:j<s.size):Mid w X br bz B s (j+1) wg MX TS US zs tv u tv2 u2 sv L (W.setCell ⟨br,1,none⟩ (Z_ ((j:Int)+1))):=M.call (M.R.inc h).1 (M.R.inc h).2
def Mid.setMx(M:Mid w X br bz B s j wg MX TS US zs tv u tv2 u2 sv L W)(m:Int):Mid w X br bz B s j wg m TS US zs tv u tv2 u2 sv L (W.setCell ⟨br,6,none⟩ (Z_ m)):=M.call (M.R.setMx m).1 (M.R.setMx m).2
def Mid.grow(M:Mid w X br bz B s j wg MX TS US zs tv u tv2 u2 sv L W){a b:Cj}{w5:Aw}{f:Ax}(hg:((W.alloc a).alloc b).grownBy w5 sv.ownBlock)(ho:w5.ownsRow B 3 1 f (L.length+1) ((L.map λ(n:Nat)=>Value.int .i64 (n:Int))++[I_ N]))(hl:f.ownBlock=sv.ownBlock\/f.ownBlock=some ((W.alloc a).alloc b).heap.size):Mid w X br bz B s j wg MX TS US zs tv u tv2 u2 f (L++[N]) (w5.setCell ⟨w.heap.size+1,1,none⟩ f):=by
 have h:Fr W w5 (λg=>sv.ownBlock=some g):=T_ (((A_ W _).alloc a).alloc b) hg (λk e _=>e);have d:=M.b3.lt;have m:∀g,sv.ownBlock=some g->g≠w.heap.size:=λg hg e=>by have:=M.sn g hg;omega
 have v:∀g,sv.ownBlock=some g->g≠w.heap.size+1:=λg hg e=>by have:=M.sn g hg;omega
 have p:∀g,f.ownBlock=some g->w.heap.size+2<=g/\(sv.ownBlock=some g\/W.heap.size<=g):=λg d=>by
  rcases hl with e|e
  .exact⟨M.sn g (e▸d),.inl (e▸d)⟩
  .rw[e]at d;simp only[ae_]at d;have:((W.alloc a).alloc b).heap.size=W.heap.size+2:=x8_
   exact⟨M_,.inr M_⟩
 have r:=h.bl M.b2 (λe=>m _ e rfl);have x:=h.bl M.b3 (λe=>v _ e rfl);have m:Fr w5 (w5.setCell ⟨w.heap.size+1,1,none⟩ f) (λg=>g=w.heap.size+1):=(A_ w5 (λg=>g=w.heap.size+1)).setCell ⟨w.heap.size+1,1,none⟩ f (λ_=>rfl);have v:=m.bl r M_;have y:Blk (w5.setCell ⟨w.heap.size+1,1,none⟩ f) (w.heap.size+1) [.int .u8 40,f] 57:=x.set 1 f;have r:=zk ho m (λg d e=>by have:=p g d;omega);have x:Fr W (w5.setCell ⟨w.heap.size+1,1,none⟩ f) (λg=>X g\/g=w.heap.size\/g=w.heap.size+1\/sv.ownBlock=some g):=
  (h.mono (λ_ _ e=>.inr (.inr (.inr e)))).trans m (λ_ _ e=>.inr (.inr (.inl e)))
 have z:Fr W (w5.setCell ⟨w.heap.size+1,1,none⟩ f) (λg=>sv.ownBlock=some g\/g=w.heap.size+1):=(h.mono (λ_ _ e=>.inl e)).trans m (λ_ _ e=>.inr e);have h:∀g,f.ownBlock=some g->g<(w5.setCell ⟨w.heap.size+1,1,none⟩ f).heap.size:=λg d=>(r.lt g d).2;refine⟨(M.R.o x).fe (λg d=>?_),v,y,⟨by simpa using r,λg d=>?_⟩,λg d=>(p g d).1,M.st.o z (λg d=>?_)⟩
 .rcases d with e|e|e|e
  .exact .inl (.inl e)
  .exact .inl (.inr (.inl e))
  .exact .inl (.inr (.inr (.inl e)))
  .rcases(p g e).2 with q|q
   .exact .inl (.inr (.inr (.inr q)))
   .exact .inr ⟨q,h g e⟩
 .rcases(p g d).2 with q|q
  .exact M.ss.2 g q
  .obtain⟨xs,hx,_⟩:=M.R.tys;exact⟨λe=>by have:=hx.lt g e;omega,λe=>by have:=M.R.uses.lt g e;omega⟩
 .rcases d with e|e
  .have:=M.sn g e;omega
  .omega
def Mid.gw(M:Mid w X br bz B s j wg MX TS US zs tv u tv2 u2 sv L W){a b:Cj}{w5:Aw}(hg:((W.alloc a).alloc b).grownBy w5 sv.ownBlock):w5.cell? ⟨w.heap.size+1,1,none⟩=some sv/\w5.frozen? ⟨w.heap.size+1,1,none⟩=false:=by
 have f:Fr W w5 (λg=>sv.ownBlock=some g):=T_ (((A_ W _).alloc a).alloc b) hg (λk e _=>e);have d:=f.bl M.b3 (λe=>by have:=M.sn _ e;omega);exact⟨d.cell 1,d.th 1⟩
end
def Vs{w:Aw}{X:Au}{br bz B:Nat}{s:BA}{i:Nat}{wg mx:Int}{ts:Aq}{us:Av}{zs:Az}{tv u:Ax}(R:Rep w X br bz B s i false wg mx ts us zs tv u):ZN w X br bz B s i wg mx ts us zs tv u (s.size+1) (.string ⟨#[]⟩) (.bool true) ((w.alloc (.cells #[.int .u8 0,L_] 57)).alloc (.cells #[.int .u8 40,L_] 57)):=by
 have h1:=R.o (((A_ w X).alloc (.cells #[.int .u8 0,L_] 57)).alloc (.cells #[.int .u8 40,L_] 57));refine⟨[],i,true,⟨#[]⟩,L_,tv,u,rfl,rfl,rfl,by simp[zA],aj_ _,⟨?_,(B_ w _ _).alloc _,?_,cD _ _ _ _,λg hg=>by simp[Value.ownBlock]at hg,⟨((A_ w _).alloc _).alloc _,.inl rfl,.inl rfl⟩⟩,M_,λ_=>(tA _).symm,λh=>by cases h⟩
 .have b:=h1.fe (Y:=λg=>X g\/g=w.heap.size\/g=w.heap.size+1\/(Value.slice none 0 0).ownBlock=some g) (λg hg=>by
   rcases hg with hg|hg|hg|hg
   .exact .inl hg
   .exact .inr x4_
   .exact .inr x4_
   .simp[Value.ownBlock]at hg)
  simpa[qZ,zA,zG] using b
 .have:=B_ (w.alloc (.cells #[.int .u8 0,L_] 57)) #[.int .u8 40,L_] 57;simpa using this
def Fr.two(w:Aw)(b d e:Nat)(f h:Ax):Fr w ((w.setCell ⟨b,d,none⟩ f).setCell ⟨b,e,none⟩ h) (λg=>g=b):=
 ((A_ w (λg=>g=b)).setCell ⟨b,d,none⟩ f (λ_=>rfl)).setCell ⟨b,e,none⟩ h (λ_=>rfl)
def Gy{w wr f h:Aw}{X:Au}{br bz B:Nat}{s:BA}{i:Nat}{wg mx:Int}{ts:Aq}{us:Av}{zs:Az}{tv u sv:Ax}(R:Rep w X br bz B s i false wg mx ts us zs tv u)(m:pA s i=.ok (ds,i'))(b:if bt s i'=41 then Rep f (λg=>X g\/g=w.heap.size\/g=w.heap.size+1\/sv.ownBlock=some g) br bz B s (i'+1) false wg (qZ [] ds mx) (ts++zA ts.length ds) (us++zG ds) zs tv' u'
  else Rep f (λg=>X g\/g=w.heap.size\/g=w.heap.size+1\/sv.ownBlock=some g) br bz B s i' true wg (qZ [] ds mx) (ts++zA ts.length ds) (us++zG ds) zs tv' u')(v:zI w wr br bz tv u tv' u')(q:zI wr f br bz tv' u' tv' u')(r:jf wr B tv' u' sv (qk ts.length ds))(p:∀g,sv.ownBlock=some g->w.heap.size+2<=g)(d:Fr f h (λg=>g=w.heap.size)):ug w X br bz B s i wg mx ts us zs tv u (.returned (.agg #[.int .u8 40,sv])) h:=by
 have k:jf h B tv' u' sv (qk ts.length ds):=by
  have h1:=q.subs r R.rB R.zB;exact⟨zk h1.1 d (λg hg e=>by have:=p g hg;omega),h1.2⟩
 have hX:∀g,X g->sv.ownBlock≠some g:=λg hg e=>by have:=p g e;have:=(R.av g hg).1;omega
 refine⟨sv,tv',u',rfl,(v.trans q).o d (λg hg=>M_),?_⟩;rw[m];simp only;by_cases hb:bt s i'=41
 .rw[i_ hb]at b⊢;exact⟨(b.o (d.mono (λ_ _ e=>.inr (.inl e)))).fe (λg hg=>.inl (.inl hg)),k,hX⟩
 .rw[n_ hb]at b⊢;have hc:=eQ m ts.length;exact⟨_,_,_,_,(b.o (d.mono (λ_ _ e=>.inr (.inl e)))).fe (λg hg=>.inl (.inl hg)),by rw[ah_];omega,k,hX⟩
def Gz{w wr d f:Aw}{X:Au}{br bz B:Nat}{s:BA}{i k:Nat}{wg mx v:Int}{ts h:Aq}{us y:Av}{zs:Az}{tv u tv2 u2 sv:Ax}(R:Rep w X br bz B s i false wg mx ts us zs tv u)(r:pA s i=.error k)(p:Rep d (λg=>X g\/g=w.heap.size\/g=w.heap.size+1\/sv.ownBlock=some g) br bz B s k true wg v h y zs tv2 u2)(hl:h.length+i<=k+ts.length)(x:zI w wr br bz tv u tv' u')(m:zI wr d br bz tv' u' tv2 u2)(v:jf wr B tv' u' sv l)(h:∀g,sv.ownBlock=some g->w.heap.size+2<=g)(b:Fr d f (λg=>g=w.heap.size)):ug w X br bz B s i wg mx ts us zs tv u (.returned (.agg #[.int .u8 40,sv])) f:=by
 have q:jf f B tv2 u2 sv l:=by
  have h1:=m.subs v R.rB R.zB;exact⟨zk h1.1 b (λg hg e=>by have:=h g hg;omega),h1.2⟩
 have hX:∀g,X g->sv.ownBlock≠some g:=λg hg e=>by have:=h g e;have:=(R.av g hg).1;omega
 refine⟨sv,tv2,u2,rfl,(x.trans m).o b (λg hg=>M_),?_⟩;rw[r];exact⟨_,_,_,_,(p.o (b.mono (λ_ _ e=>.inr (.inl e)))).fe (λg hg=>.inl (.inl hg)),hl,q,hX⟩
def tV{w:Aw}{X:Au}{br bz B:Nat}{s:BA}{i:Nat}{bad:Ap}{wr mx:Int}{ts e:Aq}{us:Av}{zs:Az}{tv u:Ax}(R:Rep w X br bz B s i bad wr mx (ts++e) us zs tv u)(k:N=ts.length+e.length-1)(hp:0<e.length)(hk:(e[e.length-1]?).map TR.kind=some c):∃g f,N+1<=f/\w.cell? ⟨g,N*2,none⟩=some (U_ c)/\w.cell? ⟨bz,0,none⟩=some (S_ g (N+1) f):=by
 obtain⟨xs,hx,m⟩:=R.tys;have hl:(ts++e).length=N+1:=by rw[ah_];omega
 rw[hl]at hx;obtain⟨g,f,rfl⟩:=zu hx M_;cases k:e[e.length-1]? with
 |none=>rw[k]at hk;cases hk
 |some t=>
  rw[k]at hk;simp only[a4_,ae_]at hk;obtain⟨sv,a,b,d,o⟩:=m N t (by rw[ax_ M_,show N-ts.length=e.length-1 by omega];exact k);refine⟨g,f,?_,?_,?_⟩
  .rcases hx.2 with⟨h,_⟩|⟨_,_,_,h,_,_,hc,_⟩
   .cases h
   .cases h;exact hc
  .rw[hx.cellAt _ M_,a7_,a,hk]
  .rw[R.z.cell];rfl
def Kp:Tryz.prog.underlying 94=some (.slice 5):=K_
def Fw:Tryz.prog.underlying 5=some (.int .u8):=K_
def pR:Tryz.prog.underlying 9=some .string:=K_
def VM:Tryz.prog.underlying 55=some (.slice 3):=K_
def Bv:(Tryz.prog.info? 3).map (λi=>(i.zero,i.size,i.bytes))=some (some (O_),1,8):=K_
def rp(W:Aw)(g:Nat)(c:Int)(hg:W.heap.size=g):(convert 94 9 (S_ g 1 1)).run prog (W.alloc (.cells #[.int .u8 c] 5))=.ok (.string ⟨#[UInt8.ofNat c.toNat]⟩) (W.alloc (.cells #[.int .u8 c] 5)):=by
 subst hg;rw[run_convert_bytes_string _ _ _ _ _ _ _ Kp Fw pR];have hl:=run_loadCells_list (P:=prog) (W.alloc (.cells #[.int .u8 c] 5)) ⟨W.heap.size,0,none⟩ ([c].map (Value.int .u8)) (zL W #[.int .u8 c] 5 _ rfl);rw[run_bytesToString _ _ 1 1 [c] (by simpa using hl)];rfl
def wX(s:BA)(c:Nat):0<=plc s c↔c∈s.data.toList.map UInt8.toNat:=by
 unfold plc;cases h:s.data.toList.findIdx? (λb=>b.toNat==c) with
 |none=>
  rw[List.findIdx?_eq_none_iff]at h;constructor
  .intro h;simp at h
  .intro hm;obtain⟨b,hb,rfl⟩:=bl_.1 hm;have:=h b hb;simp at this
 |some k=>
  rw[List.findIdx?_eq_some_iff_getElem]at h;obtain⟨hk,hb,_⟩:=h;constructor
  .intro _;exact bl_.2 ⟨_,a9_ hk,by simpa using hb⟩
  .intro _;simp
def KZ{s:BA}{i:Nat}{j:Nat}(h:pT s i=.ok (t,j)):t.kind=bt s i:=by
 have cc1:=Nat
 exact cq16_
def sU(h:kb.data.toList.map UInt8.toNat=l)(hc:c<256):(kb++⟨#[UInt8.ofNat c]⟩:BA).data.toList.map UInt8.toNat=l++[c]:=by
 subst h;have:(kb++⟨#[UInt8.ofNat c]⟩:BA).data=kb.data++#[UInt8.ofNat c]:=by simp[ByteArray.data_append]
 rw[this];simp;omega
def cY{mx MX:Int}(d:kb.data.toList.map UInt8.toNat=ds.map PT.kind)(e:t.place=i')(b:mix t (qZ [] ds mx)=MX)(h:(t.kind=40\/0<=plc kb t.kind)/\(MX<0\/(i':Int)<MX)):(i':Int)=qH (ds.map PT.kind) t (mix t (qZ [] ds mx)):=by
 rw[b,qH,e,<- d];simp only[<- wX];rw[i_ h]
def bY{mx MX:Int}(d:kb.data.toList.map UInt8.toNat=ds.map PT.kind)(e:t.place=i')(b:mix t (qZ [] ds mx)=MX)(h:¬((t.kind=40\/0<=plc kb t.kind)/\(MX<0\/(i':Int)<MX))):MX=qH (ds.map PT.kind) t (mix t (qZ [] ds mx)):=by
 rw[b,qH,e,<- d];simp only[<- wX];rw[n_ h]
def qf{w W:Aw}{X:Au}{br bz B:Nat}{s:BA}{i j:Nat}{wg mx MX:Int}{ts:Aq}{us:Av}{zs:Az}{tv u tv2 u2 sv:Ax}(n:Nat)(more:Ap)(j':Nat)(hp:pT s i'=.ok (t,j))(g:i'<=s.size)(o:kb.data.toList.map UInt8.toNat=ds.map PT.kind)(v:i+(zA ts.length ds).length<=i')(v:ds.length<=i')(k:pA s i=bA ds (pA s i'))(e:N=(ts++zA ts.length ds).length+(flat (ts++zA ts.length ds).length t).length-1)(m:MX=qH (ds.map PT.kind) t (mix t (qZ [] ds mx)))(M:Mid w X br bz B s j' wg MX ((ts++zA ts.length ds)++flat (ts++zA ts.length ds).length t) ((us++zG ds)++zK t) zs tv u tv2 u2 sv (qk ts.length ds++[N]) W)(hn:s.size+1-j'<=n)(hm:(more=true/\j'=j+1/\bt s j=44)\/(more=false/\j'=j/\bt s j≠44)):ZN w X br bz B s i wg mx ts us zs tv u n (.string (kb++⟨#[UInt8.ofNat t.kind]⟩)) (.bool more) W:=by
 have hb:=(xR g).1 t j hp;have hc:=lp hp (ts.length+(zA ts.length ds).length);have hk:t.kind<256:=by rw[KZ hp];exact qD _ _
 have b:=sh s i' g;rw[hp]at b;simp only at b;have f:=lI ts.length ds t;have r:=dA ts.length ds t;rw[ah_]at M e;refine⟨ds++[t],j',more,_,sv,tv2,u2,rfl,rfl,by rw[sU o hk,bh_];rfl,by rw[f,ah_];omega,by rw[ah_];simp only[au_,ar_];omega,?_,hn,λq=>?_,λp=>?_⟩
 .rw[f,r,pC,XZ,<- bw_,<- bw_,<- e,br_,<- m];exact M
 .rcases hm with⟨_,rfl,d⟩|⟨h,_⟩
  .rw[k,b,i_ d,mL]
  .rw[q]at h;cases h
 .rcases hm with⟨h,_⟩|⟨_,rfl,d⟩
  .rw[p]at h;cases h
  .rw[k,b,n_ d];rfl
def QK{s:BA}{i:Nat}(hT:∀j,i<=j->j<=s.size->uz s j):Kj s i:=by
 intro w X br bz B wg mx ts us zs tv u R;have g4:=R.sl;have b6:=Vs R;replace b6:H_ _:=b6;replace hT:H_ _:=hT;obtain⟨g3,Q_⟩:=y_ (ug w X br bz B s i wg mx ts us zs tv u);rw[<- Q_.o];go_in;go_wp2;go_loopg [4,5] (s.size+1) (λn kv mv W=>ZN w X br bz B s i wg mx ts us zs tv u n kv mv W);case atStart=>exact b6
 case round=>
  obtain⟨ds,i',more,kb,sv,tv',u',rfl,rfl,p,F,Q,M,hg,b7,b8⟩:=hrel;obtain⟨O,a5,a6,a3,b5,e1⟩:=id M;replace M:H_ _:=M;obtain⟨b,sn,d,rfl⟩:=zW a3.1;have f9:i<=i':=M_;replace F:H_ _:=F;replace p:H_ _:=p;replace a5:H_ _:=a5;replace a6:H_ _:=a6;replace a3:H_ _:=a3;replace b5:H_ _:=b5;have c2:=O.here.c2;have o2:=O.offS (g:=w.heap.size) (.inr (.inl rfl));have o3:=O.offS (g:=w.heap.size+1) (.inr (.inr (.inl rfl)));replace o2:H_ _:=o2;replace o3:H_ _:=o3;cases more with
  |false=>
   have z:=b8 rfl;replace z:H_ _:=z;go_wp2_with (first
    |(go_at_call 41;apply(yT 41 O rfl D_).mono;rintro e r ⟨rfl,f,I⟩;have B3:=I.fr.bl a6 o3;have D:=I.fr.bl a5 o2;have d3:=B3.c0;have e3:=B3.c1;have d2:=D.c0;have e2:=D.c1;have f2:=D.th 0;have g2:=D.th 1))
   have q0:((r.setCell ⟨w.heap.size,0,none⟩ (.int .u8 40)).setCell ⟨w.heap.size,1,none⟩ (.slice b sn d)).cell? ⟨w.heap.size,0,none⟩=some (.int .u8 40):=((D.set 0 (.int .u8 40)).set 1 (.slice b sn d)).cell 0;have q1:((r.setCell ⟨w.heap.size,0,none⟩ (.int .u8 40)).setCell ⟨w.heap.size,1,none⟩ (.slice b sn d)).cell? ⟨w.heap.size,1,none⟩=some (.slice b sn d):=((D.set 0 (.int .u8 40)).set 1 (.slice b sn d)).cell 1;have hF:Fr r ((r.setCell ⟨w.heap.size,0,none⟩ (.int .u8 40)).setCell ⟨w.heap.size,1,none⟩ (.slice b sn d)) (λg=>g=w.heap.size):=Fr.two r w.heap.size 0 1 _ _;generalize (r.setCell ⟨w.heap.size,0,none⟩ (.int .u8 40)).setCell ⟨w.heap.size,1,none⟩ (.slice b sn d)=w4 at *;refine bodyPost_ret (v:=.agg #[.int .u8 40,.slice b sn d]) (by simp[results,results69,go_sem,q0,q1]) rfl ?_;rw[Q_.o];exact Gy R z f e1 I a3 b5 hF
  |true=>
   have z:=b7 rfl;have H:=O.il;have a1:=sh s i' H;have a4:=hT.o i' f9 H;have c1:=O.here.c1;cases hp:pT s i' with
   |error k=>
    rw[hp]at a1;rw[a1]at z;replace z:H_ (pA s i=.error k):=z;have a0:H_ (Calls prog 43 #[P_ br] wr λe w'=>(∃v:Nat,e=.returned (I_ v))/\H_ (∃mx' f C tv2 u2,Rep w' (λg=>X g\/g=w.heap.size\/g=w.heap.size+1\/(Value.slice b sn d).ownBlock=some g) br bz B s k true wg mx' f C zs tv2 u2/\f.length+i'<=k+(ts++zA ts.length ds).length/\zI wr w' br bz tv' u' tv2 u2)):=by
     apply(a4 wr _ br bz B wg _ _ _ zs tv' u' O).mono;intro e w' S;unfold yc at S;rw[hp]at S;exact S
    go_wp2_with (first
     |(go_at_call 43;apply a0.o.mono;rintro e r ⟨⟨v,rfl⟩,a2⟩;obtain⟨f,f,f,tv2,u2,y,A,I⟩:=a2.o;have d1:=y.here.c2;have B3:=I.fr.bl a6 o3;have D:=I.fr.bl a5 o2;have d3:=B3.c0;have e3:=B3.c1;have d2:=D.c0;have e2:=D.c1;have f2:=D.th 0;have g2:=D.th 1))
    have q0:((r.setCell ⟨w.heap.size,0,none⟩ (.int .u8 40)).setCell ⟨w.heap.size,1,none⟩ (.slice b sn d)).cell? ⟨w.heap.size,0,none⟩=some (.int .u8 40):=((D.set 0 (.int .u8 40)).set 1 (.slice b sn d)).cell 0;have q1:((r.setCell ⟨w.heap.size,0,none⟩ (.int .u8 40)).setCell ⟨w.heap.size,1,none⟩ (.slice b sn d)).cell? ⟨w.heap.size,1,none⟩=some (.slice b sn d):=((D.set 0 (.int .u8 40)).set 1 (.slice b sn d)).cell 1;have hF:Fr r ((r.setCell ⟨w.heap.size,0,none⟩ (.int .u8 40)).setCell ⟨w.heap.size,1,none⟩ (.slice b sn d)) (λg=>g=w.heap.size):=Fr.two r w.heap.size 0 1 _ _;generalize (r.setCell ⟨w.heap.size,0,none⟩ (.int .u8 40)).setCell ⟨w.heap.size,1,none⟩ (.slice b sn d)=w4 at *;refine bodyPost_ret (v:=.agg #[.int .u8 40,.slice b sn d]) (by simp[results,results69,go_sem,q0,q1]) rfl ?_;rw[Q_.o];exact Gz R z y (by have:=F.o;rw[ah_]at A;omega) e1 I a3 b5 hF
   |ok q=>
    obtain⟨t,j⟩:=q;rw[hp]at a1;have d6:=lp hp (ts++zA ts.length ds).length;have D:=(xR H).1 t j hp;have K:=Jn hp;have a0:H_ (Calls prog 43 #[P_ br] wr λe w'=>e=.returned (Z_ (((ts++zA ts.length ds).length+(flat (ts++zA ts.length ds).length t).length-1:Nat):Int))/\H_ (∃tv2 u2,Rep w' (λg=>X g\/g=w.heap.size\/g=w.heap.size+1\/(Value.slice b sn d).ownBlock=some g) br bz B s j false wg (mix t (qZ [] ds mx)) ((ts++zA ts.length ds)++flat (ts++zA ts.length ds).length t) ((us++zG ds)++zK t) zs tv2 u2/\zI wr w' br bz tv' u' tv2 u2)):=by
     apply(a4 wr _ br bz B wg _ _ _ zs tv' u' O).mono;intro e w' S;unfold yc at S;rw[hp]at S;exact S
    have a9:=XA (ts++zA ts.length ds).length t;have b4:=aw (ts++zA ts.length ds).length t;have C:∃N,N=(ts++zA ts.length ds).length+(flat (ts++zA ts.length ds).length t).length-1:=⟨_,rfl⟩;obtain⟨N,C⟩:=C;rw[<- C]at a0;generalize J:mix t (qZ [] ds mx)=MX at a0;replace z:H_ _:=z;replace a1:H_ _:=a1;replace hp:H_ _:=hp;replace d6:H_ _:=d6;replace K:H_ _:=K;replace a9:H_ _:=a9;replace b4:H_ _:=b4;replace C:H_ _:=C;replace J:H_ _:=J;have D:kb.size<=300:=by
     have h1:=congrArg List.length p;simp only[bm_,Array.length_toList]at h1;have D:kb.size=kb.data.size:=rfl;omega
    have D:=λ(W:World) (g:Nat) (c:Int) (h:W.heap.size=g)=>rp W g c h;obtain⟨ti,d7,d8,d9,e0⟩:=info_parts Bv;have D:(qk ts.length ds).length<=300:=by rw[ma];omega
    by_cases T:bt s j=44
    .have a8:j<s.size:=zr M_;go_wp2_with (first
      |(go_at_call 43;apply a0.o.mono;rintro e r ⟨rfl,a2⟩;obtain⟨tv2,u2,y,I⟩:=a2.o;have d1:=y.here.c2;have e7:=y.here.c3;have e8:=y.here.c6;have f6:=y.here.th 6;have f:=M.o.call y I;have e3:∀x,(r.alloc x).cell? ⟨w.heap.size+1,1,none⟩=some (.slice b sn d):=λx=>f.b3.ce 1 x;have e4:∀m x,((r.setCell ⟨br,6,none⟩ (Z_ m)).alloc x).cell? ⟨w.heap.size+1,1,none⟩=some (.slice b sn d):=λm x=>(f.setMx m).b3.ce 1 x;have Y:=f.ss.1;have Z:=λm=>(f.setMx m).ss.1;replace Y:H_ _:=Y;replace Z:H_ _:=Z;replace f:H_ _:=f;obtain⟨g,e9,f7,g0,g1⟩:=tV y C b4 a9)
      |(go_at_call 101;apply(fQ kb t.kind _ M_).mono;rintro e w' ⟨rfl,rfl⟩)
      |(at_builtin;refine wpList_append_own_at _ rfl _ _ 55 rfl B 3 ti (O_) 1 8 VM d7 d8 d9 e0 rfl D_ (.slice b sn d) (qk ts.length ds).length ((qk ts.length ds).map λ(n:Nat)=>Value.int .i64 (n:Int)) rfl ?hown _ 1 1 [I_ N] rfl rfl (zL _ #[I_ N] _ _ ?nn) (ints_oneCell .i64 [(N:Int)]) ?b1 ?b2 ?b3 ?_
        case hown=>first|exact World.ownsRow.alloc (World.ownsRow.alloc Y _) _|exact World.ownsRow.alloc (World.ownsRow.alloc (Z.o _) _) _
        case nn=>simp
        case b1=>unfold maxLen;omega
        case b2=>omega
        case b3=>have:=y.hB;simp;omega
        intro v5 w5 V G b9 U
        first|have E:=f.o.grow G V U|have E:=(f.o.setMx _).grow G V U
        first|have E5:=f.o.gw G|have E5:=(f.o.setMx _).gw G
        obtain⟨e5,f5⟩:=E5
        obtain⟨g5,f0,rfl⟩:=zu V M_
        replace E:H_ _:=E)
      |(go_at_call 40;apply(zR E.o.R T).mono;rintro e w6 ⟨rfl,d0⟩;have A:=E.o.si d0;have e6:=A.R.here.c1;have f1:=A.R.here.th 1;replace A:H_ _:=A))
     all_goals
      go_roundg (s.size+1-(j+1));case measure=>omega
      case rel=>
       first
        |exact qf (s.size+1-(j+1)) true (j+1) hp H p F Q z C (cY p K J M_) (A.o.inc a8) l_ (.inl ⟨rfl,rfl,T⟩)
        |exact qf (s.size+1-(j+1)) true (j+1) hp H p F Q z C (bY p K J M_) (A.o.inc a8) l_ (.inl ⟨rfl,rfl,T⟩)
        |(have hk:t.kind=40:=by omega
          have q:=qf (s.size+1-(j+1)) true (j+1) hp H p F Q z C (cY p K J M_) (A.o.inc a8) l_ (.inl ⟨rfl,rfl,T⟩)
          rw[hk]at q
          exact q)
        |(have hk:t.kind=40:=by omega
          have q:=qf (s.size+1-(j+1)) true (j+1) hp H p F Q z C (bY p K J M_) (A.o.inc a8) l_ (.inl ⟨rfl,rfl,T⟩)
          rw[hk]at q
          exact q)
    .obtain⟨cj,f8⟩:=x_ (bt s j);have D:((cj:Int)==44)=false:=x4_
     have a7:H_ (bt s j≠44):=T;go_wp2_with (first
      |(go_at_call 43;apply a0.o.mono;rintro e r ⟨rfl,a2⟩;obtain⟨tv2,u2,y,I⟩:=a2.o;have d1:=y.here.c2;have e7:=y.here.c3;have e8:=y.here.c6;have f6:=y.here.th 6;have f:=M.o.call y I;have e3:∀x,(r.alloc x).cell? ⟨w.heap.size+1,1,none⟩=some (.slice b sn d):=λx=>f.b3.ce 1 x;have e4:∀m x,((r.setCell ⟨br,6,none⟩ (Z_ m)).alloc x).cell? ⟨w.heap.size+1,1,none⟩=some (.slice b sn d):=λm x=>(f.setMx m).b3.ce 1 x;have Y:=f.ss.1;have Z:=λm=>(f.setMx m).ss.1;replace Y:H_ _:=Y;replace Z:H_ _:=Z;replace f:H_ _:=f;obtain⟨g,e9,f7,g0,g1⟩:=tV y C b4 a9)
      |(go_at_call 101;apply(fQ kb t.kind _ M_).mono;rintro e w' ⟨rfl,rfl⟩)
      |(at_builtin;refine wpList_append_own_at _ rfl _ _ 55 rfl B 3 ti (O_) 1 8 VM d7 d8 d9 e0 rfl D_ (.slice b sn d) (qk ts.length ds).length ((qk ts.length ds).map λ(n:Nat)=>Value.int .i64 (n:Int)) rfl ?hown _ 1 1 [I_ N] rfl rfl (zL _ #[I_ N] _ _ ?nn) (ints_oneCell .i64 [(N:Int)]) ?b1 ?b2 ?b3 ?_
        case hown=>first|exact World.ownsRow.alloc (World.ownsRow.alloc Y _) _|exact World.ownsRow.alloc (World.ownsRow.alloc (Z.o _) _) _
        case nn=>simp
        case b1=>unfold maxLen;omega
        case b2=>omega
        case b3=>have:=y.hB;simp;omega
        intro v5 w5 V G b9 U
        first|have E:=f.o.grow G V U|have E:=(f.o.setMx _).grow G V U
        first|have E5:=f.o.gw G|have E5:=(f.o.setMx _).gw G
        obtain⟨e5,f5⟩:=E5
        obtain⟨g5,f0,rfl⟩:=zu V M_
        replace E:H_ _:=E)
      |(go_at_call 40;apply(zR E.o.R f8).mono;rintro e w6 ⟨rfl,d0⟩;have A:=E.o.si d0;replace A:H_ _:=A))
     all_goals
      go_roundg (s.size+1-j);case measure=>omega
      case rel=>
       first
        |exact qf (s.size+1-j) false (j) hp H p F Q z C (cY p K J M_) A l_ (.inr ⟨rfl,rfl,a7⟩)
        |exact qf (s.size+1-j) false (j) hp H p F Q z C (bY p K J M_) A l_ (.inr ⟨rfl,rfl,a7⟩)
        |(have hk:t.kind=40:=by omega
          have q:=qf (s.size+1-j) false (j) hp H p F Q z C (cY p K J M_) A l_ (.inr ⟨rfl,rfl,a7⟩)
          rw[hk]at q
          exact q)
        |(have hk:t.kind=40:=by omega
          have q:=qf (s.size+1-j) false (j) hp H p F Q z C (bY p K J M_) A l_ (.inr ⟨rfl,rfl,a7⟩)
          rw[hk]at q
          exact q)
def Ku(s:BA)(n:Nat):∀i,i<=s.size->s.size-i<=n->uz s i:=by
 induction n with
 |zero=>
  intro i b hn;have hb:bt s i=0:=pZ M_;exact ZE (by rw[hb];decide) M_ M_ M_
 |succ n ih=>
  intro i b hn;by_cases h1:zY (bt s i)=true
  .exact VD h1
  .by_cases b:bt s i=91\/bt s i=123
   .have:=zr (s:=s) (i:=i) M_;exact VL b (ih (i+1) M_ M_)
   .by_cases d:bt s i=40
    .have:=zr (s:=s) (i:=i) M_;exact YH d (QK (λj e e=>ih j e M_))
    .by_cases e:65<=bt s i/\bt s i<=70
     .exact VR e
     .exact ZE h1 b d e
def VH{s:BA}{i:Nat}(b:i<=s.size):uz s i:=Ku s (s.size-i) i b l_
end Go.Proofs.YtahhhgbojlkjnaaGreatDoor
