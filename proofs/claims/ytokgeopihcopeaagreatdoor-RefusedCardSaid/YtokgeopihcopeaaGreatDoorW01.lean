import Derived.Test.YtokgeopihcopeaaGreatDoorW00
import Derived.Deep.RegionLaw
import Derived.Deep.LoopGhost
set_option linter.unusedVariables false
set_option maxHeartbeats 16000000
set_option maxRecDepth 100000
set_option linter.defProp false
set_option linter.unusedSimpArgs false
open Go.Proofs.Tryz
namespace Go.Proofs.YtokgeopihcopeaaGreatDoor
open Go.RowKit
variable {n c base size i' N:Nat}{u' tv' v:Ax}{xs:Ay}{e:Av}{l:Ao}{ds:Af}{t:PT}{kb:BA}{a:Aw}
def qJ{P:Ey}{g:Dz}{o:Db}{a:Act}{w:Aw}{K:Dx}{Q:Aa}{E:Prop}(hg:o.guard=none)(s x:Operand)(t:Av)(F:o.op=Op.call { callee:=Callee.builtin Builtin.append,args:=#[s,x],argTypes:=#[t,t] })(base:Nat)(e:Av)(i:TypeInfo)(z:Ax)(size bytes:Nat)(h1:P.underlying t=some (.slice e))(k:P.info? e=some i)(p:i.zero=some z)(q:i.size=size)(r:i.bytes=bytes)(y:z.cells.size=size)(A:0<size)(v:Ax)(n:Nat)(xs:Ay)(hs:a.eval s=v)(G:w.ownsRow base e size v n xs)(f:Addr)(m c:Nat)(d:Ay)(hx:a.eval x=.slice (some f) m c)(hn:d.length=m*size)(hc:∀j u,d[j]?=some u->w.cell? (f.add j)=some u)(h:∀u∈d,u.oneCell'=true)(b1:n+m<=maxLen)(b2:(n+m)*bytes<=140737488355328)(D:base<=w.heap.size)(C:∀b w',w'.ownsRow base e size b (n+m) (xs++d)->w.grownBy w' v.ownBlock->(b.ownBlock=v.ownBlock\/b.ownBlock=some w.heap.size)->K (a.put o.dst b) w'):if Region.wanted o (yielded g a.tmps)=true then Oper.wp P o a w K Q else E:=by
 have hw:Region.wanted o (yielded g a.tmps)=true:=by simp[Region.wanted,hg]
 rw[i_ hw];obtain⟨b,w',g,r1,H,_,I⟩:=run_append_own_at (P:=P) w base t o.type e i z size bytes h1 k p q r y A v n xs G f m c d hn hc h b1 b2 D;unfold Oper.wp;simp[execOp,F,resolve,invoke,builtin,hs,hx,g,Result.andThen];exact C b w' r1 H I
def zj{w w':Aw}{S:Az}(h:w.ownsRow base e size v n xs)(hf:Fr w w' S)(f:∀g,v.ownBlock=some g->¬S g):w'.ownsRow base e size v n xs:=by
 refine⟨h.1,?_⟩;rcases h.2 with h0|⟨g,b,d,rfl,hb,hg,k⟩
 .exact .inl h0
 .refine .inr ⟨g,b,d,rfl,hb,?_,k⟩;rw[hf.block g (by exact(Array.getElem?_eq_some_iff.1 hg).1) (f g rfl)];exact hg
def BG:Tryz.prog.underlying 59=some (.slice 169):=K_
def Uo:(Tryz.prog.info? 169).map (λi=>(i.zero,i.size,i.bytes))=some (some (.agg #[.int .u8 0,L_]),2,32):=K_
def zK(w:Aw)(cs:Dy)(t:Av)(g:Nat)(hg:g=w.heap.size):∀j u,cs.toList[j]?=some u->(w.alloc (.cells cs t)).cell? ((⟨g,0,none⟩:Addr).add j)=some u:=by
 intro j u h;subst hg;have:=(B_ w cs t).cell j;unfold Addr.add;split
 .rename_i b;subst b;rw[this];exact h
 .simp only[be_];rw[this];exact h
def zg{w:Aw}(h:w.ownsRow base e size v n xs)(hn:0<n):∃g b,v=.slice (some ⟨g,0,none⟩) n b:=by
 rcases h.2 with⟨_,h0⟩|⟨g,b,_,hv,_⟩
 .omega
 .exact⟨g,b,hv⟩
def qk{w:Aw}{k:Nat}(h:w.ownsRow base e size v n xs)(hk:k<base):v.ownBlock≠some k:=λe=>by
 have:=h.lt k e;omega
def Blk.ce{w:Aw}{b t:Nat}{cs:Ay}(h:Blk w b cs t)(o:Nat)(x:Obj):(w.alloc x).cell? ⟨b,o,none⟩=cs[o]?:=(h.alloc x).cell o
def PQ(w:Aw)(br:Nat)(s:BA)(bz:Nat)(σ:RV)(zs:Ay)(tv k sv:Ax)(B n:Nat)(xs:Ay)(w':Aw):Prop:=
 ∃tv',RAt w' br s bz σ/\Blk w' bz (tv'::zs) 65/\w'.ownsRow B 169 2 tv' (n+1) (xs++[k,sv])/\Fr w w' (λx=>x=bz\/tv.ownBlock=some x)/\(tv'.ownBlock=tv.ownBlock\/∃g,tv'.ownBlock=some g/\w.heap.size<=g)
def FM{w:Aw}{br:Nat}{s:BA}{bz:Nat}{σ:RV}{zs:Ay}{tv k sv:Ax}{B:Nat}(h:RAt w br s bz σ)(hz:Blk w bz (tv::zs) 65)(m:w.ownsRow B 169 2 tv n xs)(hk:k.oneCell'=true)(T:sv.oneCell'=true)(hn:n<=1000)(hB:B<=w.heap.size)(f:br<B)(F:bz<B)(S:br≠bz):Calls prog 64 #[P_ br,.agg #[k,sv]] w λe w'=>e=.returned (Z_ n)/\PQ w br s bz σ zs tv k sv B n xs w':=by
 obtain⟨ti,J,M,O,P⟩:=info_parts Uo;have hX:∀W,Fr w W N_->W.ownsRow B 169 2 tv n xs:=λW hf=>zj m hf (λ_ _=>id);have Q:=qk m f;have R:=qk m F;go_in;go_wp2;have h1:RAt (w.alloc (.cells #[k,sv] 169)) br s bz σ:=E_ h _;have G:=E_ hz (.cells #[k,sv] 169);have b:=B_ w #[k,sv] 169;have d:Fr w (w.alloc (.cells #[k,sv] 169)) N_:=(A_ w _).alloc _;generalize w.alloc (.cells #[k,sv] 169)=W1 at *;have c3:=h1.c3;have f:=λx=>Blk.ce h1 3 x;have z0:=G.cell 0;have o:=λx=>G.ce 0 x;have b0:=b.cell 0;have b1:=b.cell 1;simp only[aa_,ab_,RV.cells]at f z0 o b0 b1;refine tr_ 16 (λW=>z_ W br 3 (P_ bz)/\z_ W bz 0 tv/\z_ W w.heap.size 0 k/\z_ W w.heap.size 1 sv) ?_;refine tb_ 0 rfl K_ (λ_ _ _ h=>h) xo_ x3_ ?_;refine tb_ 1 rfl K_ (λ_ _ _ h=>h) xo_ x3_ ?_;refine tb_ 2 rfl K_ (λ_ _ _ h=>h) xo_ x3_ ?_;refine tb_ 3 rfl K_ (λ_ _ _ h=>h) xo_ x3_ ?_;refine tb_ 4 rfl K_ (λ_ _ _ h=>h) xo_ x3_ ?_;refine tb_ 5 rfl K_ (λ_ _ _ h=>h) xo_ x3_ ?_;refine tb_ 6 rfl K_ (λ_ _ _ h=>h) xo_ x3_ ?_;refine tb_ 7 rfl K_ (λ_ _ _ h=>h) xo_ x3_ ?_;refine tb_ 8 rfl K_ (λ_ _ _ h=>h) xo_ x3_ ?_;refine tb_ 9 rfl K_ (λ_ _ _ h=>h) xo_ x3_ ?_;refine tb_ 10 rfl K_ (λ_ _ _ h=>h) xo_ x3_ ?_;refine tb_ 11 rfl K_ (λ_ _ _ h=>h) xo_ x3_ ?_;refine t1_ 12 ⟨c3,z0,b0,b1⟩ ?_;have f:=f (.cells #[k,sv] 169);have o:=o (.cells #[k,sv] 169);have G:=(b.alloc (.cells #[k,sv] 169)).cell 0;have H:=(b.alloc (.cells #[k,sv] 169)).cell 1;refine zh 13 rfl K_ (λ_=>⟨f,o,G,H⟩) (λK f=>?_);refine qJ rfl (.tmp 15) (.tmp 17) 59 rfl B 169 ti _ 2 32 BG J M O P rfl D_ tv n xs (by simp[Act.eval]) (hX _ ((d.alloc _).drew)) _ 1 1 [k,sv] (by simp[Act.eval];rfl) x6_ (zK _ _ _ _ x6_) (by simp[hk,T]) (by simp[maxLen];omega) M_ (by have:=d.size;simp;omega) ?_;intro o w' ho z E;refine f _ _ ?_;have y:Fr w w' (λx=>tv.ownBlock=some x):=Y_ (((d.mono v_).alloc _).drew) z (λk e _=>e);have D:RAt w' br s bz σ:=y.bl h Q;have C:=y.bl hz R;have r:=D.c3;have A:=C.c0;have f:=C.th 0;have n3:=Fr.bl (Y_ (((A_ W1 (λx=>tv.ownBlock=some x)).alloc _).drew) z (λk e _=>e)) b (λe=>o1_ (m.lt _ e));have I:o.ownBlock=tv.ownBlock\/∃g,o.ownBlock=some g/\w.heap.size<=g:=E.imp id (λe=>⟨_,e,by have:=d.size;simp;omega⟩);have p:=n3.cell 0;have q:=n3.cell 1;obtain⟨g,b,rfl⟩:=zg ho M_;refine t1_ 14 ⟨r,A,p,q⟩ ?_;refine t1_ 15 ⟨r,A,p,q⟩ ?_;refine t1_ 16 ⟨r,A,p,q⟩ ?_;refine td_ ?_ _;go_wp2;go_ret;refine⟨rfl,?_⟩;exact⟨_,T_ D _ S,G_ C 0 _,zj ho (X_ _ _ _) (λg hg e=>qk ho F (by rw[hg];exact congrArg some e)),Fr.setCell (y.mono (λ_ _ e=>.inr e)) _ _ (λ_=>.inl rfl),I⟩
def jq(w:Aw)(B:Nat)(tv u sv:Ax)(l:Ao):Prop:=
 w.ownsRow B 3 1 sv l.length (l.map λ(n:Nat)=>Value.int .i64 (n:Int))/\∀g,sv.ownBlock=some g->tv.ownBlock≠some g/\u.ownBlock≠some g
def Cm(w:Aw)(X:Az)(B:Nat)(tv u:Ax)(ts:Ap):Prop:=
 ∃xs,w.ownsRow B 169 2 tv ts.length xs/\∀k t,ts[k]?=some t->∃sv,xs[2*k]?=some (U_ t.kind)/\xs[2*k+1]?=some sv/\jq w B tv u sv t.subs/\∀g,X g->sv.ownBlock≠some g
def jc(us:As):List Value:=us.flatMap λp=>[U_ p.1,I_ p.2]
structure Rep(w:Aw)(X:Az)(br bz B:Nat)(s:BA)(i:Nat)(bad:Aq)(wr mx:Int)(ts:Ap)(us:As)(zs:Ay)(tv u:Ax):Prop where
 here:RAt w br s bz ⟨i,bad,u,wr,mx⟩
 z:Blk w bz (tv::zs) 65
 tys:Cm w X B tv u ts
 uses:w.ownsRow B 70 2 u us.length (jc us)
 apart:∀g,tv.ownBlock=some g->u.ownBlock≠some g
 rB:br<B
 zB:bz<B
 hB:B<=w.heap.size
 rz:br≠bz
 il:i<=s.size
 sl:s.size<=300
 tl:ts.length<=i
 ul:us.length<=i
 av:∀g,X g->g<w.heap.size/\g≠br/\g≠bz/\tv.ownBlock≠some g/\u.ownBlock≠some g
structure zT(w w':Aw)(br bz:Nat)(tv u tv' u':Ax):Prop where
 fr:Fr w w' (λx=>x=br\/x=bz\/tv.ownBlock=some x\/u.ownBlock=some x)
 tvb:tv'.ownBlock=tv.ownBlock\/∃g,tv'.ownBlock=some g/\w.heap.size<=g
 ub:u'.ownBlock=u.ownBlock\/∃g,u'.ownBlock=some g/\w.heap.size<=g
def zT.refl(w:Aw)(br bz:Nat)(tv u:Ax):zT w w br bz tv u tv u:=⟨A_ _ _,.inl rfl,.inl rfl⟩
def zT.trans{b c:Aw}{br bz:Nat}{tv u d f:Ax}(h:zT a b br bz tv u tv' u')(k:zT b c br bz tv' u' d f):zT a c br bz tv u d f:=by
 refine⟨h.fr.trans k.fr (λx hx d=>?_),?_,?_⟩
 .rcases d with e|e|e|e
  .exact .inl e
  .exact .inr (.inl e)
  .rcases h.tvb with q|⟨g,q,hg⟩
   .exact .inr (.inr (.inl (q▸e)))
   .rw[q]at e;cases e;omega
  .rcases h.ub with q|⟨g,q,hg⟩
   .exact .inr (.inr (.inr (q▸e)))
   .rw[q]at e;cases e;omega
 .rcases k.tvb with q|⟨g,q,hg⟩
  .rw[q];exact h.tvb
  .exact .inr ⟨g,q,al_ h.fr.size hg⟩
 .rcases k.ub with q|⟨g,q,hg⟩
  .rw[q];exact h.ub
  .exact .inr ⟨g,q,al_ h.fr.size hg⟩
def zT.subs{w w':Aw}{br bz B:Nat}{tv u sv:Ax}(h:zT w w' br bz tv u tv' u')(hs:jq w B tv u sv l)(hr:br<B)(hz:bz<B):jq w' B tv' u' sv l:=by
 refine⟨zj hs.1 h.fr (λg hg b=>?_),λg hg=>?_⟩
 .have:=hs.1.lt g hg;rcases b with e|e|e|e
  .omega
  .omega
  .exact(hs.2 g hg).1 e
  .exact(hs.2 g hg).2 e
 .have:=hs.1.lt g hg;refine⟨λe=>?_,λe=>?_⟩
  .rcases h.tvb with q|⟨x,q,hx⟩
   .exact(hs.2 g hg).1 (q▸e)
   .rw[q]at e;cases e;omega
  .rcases h.ub with q|⟨x,q,hx⟩
   .exact(hs.2 g hg).2 (q▸e)
   .rw[q]at e;cases e;omega
def lp(w:Aw)(B:Nat)(tv u:Ax):jq w B tv u (L_) []:=⟨World.ownsRow_nil _ _ _ _,λg hg=>by simp[Value.ownBlock]at hg⟩
section
variable {w w':Aw} {X:Az} {br bz B:Nat} {s:BA} {i j:Nat} {bad bad':Aq} {wr mx wr' mx':Int} {ts:Ap} {us:As} {zs:Ay} {tv u:Ax}
def Rep.move(R:Rep w X br bz B s i bad wr mx ts us zs tv u)(hf:Fr w w' (· = br))(ha:RAt w' br s bz ⟨j,bad',u,wr',mx'⟩)(h1:i<=j)(h:j<=s.size):Rep w' X br bz B s j bad' wr' mx' ts us zs tv u/\zT w w' br bz tv u tv u:=by
 have f:zT w w' br bz tv u tv u:=⟨hf.mono (λ_ _ e=>.inl e),.inl rfl,.inl rfl⟩;refine⟨⟨ha,hf.bl R.z (Ne.symm R.rz),?_,zj R.uses hf (λg hg e=>qk R.uses R.rB (e▸hg)),R.apart,R.rB,R.zB,al_ R.hB hf.size,R.rz,h,R.sl,al_ R.tl h1,al_ R.ul h1,λg hg=>⟨bl_ (R.av g hg).1 hf.size,(R.av g hg).2⟩⟩,f⟩;obtain⟨xs,hx,hk⟩:=R.tys;refine⟨xs,zj hx hf (λg hg e=>qk hx R.rB (e▸hg)),λk t h=>?_⟩;obtain⟨sv,a,b,c,d⟩:=hk k t h;exact⟨sv,a,b,f.subs c R.rB R.zB,d⟩
def Rep.si(R:Rep w X br bz B s i bad wr mx ts us zs tv u)(hw:zq w w'):Rep w' X br bz B s i bad wr mx ts us zs tv u:=by
 obtain⟨n,rfl⟩:=hw;exact⟨R.here,R.z,R.tys,R.uses,R.apart,R.rB,R.zB,R.hB,R.rz,R.il,R.sl,R.tl,R.ul,R.av⟩
def zT.si(h:zT a w br bz tv u tv' u')(hw:zq w w'):zT a w' br bz tv u tv' u':=⟨h.fr.si hw,h.tvb,h.ub⟩
def zT.oS(hw:zq w w'):zT w w' br bz tv u tv u:=(zT.refl w br bz tv u).si hw
def Rep.inc(R:Rep w X br bz B s i bad wr mx ts us zs tv u)(h:i<s.size):Rep (w.setCell ⟨br,1,none⟩ (Z_ ((i:Int)+1))) X br bz B s (i+1) bad wr mx ts us zs tv u/\zT w (w.setCell ⟨br,1,none⟩ (Z_ ((i:Int)+1))) br bz tv u tv u:=
 R.move (X_ _ _ _) (RAt.setI R.here (i+1)) M_ M_
def Rep.sp(R:Rep w X br bz B s i bad wr mx ts us zs tv u):Rep (w.setCell ⟨br,2,none⟩ (.bool true)) X br bz B s i true wr mx ts us zs tv u/\zT w (w.setCell ⟨br,2,none⟩ (.bool true)) br bz tv u tv u:=
 R.move (X_ _ _ _) (RAt.setBad R.here true) l_ R.il
def Rep.setMx(R:Rep w X br bz B s i bad wr mx ts us zs tv u)(m:Int):Rep (w.setCell ⟨br,6,none⟩ (Z_ m)) X br bz B s i bad wr m ts us zs tv u/\zT w (w.setCell ⟨br,6,none⟩ (Z_ m)) br bz tv u tv u:=
 R.move (X_ _ _ _) (RAt.setMx R.here m) l_ R.il
def Rep.fe(R:Rep w X br bz B s i bad wr mx ts us zs tv u){Y:Az}(f:∀g,Y g->X g):Rep w Y br bz B s i bad wr mx ts us zs tv u:=by
 refine⟨R.here,R.z,?_,R.uses,R.apart,R.rB,R.zB,R.hB,R.rz,R.il,R.sl,R.tl,R.ul,λg hg=>R.av g (f g hg)⟩;obtain⟨xs,hx,hk⟩:=R.tys;refine⟨xs,hx,λk t h=>?_⟩;obtain⟨sv,a,b,c,d⟩:=hk k t h;exact⟨sv,a,b,c,λg hg=>d g (f g hg)⟩
def Rep.o(R:Rep w X br bz B s i bad wr mx ts us zs tv u)(hf:Fr w w' X):Rep w' (λg=>X g\/(w.heap.size<=g/\g<w'.heap.size)) br bz B s i bad wr mx ts us zs tv u:=by
 obtain⟨xs,hx,hk⟩:=R.tys;have hb:=R.here.lt;have f:=R.z.lt;refine⟨hf.bl R.here (λh=>(R.av _ h).2.1 rfl),hf.bl R.z (λh=>(R.av _ h).2.2.1 rfl),⟨xs,zj hx hf (λg hg h=>(R.av g h).2.2.2.1 hg),λk t f=>?_⟩,zj R.uses hf (λg hg h=>(R.av g h).2.2.2.2 hg),R.apart,R.rB,R.zB,al_ R.hB hf.size,R.rz,R.il,R.sl,R.tl,R.ul,λg hg=>?_⟩
 .obtain⟨sv,a,b,c,d⟩:=hk k t f;refine⟨sv,a,b,⟨zj c.1 hf (λg hg h=>d g h hg),c.2⟩,λg hg=>?_⟩;rcases hg with hg|hg
  .exact d g hg
  .intro e;have:=c.1.lt g e;omega
 .rcases hg with hg|hg
  .exact⟨bl_ (R.av g hg).1 hf.size,(R.av g hg).2⟩
  .refine⟨hg.2,M_,M_,λe=>?_,λe=>?_⟩
   .have:=hx.lt g e;omega
   .have:=R.uses.lt g e;omega
def zT.o(h:zT a w br bz tv u tv' u')(hf:Fr w w' X)(hX:∀g,X g->a.heap.size<=g):zT a w' br bz tv u tv' u':=
 ⟨h.fr.trans hf (λx hx b=>absurd (hX x b) M_),h.tvb,h.ub⟩
def Rep.alloc(R:Rep w X br bz B s i bad wr mx ts us zs tv u)(o:Obj):Rep (w.alloc o) X br bz B s i bad wr mx ts us zs tv u/\zT w (w.alloc o) br bz tv u tv u:=
 ⟨(R.o ((A_ w _).alloc o)).fe (λ_ h=>.inl h),⟨(A_ w _).alloc o,.inl rfl,.inl rfl⟩⟩
end
def Mf(w:Aw)(X:Az)(br bz B:Nat)(s:BA)(i:Nat)(bad:Aq)(wr mx:Int)(ts:Ap)(us:As)(zs:Ay)(tv u:Ax)(c:Nat)(l:Ao)(w':Aw):Prop:=
 ∃tv',Rep w' X br bz B s i bad wr mx (ts++[⟨c,l⟩]) us zs tv' u/\zT w w' br bz tv u tv' u
def VJ{w:Aw}(h:w.ownsRow base e size v n xs):v.oneCell'=true:=by
 rcases h.2 with⟨rfl,_⟩|⟨g,b,_,rfl,_⟩<;>rfl
def fj{w:Aw}{X:Az}{br bz B:Nat}{s:BA}{i:Nat}{bad:Aq}{wr mx:Int}{ts:Ap}{us:As}{zs:Ay}{tv u sv:Ax}(R:Rep w X br bz B s i bad wr mx ts us zs tv u)(hs:jq w B tv u sv l)(A:∀g,X g->sv.ownBlock≠some g)(hl:ts.length<i):Calls prog 64 #[P_ br,.agg #[U_ c,sv]] w λe w'=>e=.returned (I_ ts.length)/\Mf w X br bz B s i bad wr mx ts us zs tv u c l w':=by
 obtain⟨xs,hx,hk⟩:=R.tys;have C:=R.il;have C:=R.sl;apply(FM R.here R.z hx rfl (VJ hs.1) M_ R.hB R.rB R.zB R.rz).mono;rintro e w' ⟨rfl,tv',h1,r,y,m,o⟩;refine⟨rfl,tv',?_⟩;have p:zT w w' br bz tv u tv' u:=⟨m.mono (λ_ _ e=>e.elim (λe=>.inr (.inl e)) (λe=>.inr (.inr (.inl e)))),o,.inl rfl⟩;have C:=hx.1;refine⟨⟨h1,r,⟨xs++[U_ c,sv],by simpa using y,λk t f=>?_⟩,?_,?_,R.rB,R.zB,al_ R.hB m.size,R.rz,R.il,R.sl,by rw[ag_];exact hl,R.ul,λg hg=>?_⟩,p⟩
 .by_cases r:k<ts.length
  .rw[ar_ r]at f;obtain⟨sv',a,b,d,r⟩:=hk k t f;exact⟨sv',by rw[ar_ M_];exact a,by rw[ar_ M_];exact b,p.subs d R.rB R.zB,r⟩
  .rw[aw_ M_]at f;have r:k-ts.length=0:=by
    rcases Nat.eq_zero_or_pos (k-ts.length) with h|h
    .exact h
    .rw[bm_ x1_]at f;cases f
   rw[r]at f;simp only[aa_,af_]at f;subst f;have f:k=ts.length:=M_;refine⟨sv,?_,?_,p.subs hs R.rB R.zB,A⟩
   .rw[aw_ M_,show 2*k-xs.length=0 by omega];rfl
   .rw[aw_ M_,show 2*k+1-xs.length=1 by omega];rfl
 .refine zj R.uses m (λg hg e=>?_);rcases e with e|e
  .exact qk R.uses R.zB (e▸hg)
  .exact R.apart g e hg
 .intro g hg hu;rcases o with q|⟨x,q,C⟩
  .exact R.apart g (q▸hg) hu
  .rw[q]at hg;cases hg;have:=R.uses.lt _ hu;omega
 .obtain⟨f,p,r,y,A⟩:=R.av g hg;refine⟨bl_ f m.size,p,r,λe=>?_,A⟩;rcases o with q|⟨x,q,C⟩
  .exact y (q▸e)
  .rw[q]at e;cases e;omega
def zC{w:Aw}{X:Az}{br bz B:Nat}{s:BA}{i:Nat}{wr mx:Int}{ts:Ap}{us:As}{zs:Ay}{tv u:Ax}(R:Rep w X br bz B s i false wr mx ts us zs tv u)(hc:bt s i=c):Calls prog 35 #[P_ br] w λe w'=>e=.returned (U_ c)/\zq w w':=by
 have h1:=R.il;have b:=R.sl;apply(wN R.here R.sl z1_).mono;rintro e w' ⟨rfl,hw⟩;exact⟨by simp only[ag,hc],hw⟩
def yp(w:Aw)(X:Az)(br bz B:Nat)(s:BA)(i:Nat)(wr mx:Int)(ts:Ap)(us:As)(zs:Ay)(tv u:Ax)(e:Ak)(w':Aw):Prop:=
 match pT s i with
 | .ok (t,j)=>e=.returned (Z_ ((ts.length+(flat ts.length t).length-1:Nat):Int))/\∃tv' u',Rep w' X br bz B s j false wr (mix t mx) (ts++flat ts.length t) (us++zZ t) zs tv' u'/\zT w w' br bz tv u tv' u'
 | .error k=>(∃v:Nat,e=.returned (Z_ (v:Int)))/\∃mx' ts' us' tv' u',Rep w' X br bz B s k true wr mx' ts' us' zs tv' u'/\ts'.length+i<=k+ts.length/\zT w w' br bz tv u tv' u'
def um(w:Aw)(X:Az)(br bz B:Nat)(s:BA)(i:Nat)(wr mx:Int)(ts:Ap)(us:As)(zs:Ay)(tv u:Ax)(e:Ak)(w':Aw):Prop:=
 ∃sv tv' u',e=.returned (.agg #[.int .u8 40,sv])/\zT w w' br bz tv u tv' u'/\
 match pA s i with
 | .ok (ds,j)=>if bt s j=41 then Rep w' X br bz B s (j+1) false wr (qr [] ds mx) (ts++zN ts.length ds) (us++zX ds) zs tv' u'/\jq w' B tv' u' sv (jN ts.length ds)/\∀g,X g->sv.ownBlock≠some g
  else ∃mx' ts' us' l,Rep w' X br bz B s j true wr mx' ts' us' zs tv' u'/\ts'.length+i<=j+ts.length/\jq w' B tv' u' sv l/\∀g,X g->sv.ownBlock≠some g
 | .error k=>∃mx' ts' us' l,Rep w' X br bz B s k true wr mx' ts' us' zs tv' u'/\ts'.length+i<=k+ts.length/\jq w' B tv' u' sv l/\∀g,X g->sv.ownBlock≠some g
def uk(s:BA)(i:Nat):Prop:=∀(w:World) (X:Nat->Prop) (br bz B:Nat) (wr mx:Int) (ts:List TR) (us:List (Nat×Nat)) (zs:List Value) (tv u:Value),Rep w X br bz B s i false wr mx ts us zs tv u->
 Calls prog 38 #[P_ br] w (yp w X br bz B s i wr mx ts us zs tv u)
def GF(s:BA)(i:Nat):Prop:=∀(w:World) (X:Nat->Prop) (br bz B:Nat) (wr mx:Int) (ts:List TR) (us:List (Nat×Nat)) (zs:List Value) (tv u:Value),Rep w X br bz B s i false wr mx ts us zs tv u->
 Calls prog 65 #[P_ br] w (um w X br bz B s i wr mx ts us zs tv u)
def Fl{s:BA}{i:Nat}(h:zi (bt s i)=true):pT s i=.ok (.leaf (bt s i) i,i+1):=by
 rw[wY];unfold vR;rw[i_ h]
def sO{s:BA}{i:Nat}(h:bt s i=91\/bt s i=123):pT s i =
 match pT s (i+1) with
 | .error k=>.error k
 | .ok (t,j)=>if bt s j=xw (bt s i) then .ok (.wrap (bt s i) i t,j+1) else .error j:=by
 rw[wY];unfold vR;rw[n_ (by rcases h with h|h<;>rw[h]<;>decide),i_ h];rfl
def XW{s:BA}{i:Nat}(h:bt s i=40):pT s i =
 match pA s (i+1) with
 | .error k=>.error k
 | .ok (ts,j)=>if bt s j=41 then .ok (.alts i ts,j+1) else .error j:=by
 rw[wY];unfold vR;rw[n_ (by rw[h];decide),n_ M_,i_ h];rfl
def iz{s:BA}{i:Nat}(h:65<=bt s i/\bt s i<=70):pT s i=.ok (.leaf (bt s i) i,i+1):=by
 rw[wY];unfold vR;rw[n_ (by simp only[zi,ay_,beq_iff_eq];omega),n_ M_,n_ M_,i_ (by simp[zY,h])]
def KW{s:BA}{i:Nat}(h1:¬zi (bt s i)=true)(b:¬(bt s i=91\/bt s i=123))(d:¬bt s i=40)(f:¬(65<=bt s i/\bt s i<=70)):pT s i=.error i:=by
 rw[wY];unfold vR;rw[n_ h1,n_ b,n_ d,n_ (by simp only[zY,a3_,decide_eq_true_eq];exact f)]
def QO{s:BA}{i:Nat}(hb:zi (bt s i)=true):uk s i:=by
 intro w X br bz B wr mx ts us zs tv u R;have f:i<s.size:=zp (rk hb);have g:=R.sl;have d:=Fl hb;generalize hc:bt s i=c at *;have h:c=110\/c=116\/c=105\/c=108\/c=115:=by simp only[zi,ay_,beq_iff_eq]at hb;omega
 have fin:H_ (∀(e:Ending) (w':World),(e=.returned (I_ ts.length)/\∃tv',Rep w' X br bz B s (i+1) false wr mx (ts++[⟨c,[]⟩]) us zs tv' u/\zT w w' br bz tv u tv' u)->yp w X br bz B s i wr mx ts us zs tv u e w'):=by
  rintro e w' ⟨rfl,tv',h1,g⟩;unfold yp;rw[d];refine⟨by simp[flat],tv',u,?_,g⟩;simpa[mix,flat,zZ,hb] using h1
 generalize yp w X br bz B s i wr mx ts us zs tv u=POST at *;rcases h with rfl|rfl|rfl|rfl|rfl;all_goals
  go_in;go_wp2_with (first
   |(go_at_call 35;apply(zC R hc).mono;rintro e w1 ⟨rfl,hw⟩;have b:=R.si hw;have c1:=b.here.c1;have d:=b.here.th 1)
   |(go_at_call 64;apply(fj (b.inc f).1 (lp _ _ _ _) (λ_ _=>nofun) (o1_ R.tl)).mono;rintro e d ⟨rfl,d⟩))
  try go_ret
  obtain⟨tv',r,st⟩:=d;exact fin.o _ _ ⟨rfl,tv',r,((zT.oS hw).trans (b.inc f).2).trans st⟩
def XZ{s:BA}{i:Nat}(h1:¬zi (bt s i)=true)(d:¬(bt s i=91\/bt s i=123))(f:¬bt s i=40)(g:¬(65<=bt s i/\bt s i<=70)):uk s i:=by
 intro w X br bz B wr mx ts us zs tv u R;have h:=KW h1 d f g;generalize hc:bt s i=c at *;have fin:H_ (∀(e:Ending) (w':World),(e=.returned (O_)/\Rep w' X br bz B s i true wr mx ts us zs tv u/\zT w w' br bz tv u tv u)->yp w X br bz B s i wr mx ts us zs tv u e w'):=by
  rintro e w' ⟨rfl,r,st⟩;unfold yp;rw[h];exact⟨⟨0,rfl⟩,mx,ts,us,tv,u,r,M_,st⟩
 generalize yp w X br bz B s i wr mx ts us zs tv u=POST at *;have h:((c:Int)==110)=false:=yc_
 have h:((c:Int)==116)=false:=yc_
 have n3:((c:Int)==105)=false:=yc_
 have h:((c:Int)==108)=false:=yc_
 have h:((c:Int)==115)=false:=yc_
 have h:((c:Int)==91)=false:=x1_
 have h:((c:Int)==123)=false:=x1_
 have h:((c:Int)==40)=false:=x1_
 have k:(decide ((65:Int)<=(c:Int))&&decide ((c:Int)<=70))=false:=x1_
 go_in;go_wp2_with (first
  |(go_at_call 35;apply(zC R hc).mono;rintro e w1 ⟨rfl,hw⟩;have b:=R.si hw;have c1:=b.here.c2;have d:=b.here.th 2)
  |(go_at_call 34;apply(xf _ _ _ _).mono;rintro e d ⟨rfl,rfl⟩;rw[k]))
 try go_ret
 exact fin.o _ _ ⟨rfl,b.sp.1,(zT.oS hw).trans b.sp.2⟩
def MQ:Tryz.prog.underlying 66=some (.slice 70):=K_
def Cz:(Tryz.prog.info? 70).map (λi=>(i.zero,i.size,i.bytes))=some (some (.agg #[.int .u8 0,O_]),2,16):=K_
def de(us:As)(c i:Nat):jc (us++[(c,i)])=jc us++[U_ c,I_ i]:=by simp[jc]
def RAt.incI{w:Aw}{br:Nat}{s:BA}{bz i:Nat}{b:Aq}{u:Ax}{wr mx:Int}(h:RAt w br s bz ⟨i,b,u,wr,mx⟩):RAt (w.setCell ⟨br,1,none⟩ (Z_ ((i:Int)+1))) br s bz ⟨i+1,b,u,wr,mx⟩:=RAt.setI h (i+1)
def Rep.used{w w' f:Aw}{X:Az}{br bz B:Nat}{s:BA}{i:Nat}{wr mx:Int}{ts:Ap}{us:As}{zs:Ay}{tv u:Ax}(R:Rep w X br bz B s i false wr mx ts us zs tv u)(hi:i<s.size)(ho:w'.ownsRow B 70 2 u' (us.length+1) (jc us++[U_ c,I_ i]))(hf:Fr w w' (λx=>u.ownBlock=some x))(o:u'.ownBlock=u.ownBlock\/∃g,u'.ownBlock=some g/\w.heap.size<=g)(m:Fr w' f (· = br))(h1:RAt f br s bz ⟨i+1,false,u',wr,mx⟩):Rep f X br bz B s (i+1) false wr mx ts (us++[(c,i)]) zs tv u'/\zT w f br bz tv u tv u':=by
 have r:=qk R.uses R.zB;have hz:=hf.bl R.z r;have h:Fr w f (λx=>x=br\/u.ownBlock=some x):=(hf.mono (λ_ _ e=>.inr e)).trans m (λ_ _ e=>.inl e);have p:zT w f br bz tv u tv u':=⟨h.mono (λ_ _ e=>e.elim .inl (λe=>.inr (.inr (.inr e)))),.inl rfl,o⟩;refine⟨⟨h1,m.bl hz (Ne.symm R.rz),?_,?_,?_,R.rB,R.zB,al_ R.hB h.size,R.rz,hi,R.sl,Nat.le_succ_of_le R.tl,by rw[ag_];exact Nat.succ_le_succ R.ul,λg hg=>?_⟩,p⟩
 .obtain⟨xs,hx,hk⟩:=R.tys;refine⟨xs,zj hx h (λg hg e=>?_),λk t r=>?_⟩
  .rcases e with e|e
   .exact qk hx R.rB (e▸hg)
   .exact R.apart g hg e
  .obtain⟨sv,a,b,d,f⟩:=hk k t r;exact⟨sv,a,b,p.subs d R.rB R.zB,f⟩
 .rw[de,ag_];exact zj ho m (λg hg e=>qk ho R.rB (e▸hg))
 .intro g hg e;rcases o with q|⟨x,q,hx⟩
  .exact R.apart g hg (q▸e)
  .rw[q]at e;cases e;obtain⟨xs,f,_⟩:=R.tys;have:=f.lt _ hg;omega
 .obtain⟨f,m,p,r,y⟩:=R.av g hg;refine⟨bl_ f h.size,m,p,r,λe=>?_⟩;rcases o with q|⟨x,q,hx⟩
  .exact y (q▸e)
  .rw[q]at e;cases e;omega
def QA{s:BA}{i:Nat}(h:65<=bt s i/\bt s i<=70):uk s i:=by
 intro w X br bz B wr mx ts us zs tv u R;have I:i<s.size:=zp M_;have A:=R.sl;have A:=R.ul;have m:=iz h;generalize hc:bt s i=c at *;have fin:H_ (∀(e:Ending) (w':World),(e=.returned (I_ ts.length)/\∃tv' u',Rep w' X br bz B s (i+1) false wr mx (ts++[⟨c,[]⟩]) (us++[(c,i)]) zs tv' u'/\zT w w' br bz tv u tv' u')->yp w X br bz B s i wr mx ts us zs tv u e w'):=by
  rintro e w' ⟨rfl,tv',u',h1,A⟩;unfold yp;rw[m];refine⟨by simp[flat],tv',u',?_,A⟩;have hb:zi c=false:=by simp[zi];omega
  simpa[mix,flat,zZ,hb] using h1
 generalize yp w X br bz B s i wr mx ts us zs tv u=POST at *;have m:((c:Int)==110)=false:=x1_
 have m:((c:Int)==116)=false:=x1_
 have n3:((c:Int)==105)=false:=x1_
 have m:((c:Int)==108)=false:=x1_
 have m:((c:Int)==115)=false:=x1_
 have m:((c:Int)==91)=false:=x1_
 have m:((c:Int)==123)=false:=x1_
 have m:((c:Int)==40)=false:=x1_
 have J:(decide ((65:Int)<=(c:Int))&&decide ((c:Int)<=70))=true:=x1_
 have h:H_ (65<=c/\c<=70):=h;obtain⟨ti,E,F,G,H⟩:=info_parts Cz;go_in;go_wp2_with (first
  |(go_at_call 35;apply(zC R hc).mono;rintro e w1 ⟨rfl,hw⟩;have b:=R.si hw)
  |(go_at_call 34;apply(xf _ _ _ _).mono;rintro e d ⟨rfl,rfl⟩;rw[J]))
 have c1:=b.here.c1;have c4:=b.here.c4;have hX:∀W,Fr d W N_->W.ownsRow B 70 2 u us.length (jc us):=λW hf=>zj b.uses hf (λ_ _=>id);refine tr_ 15 (λW=>z_ W br 4 u/\z_ W br 1 (I_ i)) ?_;refine tb_ 0 rfl K_ (λ_ _ _ h=>h) xo_ x7_ ?_;refine tb_ 1 rfl K_ (λ_ _ _ h=>h) xo_ x7_ ?_;refine tb_ 2 rfl K_ (λ_ _ _ h=>h) xo_ x7_ ?_;refine tb_ 3 rfl K_ (λ_ _ _ h=>h) xo_ x7_ ?_;refine tb_ 4 rfl K_ (λ_ _ _ h=>h) xo_ x7_ ?_;refine tb_ 5 rfl K_ (λ_ _ _ h=>h) xo_ x7_ ?_;refine tb_ 6 rfl K_ (λ_ _ _ h=>h) xo_ x7_ ?_;refine tb_ 7 rfl K_ (λ_ _ _ h=>h) xo_ x7_ ?_;refine tb_ 8 rfl K_ (λ_ _ _ h=>h) xo_ x7_ ?_;refine tb_ 9 rfl K_ (λ_ _ _ h=>h) xo_ x7_ ?_;refine tb_ 10 rfl K_ (λ_ _ _ h=>h) xo_ x7_ ?_;refine t1_ 11 ⟨c4,c1⟩ ?_;have A:(d.alloc (.cells #[U_ c,I_ i] 70)).cell? ⟨br,4,none⟩=some u:=Blk.ce b.here 4 _;have m:(d.alloc (.cells #[U_ c,I_ i] 70)).cell? ⟨br,1,none⟩=some (I_ i):=Blk.ce b.here 1 _;refine zh 12 rfl K_ (λ_=>⟨A,m⟩) (λK A=>?_);refine qJ rfl (.tmp 79) (.tmp 86) 66 rfl B 70 ti _ 2 16 MQ E F G H rfl D_ u us.length (jc us) (by simp[Act.eval]) (hX _ (((A_ d _).alloc _).drew)) _ 1 1 [U_ c,I_ i] (by simp[Act.eval];rfl) x6_ (zK _ _ _ _ x6_) zi_ (by simp[maxLen];omega) M_ (by have:=b.hB;simp;omega) ?_;intro u' m ho D C;refine A _ _ ?_;have A:Fr d m (λx=>u.ownBlock=some x):=Y_ (((A_ d _).alloc _).drew) D (λk e _=>e);have E:u'.ownBlock=u.ownBlock\/∃g,u'.ownBlock=some g/\d.heap.size<=g:=C.imp id (λe=>⟨_,e,by simp⟩);have f:RAt m br s bz ⟨i,false,u,wr,mx⟩:=A.bl b.here (qk b.uses b.rB);have q:=f.c4;have p:=f.c1;have d:=f.th 4;have d:=f.th 1;have z:RAt (m.setCell ⟨br,4,none⟩ u') br s bz ⟨i,false,u',wr,mx⟩:=RAt.setU f u';have y:=b.used I ho A E (((A_ m (· = br)).setCell ⟨br,4,none⟩ u' (λ_=>rfl)).setCell ⟨br,1,none⟩ (Z_ ((i:Int)+1)) (λ_=>rfl)) z.incI;obtain⟨g,d,rfl⟩:=zg ho M_;refine t1_ 13 ⟨q,p⟩ ?_;refine t1_ 14 ⟨q,p⟩ ?_;refine t1_ 15 ⟨q,p⟩ ?_;refine td_ ?_ _;go_wp2_with (go_at_call 64;apply(fj y.1 (lp _ _ _ _) (λ_ _=>nofun) (o1_ b.tl)).mono;rintro e b ⟨rfl,b⟩);try go_ret
 obtain⟨tv',r,st⟩:=b;exact fin.o _ _ ⟨rfl,tv',_,r,((zT.oS hw).trans y.2).trans st⟩
def eo(w:Aw)(X:Az)(br bz B:Nat)(s:BA)(i:Nat)(wr mx:Int)(ts:Ap)(us:As)(zs:Ay)(tv u:Ax)(c:Nat)(w':Aw):Prop:=
 (if bt s i=c then Rep w' X br bz B s (i+1) false wr mx ts us zs tv u else Rep w' X br bz B s i true wr mx ts us zs tv u)/\zT w w' br bz tv u tv u
def FS{w:Aw}{X:Az}{br bz B:Nat}{s:BA}{i:Nat}{wr mx:Int}{ts:Ap}{us:As}{zs:Ay}{tv u:Ax}(R:Rep w X br bz B s i false wr mx ts us zs tv u)(hc:0<c):Calls prog 36 #[P_ br,U_ c] w λe w'=>e=.returned (.tuple #[])/\eo w X br bz B s i wr mx ts us zs tv u c w':=by
 have h1:=R.il;have b:=R.sl;apply(FI R.here R.sl z1_).mono;rintro e w' ⟨rfl,ha,hf⟩;refine⟨rfl,?_⟩;unfold eo;unfold RV.eat at ha;simp only[ag]at ha;by_cases hb:bt s i=c
 .rw[i_ M_]at ha;rw[i_ hb];exact R.move hf ha M_ (zp M_)
 .rw[n_ M_]at ha;rw[n_ hb];exact R.move hf ha M_ h1
def yL{w:Aw}{X:Az}{br bz B:Nat}{s:BA}{i:Nat}{wr mx:Int}{ts:Ap}{us:As}{zs:Ay}{tv u:Ax}{c:Int}(d:Nat)(R:Rep w X br bz B s i false wr mx ts us zs tv u)(hd:c=(d:Int))(hc:0<d):Calls prog 36 #[P_ br,.int .u8 c] w λe w'=>e=.returned (.tuple #[])/\eo w X br bz B s i wr mx ts us zs tv u d w':=by
 subst hd;exact FS R hc
def lf{w:Aw}{X:Az}{br bz B:Nat}{s:BA}{i:Nat}{bad:Aq}{wr mx:Int}{ts:Ap}{us:As}{zs:Ay}{tv u:Ax}(R:Rep w X br bz B s i bad wr mx ts us zs tv u)(v:Nat):jq (w.alloc (.cells #[I_ v] 3)) B tv u (S_ w.heap.size 1 1) [v]:=by
 refine⟨World.ownsRow_lit w #[I_ v] 1 R.hB (by simp[maxLen]) rfl,λg hg=>?_⟩;simp only[Value.ownBlock,af_]at hg;obtain⟨xs,hx,_⟩:=R.tys;exact⟨λe=>o1_ (hx.lt g e),λe=>o1_ (R.uses.lt g e)⟩
def ic{w:Aw}{X:Az}{br bz B:Nat}{s:BA}{i:Nat}{bad:Aq}{wr mx:Int}{ts:Ap}{us:As}{zs:Ay}{tv u:Ax}(R:Rep w X br bz B s i bad wr mx ts us zs tv u){g:Nat}(hg:X g):(Value.slice (some ⟨w.heap.size,0,none⟩) n c).ownBlock≠some g:=by
 have:=(R.av g hg).1;simp only[Value.ownBlock,ne_eq,af_];omega
def cwQI1_{p:Prop}(h:p:=by
 (first|(have:=cc1;refine have fin:H_ (∀(e:Ending) (w':World),(∃v:Nat,e=.returned (I_ v))->(∃mx' ts' us' tv' u',Rep w' X br bz B s j true wr mx' ts' us' zs tv' u'/\ts'.length+i<=j+ts.length/\zT w w' br bz tv u tv' u')->yp w X br bz B s i wr mx ts us zs tv u e w'):=?_;?_)|(refine have fin:H_ (∀(e:Ending) (w':World),e=.returned (.int .i64 (((ts++flat ts.length t).length:Nat):Int))->(∃tv' u',Rep w' X br bz B s (j+1) false wr (mix t mx) ((ts++flat ts.length t)++[⟨c,[ts.length+(flat ts.length t).length-1]⟩]) (us++zZ t) zs tv' u'/\zT w w' br bz tv u tv' u')->yp w X br bz B s i wr mx ts us zs tv u e w'):=?_;?_))
 .intro e w' h1 h2;unfold yp;rw[hPT,hp];(first|(have:=cc1;simp only[hj,if_false])|(simp only[hj,if_true]));(first|(have:=cc1;exact⟨h1,h2⟩)|(refine⟨by rw[h1];simp[flat],?_⟩;simpa[flat,mix,zZ] using h2))
 generalize yp w X br bz B s i wr mx ts us zs tv u=POST at *;generalize hN:ts.length+(flat ts.length t).length-1=N at *;(first|(have:=cc1;have hlen:(ts++flat ts.length t).length<j:=x1_;have hlen2:(ts++flat ts.length t).length+1+i<=j+ts.length:=x1_)|(have hlen:(ts++flat ts.length t).length<j+1:=x1_))
 generalize ts++flat ts.length t=TS at *;generalize us++zZ t=US at *;generalize mix t mx=MX at *;clear hPT hT hp hcnt hN;(try have:=cc1;obtain⟨d,hd⟩:=e_ (xw c);rw[<- hd]at hj);rcases h with rfl|rfl;all_goals
  (first|(have:=cc1;simp[xw]at hd;have hd:H_ (d=_):=hd)|(simp[xw]at hj));go_in;go_wp2_with (first
   |(go_at_call 35;apply(zC R hc).mono;rintro e w1 ⟨rfl,hw⟩;have R1:=R.si hw;have c1:=R1.here.c1;have f1:=R1.here.th 1)
   |(go_at_call 38;apply(hT'.o _ (R1.inc hil).1).mono;rintro e w2 ⟨rfl,hR2⟩;obtain⟨tv2,u2,R2,st2⟩:=hR2.o;have c2:=R2.here.c2)
   |(go_at_call 36;(first|(have:=cc1;apply(yL d R2 (by rw[hd.o];rfl) (by rw[hd.o];decide)).mono)|(apply(yL (bt s j) R2 M_ M_).mono));rintro e w3 ⟨rfl,hE,st3⟩;(first|(have:=cc1;rw[n_ hj]at hE)|(rw[i_ rfl]at hE)))
   |(go_at_call 64;apply(fj (hE.alloc _).1 (lf hE N) (λg hg=>ic hE hg) hlen).mono;rintro e w4 ⟨rfl,hL⟩))
  try go_ret
  obtain⟨tv',r,st⟩:=hL;(first|(have:=cc1;exact fin.o _ _ ⟨_,rfl⟩ ⟨_,_,_,_,_,r,by rw[ag_];exact hlen2,(((((zT.oS hw).trans (R1.inc hil).2).trans st2).trans st3).trans (hE.alloc _).2).trans st⟩)|(exact fin.o _ _ rfl ⟨_,_,r,(((((zT.oS hw).trans (R1.inc hil).2).trans st2).trans st3).trans (hE.alloc _).2).trans st⟩))):p:=h
def QI{s:BA}{i:Nat}(h:bt s i=91\/bt s i=123)(hT:uk s (i+1)):uk s i:=by
 intro w X br bz B wr mx ts us zs tv u R;have hil:i<s.size:=zp M_;have f:=R.sl;have f:=R.tl;have hPT:=sO h;generalize hc:bt s i=c at *;cases hp:pT s (i+1) with
 |error k=>
  have fin:H_ (∀(e:Ending) (w':World),(∃v:Nat,e=.returned (I_ v))->(∃mx' ts' us' tv' u',Rep w' X br bz B s k true wr mx' ts' us' zs tv' u'/\ts'.length+i<=k+ts.length/\zT w w' br bz tv u tv' u')->yp w X br bz B s i wr mx ts us zs tv u e w'):=by
   intro e w' h1 h2;unfold yp;rw[hPT,hp];exact⟨h1,h2⟩
  have hT':H_ (∀(w:World),Rep w X br bz B s (i+1) false wr mx ts us zs tv u->Calls prog 38 #[P_ br] w λe w'=>(∃v:Nat,e=.returned (I_ v))/\H_ (∃mx' ts' us' tv' u',Rep w' X br bz B s k true wr mx' ts' us' zs tv' u'/\ts'.length+(i+1)<=k+ts.length/\zT w w' br bz tv u tv' u')):=by
   intro w R;apply(hT w X br bz B wr mx ts us zs tv u R).mono;intro e w' b;unfold yp at b;rw[hp]at b;exact b
  generalize yp w X br bz B s i wr mx ts us zs tv u=POST at *;rcases h with rfl|rfl;all_goals
   go_in;go_wp2_with (first
    |(go_at_call 35;apply(zC R hc).mono;rintro e w1 ⟨rfl,hw⟩;have R1:=R.si hw;have c1:=R1.here.c1;have f1:=R1.here.th 1)
    |(go_at_call 38;apply(hT'.o _ (R1.inc hil).1).mono;rintro e w2 ⟨⟨v,rfl⟩,hR2⟩;obtain⟨f,f,f,tv2,u2,R2,f,st2⟩:=hR2.o;have c2:=R2.here.c2)
    |(go_at_call 64;apply(fj (R2.alloc _).1 (lf R2 v) (λg hg=>ic R2 hg) M_).mono;rintro e w3 ⟨rfl,hL⟩))
   try go_ret
   obtain⟨tv',r,st⟩:=hL;exact fin.o _ _ ⟨_,rfl⟩ ⟨_,_,_,_,_,r,by simp;omega,((((zT.oS hw).trans (R1.inc hil).2).trans st2).trans (R2.alloc _).2).trans st⟩
 |ok q=>
  obtain⟨t,j⟩:=q;have hcnt:=lK hp ts.length;have f:=(xV (s:=s) (i:=i+1) hil).1 t j hp;have hT':H_ (∀(w:World),Rep w X br bz B s (i+1) false wr mx ts us zs tv u->Calls prog 38 #[P_ br] w λe w'=>e=.returned (Z_ ((ts.length+(flat ts.length t).length-1:Nat):Int))/\H_ (∃tv' u',Rep w' X br bz B s j false wr (mix t mx) (ts++flat ts.length t) (us++zZ t) zs tv' u'/\zT w w' br bz tv u tv' u')):=by
   intro w R;apply(hT w X br bz B wr mx ts us zs tv u R).mono;intro e w' b;unfold yp at b;rw[hp]at b;exact b
  by_cases hj:bt s j=xw c
  .exact cwQI1_
  .have cc1:=Nat;exact cwQI1_
def yE{w:Aw}(h:w.ownsRow base e size v n xs):∃a n c,v=.slice a n c:=by
 rcases h.2 with⟨rfl,_⟩|⟨g,b,_,rfl,_⟩
 .exact⟨_,_,_,rfl⟩
 .exact⟨_,_,_,rfl⟩
def PG(w:Aw)(X:Az)(br bz B:Nat)(s:BA)(wr:Int)(zs:Ay)(tv u:Ax)(Good:Di)(sv:Ax)(w':Aw):Prop:=
 ∃J b MX TS US L tv' u',Good J b MX TS US L/\Rep w' X br bz B s J b wr MX TS US zs tv' u'/\jq w' B tv' u' sv L/\(∀g,X g->sv.ownBlock≠some g)/\TS.length<J/\zT w w' br bz tv u tv' u'
def fH{s:BA}{i:Nat}(hc:bt s i=40)(g:Di)(h:Bt){w:Aw}{X:Az}{br bz B:Nat}{wr mx:Int}{ts:Ap}{us:As}{zs:Ay}{tv u:Ax}(R:Rep w X br bz B s i false wr mx ts us zs tv u)(q:H_ (∀(w:World),Rep w X br bz B s (i+1) false wr mx ts us zs tv u->Calls prog 65 #[P_ br] w λe w'=>∃sv,e=.returned (.agg #[.int .u8 40,sv])/\PG w X br bz B s wr zs tv u g sv w'))(fin:H_ (∀(w':World) (J:Nat) (b:Bool) (MX:Int) (TS:List TR) (US:List (Nat×Nat)) (L:List Nat) (tv' u':Value),g J b MX TS US L->Rep w' X br bz B s J b wr MX (TS++[⟨40,L⟩]) US zs tv' u'->zT w w' br bz tv u tv' u'->h (.returned (I_ TS.length)) w')):Calls prog 38 #[P_ br] w h:=by
 have k:i<s.size:=zp M_;have g:=R.sl;go_in;go_wp2_with (first
  |(go_at_call 35;apply(zC R hc).mono;rintro e w1 ⟨rfl,hw⟩;have f:=R.si hw;have c1:=f.here.c1;have g:=f.here.th 1)
  |(go_at_call 65;apply(q.o _ (f.inc k).1).mono;rintro e g ⟨sv,rfl,g⟩;obtain⟨J,b,MX,TS,US,L,tv2,u2,p,d,m,x,y,st2⟩:=g;obtain⟨g,sn,g,rfl⟩:=yE m.1)
  |(go_at_call 64;apply(fj (d.alloc _).1 ((d.alloc _).2.subs m d.rB d.zB) x y).mono;rintro e g ⟨rfl,g⟩))
 try go_ret
 obtain⟨tv',r,st⟩:=g;exact fin.o _ _ _ _ _ _ _ _ _ p r (((((zT.oS hw).trans (f.inc k).2).trans st2).trans (d.alloc _).2).trans st)
def cwVo1_{p:Prop}(h:p:=by
 (first|(have:=cc1;refine fH hc (λJ b _ TS _ _=>J=j/\b=true/\TS.length+(i+1)<=j+ts.length) _ R ?_ ?_)|(refine fH hc (λJ b _ TS _ _=>J=k/\b=true/\TS.length+(i+1)<=k+ts.length) _ R ?_ ?_))
 .intro w R;apply(hA w X br bz B wr mx ts us zs tv u R).mono;rintro e w' ⟨sv,tv',u',rfl,st,hh⟩;rw[hp]at hh;(try have:=cc1;simp only[hj,if_false]at hh);obtain⟨mx',ts',us',l,r,hl,hs,hx⟩:=hh;(first|(have:=cc1;exact⟨sv,rfl,j,true,mx',ts',us',l,tv',u',⟨rfl,rfl,hl⟩,r,hs,hx,M_,st⟩)|(exact⟨sv,rfl,k,true,mx',ts',us',l,tv',u',⟨rfl,rfl,hl⟩,r,hs,hx,M_,st⟩))
 .rintro w' J b MX TS US L tv' u' ⟨rfl,rfl,hl⟩ r st;unfold yp;rw[hPT,hp];(try have:=cc1;simp only[hj,if_false]);exact⟨⟨_,rfl⟩,_,_,_,_,_,r,by rw[ag_];simp only[au_,av_];omega,st⟩):p:=h
def Vo{s:BA}{i:Nat}(hc:bt s i=40)(hA:GF s (i+1)):uk s i:=by
 intro w X br bz B wr mx ts us zs tv u R;have d:i<s.size:=zp M_;have d:=R.tl;have hPT:=XW hc;cases hp:pA s (i+1) with
 |error k=>
  exact cwVo1_
 |ok q=>
  obtain⟨ds,j⟩:=q;have d:=aU hp ts.length;by_cases hj:bt s j=41
  .refine fH hc (λJ b MX TS US L=>J=j+1/\b=false/\MX=qr [] ds mx/\TS=ts++zN ts.length ds/\US=us++zX ds/\L=jN ts.length ds) _ R ?_ ?_
   .intro w R;apply(hA w X br bz B wr mx ts us zs tv u R).mono;rintro e w' ⟨sv,tv',u',rfl,st,hh⟩;rw[hp]at hh;simp only[hj,if_true]at hh;exact⟨sv,rfl,j+1,false,_,_,_,_,tv',u',⟨rfl,rfl,rfl,rfl,rfl,rfl⟩,hh.1,hh.2.1,hh.2.2,by rw[ag_];omega,st⟩
   .rintro w' J b MX TS US L tv' u' ⟨rfl,rfl,rfl,rfl,rfl,rfl⟩ r st;unfold yp;rw[hPT,hp];simp only[hj,if_true];refine⟨by simp[flat],tv',u',?_,st⟩;simpa[flat,mix,zZ] using r
  .have cc1:=Nat;exact cwVo1_
structure Mid(w:Aw)(X:Az)(br bz B:Nat)(s:BA)(j:Nat)(wg MX:Int)(TS:Ap)(US:As)(zs:Ay)(tv u tv2 u2 sv:Ax)(L:Ao)(W:Aw):Prop where
 R:Rep W (λg=>X g\/g=w.heap.size\/g=w.heap.size+1\/sv.ownBlock=some g) br bz B s j false wg MX TS US zs tv2 u2
 b2:Blk W w.heap.size [.int .u8 0,L_] 169
 b3:Blk W (w.heap.size+1) [.int .u8 40,sv] 169
 ss:jq W B tv2 u2 sv L
 sn:∀g,sv.ownBlock=some g->w.heap.size+2<=g
 st:zT w W br bz tv u tv2 u2
def Xs(w:Aw)(X:Az)(br bz B:Nat)(s:BA)(i:Nat)(wr mx:Int)(ts:Ap)(us:As)(zs:Ay)(tv u:Ax)(n:Nat)(kv mv:Ax)(W:Aw):Prop:=
 ∃(ds:List PT) (i':Nat) (more:Bool) (kb:BA) (sv tv' u':Value),
  kv=.string kb/\mv=.bool more/\kb.data.toList.map UInt8.toNat=ds.map PT.kind/\i+(zN ts.length ds).length<=i'/\ds.length<=i'/\
  Mid w X br bz B s i' wr (qr [] ds mx) (ts++zN ts.length ds) (us++zX ds) zs tv u tv' u' sv (jN ts.length ds) W/\
  s.size+1-i'<=n/\(more=true->pA s i=uj ds (pA s i'))/\(more=false->pA s i=.ok (ds,i'))
def Rep.offS{w:Aw}{X:Az}{br bz B:Nat}{s:BA}{i:Nat}{bad:Aq}{wr mx:Int}{ts:Ap}{us:As}{zs:Ay}{tv u:Ax}(R:Rep w X br bz B s i bad wr mx ts us zs tv u){g:Nat}(hg:X g):¬(g=br\/g=bz\/tv.ownBlock=some g\/u.ownBlock=some g):=by
 obtain⟨_,a,b,c,d⟩:=R.av g hg;rintro(h|h|h|h)
 .exact a h
 .exact b h
 .exact c h
 .exact d h
section
variable {w W W':Aw} {X:Az} {br bz B:Nat} {s:BA} {j:Nat} {wg MX:Int} {TS:Ap} {US:As} {zs:Ay} {tv u tv2 u2 sv:Ax} {L:Ao}
def Mid.call(M:Mid w X br bz B s j wg MX TS US zs tv u tv2 u2 sv L W){j':Nat}{f:Int}{h:Ap}{k:As}{b d:Ax}(m:Rep W' (λg=>X g\/g=w.heap.size\/g=w.heap.size+1\/sv.ownBlock=some g) br bz B s j' false wg f h k zs b d)(st:zT W W' br bz tv2 u2 b d):Mid w X br bz B s j' wg f h k zs tv u b d sv L W':=
 ⟨m,st.fr.bl M.b2 (M.R.offS (.inr (.inl rfl))),st.fr.bl M.b3 (M.R.offS (.inr (.inr (.inl rfl)))),st.subs M.ss M.R.rB M.R.zB,M.sn,M.st.trans st⟩
def Mid.si(M:Mid w X br bz B s j wg MX TS US zs tv u tv2 u2 sv L W)(h:zq W W'):Mid w X br bz B s j wg MX TS US zs tv u tv2 u2 sv L W':=M.call (M.R.si h) (zT.oS h)
def Mid.inc(M:Mid w X br bz B s j wg MX TS US zs tv u tv2 u2 sv L W)(h:j<s.size):Mid w X br bz B s (j+1) wg MX TS US zs tv u tv2 u2 sv L (W.setCell ⟨br,1,none⟩ (Z_ ((j:Int)+1))):=M.call (M.R.inc h).1 (M.R.inc h).2
def Mid.setMx(M:Mid w X br bz B s j wg MX TS US zs tv u tv2 u2 sv L W)(m:Int):Mid w X br bz B s j wg m TS US zs tv u tv2 u2 sv L (W.setCell ⟨br,6,none⟩ (Z_ m)):=M.call (M.R.setMx m).1 (M.R.setMx m).2
def Mid.grow(M:Mid w X br bz B s j wg MX TS US zs tv u tv2 u2 sv L W){a b:Obj}{h:Aw}{f:Ax}(hg:((W.alloc a).alloc b).grownBy h sv.ownBlock)(ho:h.ownsRow B 3 1 f (L.length+1) ((L.map λ(n:Nat)=>Value.int .i64 (n:Int))++[I_ N]))(hl:f.ownBlock=sv.ownBlock\/f.ownBlock=some ((W.alloc a).alloc b).heap.size):Mid w X br bz B s j wg MX TS US zs tv u tv2 u2 f (L++[N]) (h.setCell ⟨w.heap.size+1,1,none⟩ f):=by
 have m:Fr W h (λg=>sv.ownBlock=some g):=Y_ (((A_ W _).alloc a).alloc b) hg (λk e _=>e);have l2:=M.b2.lt;have d:=M.b3.lt;have p:∀g,sv.ownBlock=some g->g≠w.heap.size:=λg hg e=>by have:=M.sn g hg;omega
 have n3:∀g,sv.ownBlock=some g->g≠w.heap.size+1:=λg hg e=>by have:=M.sn g hg;omega
 have hv:∀g,f.ownBlock=some g->w.heap.size+2<=g/\(sv.ownBlock=some g\/W.heap.size<=g):=λg d=>by
  rcases hl with e|e
  .exact⟨M.sn g (e▸d),.inl (e▸d)⟩
  .rw[e]at d;simp only[af_]at d;have:((W.alloc a).alloc b).heap.size=W.heap.size+2:=x6_
   exact⟨M_,.inr M_⟩
 have r:=m.bl M.b2 (λe=>p _ e rfl);have y:=m.bl M.b3 (λe=>n3 _ e rfl);have p:Fr h (h.setCell ⟨w.heap.size+1,1,none⟩ f) (λg=>g=w.heap.size+1):=(A_ h (λg=>g=w.heap.size+1)).setCell ⟨w.heap.size+1,1,none⟩ f (λ_=>rfl);have x:=p.bl r M_;have z:Blk (h.setCell ⟨w.heap.size+1,1,none⟩ f) (w.heap.size+1) [.int .u8 40,f] 169:=y.set 1 f;have r:=zj ho p (λg d e=>o1_ (hv g d));have y:Fr W (h.setCell ⟨w.heap.size+1,1,none⟩ f) (λg=>X g\/g=w.heap.size\/g=w.heap.size+1\/sv.ownBlock=some g):=
  (m.mono (λ_ _ e=>.inr (.inr (.inr e)))).trans p (λ_ _ e=>.inr (.inr (.inl e)))
 have A:Fr W (h.setCell ⟨w.heap.size+1,1,none⟩ f) (λg=>sv.ownBlock=some g\/g=w.heap.size+1):=(m.mono (λ_ _ e=>.inl e)).trans p (λ_ _ e=>.inr e);have m:∀g,f.ownBlock=some g->g<(h.setCell ⟨w.heap.size+1,1,none⟩ f).heap.size:=λg d=>(r.lt g d).2;refine⟨(M.R.o y).fe (λg d=>?_),x,z,⟨by simpa using r,λg d=>?_⟩,λg d=>(hv g d).1,M.st.o A (λg d=>?_)⟩
 .rcases d with e|e|e|e
  .exact .inl (.inl e)
  .exact .inl (.inr (.inl e))
  .exact .inl (.inr (.inr (.inl e)))
  .rcases(hv g e).2 with q|q
   .exact .inl (.inr (.inr (.inr q)))
   .exact .inr ⟨q,m g e⟩
 .rcases(hv g d).2 with q|q
  .exact M.ss.2 g q
  .obtain⟨xs,hx,_⟩:=M.R.tys;exact⟨λe=>o1_ (hx.lt g e),λe=>o1_ (M.R.uses.lt g e)⟩
 .rcases d with e|e
  .have:=M.sn g e;omega
  .omega
def Mid.gC(M:Mid w X br bz B s j wg MX TS US zs tv u tv2 u2 sv L W){a b:Obj}{d:Aw}(hg:((W.alloc a).alloc b).grownBy d sv.ownBlock):d.cell? ⟨w.heap.size+1,1,none⟩=some sv/\d.frozen? ⟨w.heap.size+1,1,none⟩=false:=by
 have f:Fr W d (λg=>sv.ownBlock=some g):=Y_ (((A_ W _).alloc a).alloc b) hg (λk e _=>e);have d:=f.bl M.b3 (λe=>o1_ (M.sn _ e));exact⟨d.cell 1,d.th 1⟩
end
def Ql{w:Aw}{X:Az}{br bz B:Nat}{s:BA}{i:Nat}{wg mx:Int}{ts:Ap}{us:As}{zs:Ay}{tv u:Ax}(R:Rep w X br bz B s i false wg mx ts us zs tv u):Xs w X br bz B s i wg mx ts us zs tv u (s.size+1) (.string ⟨#[]⟩) (.bool true) ((w.alloc (.cells #[.int .u8 0,L_] 169)).alloc (.cells #[.int .u8 40,L_] 169)):=by
 have h1:=R.o (((A_ w X).alloc (.cells #[.int .u8 0,L_] 169)).alloc (.cells #[.int .u8 40,L_] 169));refine⟨[],i,true,⟨#[]⟩,L_,tv,u,rfl,rfl,rfl,by simp[zN],am_ _,⟨?_,(B_ w _ _).alloc _,?_,lp _ _ _ _,λg hg=>by simp[Value.ownBlock]at hg,⟨((A_ w _).alloc _).alloc _,.inl rfl,.inl rfl⟩⟩,M_,λ_=>(nD _).symm,λh=>by cases h⟩
 .have b:=h1.fe (Y:=λg=>X g\/g=w.heap.size\/g=w.heap.size+1\/(Value.slice none 0 0).ownBlock=some g) (λg hg=>by
   rcases hg with hg|hg|hg|hg
   .exact .inl hg
   .exact .inr x1_
   .exact .inr x1_
   .simp[Value.ownBlock]at hg)
  simpa[qr,zN,zX] using b
 .have:=B_ (w.alloc (.cells #[.int .u8 0,L_] 169)) #[.int .u8 40,L_] 169;simpa using this
def Fr.two(w:Aw)(b o1 o2:Nat)(d f:Ax):Fr w ((w.setCell ⟨b,o1,none⟩ d).setCell ⟨b,o2,none⟩ f) (λg=>g=b):=
 ((A_ w (λg=>g=b)).setCell ⟨b,o1,none⟩ d (λ_=>rfl)).setCell ⟨b,o2,none⟩ f (λ_=>rfl)
def J_:=@Fr.two
def PY{w wr f h:Aw}{X:Az}{br bz B:Nat}{s:BA}{i:Nat}{wg mx:Int}{ts:Ap}{us:As}{zs:Ay}{tv u sv:Ax}(R:Rep w X br bz B s i false wg mx ts us zs tv u)(m:pA s i=.ok (ds,i'))(b:if bt s i'=41 then Rep f (λg=>X g\/g=w.heap.size\/g=w.heap.size+1\/sv.ownBlock=some g) br bz B s (i'+1) false wg (qr [] ds mx) (ts++zN ts.length ds) (us++zX ds) zs tv' u'
  else Rep f (λg=>X g\/g=w.heap.size\/g=w.heap.size+1\/sv.ownBlock=some g) br bz B s i' true wg (qr [] ds mx) (ts++zN ts.length ds) (us++zX ds) zs tv' u')(x:zT w wr br bz tv u tv' u')(q:zT wr f br bz tv' u' tv' u')(r:jq wr B tv' u' sv (jN ts.length ds))(p:∀g,sv.ownBlock=some g->w.heap.size+2<=g)(d:Fr f h (λg=>g=w.heap.size)):um w X br bz B s i wg mx ts us zs tv u (.returned (.agg #[.int .u8 40,sv])) h:=by
 have k:jq h B tv' u' sv (jN ts.length ds):=by
  have h1:=q.subs r R.rB R.zB;exact⟨zj h1.1 d (λg hg e=>o1_ (p g hg)),h1.2⟩
 have hX:∀g,X g->sv.ownBlock≠some g:=λg hg e=>by have:=p g e;have:=(R.av g hg).1;omega
 refine⟨sv,tv',u',rfl,(x.trans q).o d (λg hg=>M_),?_⟩;rw[m];simp only;by_cases hb:bt s i'=41
 .rw[i_ hb]at b⊢;exact⟨(b.o (d.mono (λ_ _ e=>.inr (.inl e)))).fe (λg hg=>.inl (.inl hg)),k,hX⟩
 .rw[n_ hb]at b⊢;have hc:=aU m ts.length;exact⟨_,_,_,_,(b.o (d.mono (λ_ _ e=>.inr (.inl e)))).fe (λg hg=>.inl (.inl hg)),by rw[ag_];omega,k,hX⟩
def PZ{w wr d f:Aw}{X:Az}{br bz B:Nat}{s:BA}{i k:Nat}{wg mx x:Int}{ts h:Ap}{us z:As}{zs:Ay}{tv u tv2 u2 sv:Ax}(R:Rep w X br bz B s i false wg mx ts us zs tv u)(r:pA s i=.error k)(p:Rep d (λg=>X g\/g=w.heap.size\/g=w.heap.size+1\/sv.ownBlock=some g) br bz B s k true wg x h z zs tv2 u2)(hl:h.length+i<=k+ts.length)(y:zT w wr br bz tv u tv' u')(m:zT wr d br bz tv' u' tv2 u2)(x:jq wr B tv' u' sv l)(h:∀g,sv.ownBlock=some g->w.heap.size+2<=g)(b:Fr d f (λg=>g=w.heap.size)):um w X br bz B s i wg mx ts us zs tv u (.returned (.agg #[.int .u8 40,sv])) f:=by
 have q:jq f B tv2 u2 sv l:=by
  have h1:=m.subs x R.rB R.zB;exact⟨zj h1.1 b (λg hg e=>o1_ (h g hg)),h1.2⟩
 have hX:∀g,X g->sv.ownBlock≠some g:=λg hg e=>by have:=h g e;have:=(R.av g hg).1;omega
 refine⟨sv,tv2,u2,rfl,(y.trans m).o b (λg hg=>M_),?_⟩;rw[r];exact⟨_,_,_,_,(p.o (b.mono (λ_ _ e=>.inr (.inl e)))).fe (λg hg=>.inl (.inl hg)),hl,q,hX⟩
def nu{w:Aw}{X:Az}{br bz B:Nat}{s:BA}{i:Nat}{bad:Aq}{wr mx:Int}{ts f:Ap}{us:As}{zs:Ay}{tv u:Ax}(R:Rep w X br bz B s i bad wr mx (ts++f) us zs tv u)(m:N=ts.length+f.length-1)(hp:0<f.length)(hk:(f[f.length-1]?).map TR.kind=some c):∃g k,N+1<=k/\w.cell? ⟨g,N*2,none⟩=some (U_ c)/\w.cell? ⟨bz,0,none⟩=some (S_ g (N+1) k):=by
 obtain⟨xs,hx,o⟩:=R.tys;have hl:(ts++f).length=N+1:=by rw[ag_];omega
 rw[hl]at hx;obtain⟨g,k,rfl⟩:=zg hx M_;cases m:f[f.length-1]? with
 |none=>rw[m]at hk;cases hk
 |some t=>
  rw[m]at hk;simp only[by_,af_]at hk;obtain⟨sv,a,b,d,p⟩:=o N t (by rw[aw_ M_,show N-ts.length=f.length-1 by omega];exact m);refine⟨g,k,?_,?_,?_⟩
  .rcases hx.2 with⟨h,_⟩|⟨_,_,_,h,_,_,hc,_⟩
   .cases h
   .cases h;exact hc
  .rw[hx.cellAt _ M_,bh_,a,hk]
  .rw[R.z.cell];rfl
def GS:Tryz.prog.underlying 94=some (.slice 5):=K_
def BW:Tryz.prog.underlying 5=some (.int .u8):=K_
def wM:Tryz.prog.underlying 9=some .string:=K_
def QH:Tryz.prog.underlying 167=some (.slice 3):=K_
def MO:(Tryz.prog.info? 3).map (λi=>(i.zero,i.size,i.bytes))=some (some (O_),1,8):=K_
def rQ(W:Aw)(g:Nat)(c:Int)(hg:W.heap.size=g):(convert 94 9 (S_ g 1 1)).run prog (W.alloc (.cells #[.int .u8 c] 5))=.ok (.string ⟨#[UInt8.ofNat c.toNat]⟩) (W.alloc (.cells #[.int .u8 c] 5)):=by
 subst hg;rw[run_convert_bytes_string _ _ _ _ _ _ _ GS BW wM];have hl:=run_loadCells_list (P:=prog) (W.alloc (.cells #[.int .u8 c] 5)) ⟨W.heap.size,0,none⟩ ([c].map (Value.int .u8)) (zK W #[.int .u8 c] 5 _ rfl);rw[run_bytesToString _ _ 1 1 [c] yv_];rfl
def kA(s:BA)(c:Nat):0<=plc s c↔c∈s.data.toList.map UInt8.toNat:=by
 unfold plc;cases h:s.data.toList.findIdx? (λb=>b.toNat==c) with
 |none=>
  rw[List.findIdx?_eq_none_iff]at h;constructor
  .intro h;simp at h
  .intro hm;obtain⟨b,hb,rfl⟩:=a7_.1 hm;have:=h b hb;simp at this
 |some k=>
  rw[List.findIdx?_eq_some_iff_getElem]at h;obtain⟨hk,hb,_⟩:=h;constructor
  .intro _;exact a7_.2 ⟨_,bi_ hk,by simpa using hb⟩
  .intro _;simp
def Fm{s:BA}{i:Nat}{j:Nat}(h:pT s i=.ok (t,j)):t.kind=bt s i:=by
 have cc1:=Nat
 exact cq13_
def iX(h:kb.data.toList.map UInt8.toNat=l)(hc:c<256):(kb++⟨#[UInt8.ofNat c]⟩:BA).data.toList.map UInt8.toNat=l++[c]:=by
 subst h;have:(kb++⟨#[UInt8.ofNat c]⟩:BA).data=kb.data++#[UInt8.ofNat c]:=by simp[ByteArray.data_append]
 rw[this];simp;omega
def cH{mx MX:Int}(d:kb.data.toList.map UInt8.toNat=ds.map PT.kind)(f:t.place=i')(b:mix t (qr [] ds mx)=MX)(h:(t.kind=40\/0<=plc kb t.kind)/\(MX<0\/(i':Int)<MX)):(i':Int)=qG (ds.map PT.kind) t (mix t (qr [] ds mx)):=by
 rw[b,qG,f,<- d];simp only[<- kA];rw[i_ h]
def bJ{mx MX:Int}(d:kb.data.toList.map UInt8.toNat=ds.map PT.kind)(f:t.place=i')(b:mix t (qr [] ds mx)=MX)(h:¬((t.kind=40\/0<=plc kb t.kind)/\(MX<0\/(i':Int)<MX))):MX=qG (ds.map PT.kind) t (mix t (qr [] ds mx)):=by
 rw[b,qG,f,<- d];simp only[<- kA];rw[n_ h]
def qz{w W:Aw}{X:Az}{br bz B:Nat}{s:BA}{i j:Nat}{wg mx MX:Int}{ts:Ap}{us:As}{zs:Ay}{tv u tv2 u2 sv:Ax}(n:Nat)(more:Aq)(j':Nat)(hp:pT s i'=.ok (t,j))(hi:i'<=s.size)(o:kb.data.toList.map UInt8.toNat=ds.map PT.kind)(x:i+(zN ts.length ds).length<=i')(x:ds.length<=i')(k:pA s i=uj ds (pA s i'))(f:N=(ts++zN ts.length ds).length+(flat (ts++zN ts.length ds).length t).length-1)(m:MX=qG (ds.map PT.kind) t (mix t (qr [] ds mx)))(M:Mid w X br bz B s j' wg MX ((ts++zN ts.length ds)++flat (ts++zN ts.length ds).length t) ((us++zX ds)++zZ t) zs tv u tv2 u2 sv (jN ts.length ds++[N]) W)(hn:s.size+1-j'<=n)(hm:(more=true/\j'=j+1/\bt s j=44)\/(more=false/\j'=j/\bt s j≠44)):Xs w X br bz B s i wg mx ts us zs tv u n (.string (kb++⟨#[UInt8.ofNat t.kind]⟩)) (.bool more) W:=by
 have hb:=(xV hi).1 t j hp;have hc:=lK hp (ts.length+(zN ts.length ds).length);have hk:t.kind<256:=by rw[Fm hp];exact rG _ _
 have b:=ip s i' hi;rw[hp]at b;simp only at b;have g:=rf ts.length ds t;have r:=tC ts.length ds t;rw[ag_]at M f;refine⟨ds++[t],j',more,_,sv,tv2,u2,rfl,rfl,by rw[iX o hk,bf_];rfl,by rw[g,ag_];omega,by rw[ag_];simp only[au_,av_];omega,?_,hn,λq=>?_,λp=>?_⟩
 .rw[g,r,pM,Jg,<- bx_,<- bx_,<- f,bq_,<- m];exact M
 .rcases hm with⟨_,rfl,d⟩|⟨h,_⟩
  .rw[k,b,i_ d,cz]
  .rw[q]at h;cases h
 .rcases hm with⟨h,_⟩|⟨_,rfl,d⟩
  .rw[p]at h;cases h
  .rw[k,b,n_ d];rfl
end Go.Proofs.YtokgeopihcopeaaGreatDoor
