import Derived.Test.YtjkiencmjggakaaGreatDoorW00
import Derived.Deep.RegionLaw
import Derived.Deep.LoopGhost
set_option maxHeartbeats 16000000
set_option maxRecDepth 100000
set_option linter.defProp false
set_option linter.unusedSimpArgs false
open Go.Proofs.Tryz
namespace Go.Proofs.YtjkiencmjggakaaGreatDoor
open Go.RowKit
variable {n c base size i' N:Nat}{u' tv' v:Value}{xs:List Value}{e:TypeId}{l:List Nat}{ds:List PT}{t:PT}{kb:BA}{a:World}
def qy{P:Program}{g:Array Oper}{o:Oper}{a:Act}{w:World}{K:Act->World->Prop}{Q:Exit->Act->World->Prop}{E:Prop}(hg:o.guard=none)(s x:Operand)(t:TypeId)(F:o.op=Op.call { callee:=Callee.builtin Builtin.append,args:=#[s,x],argTypes:=#[t,t] })(base:Nat)(e:TypeId)(i:TypeInfo)(z:Value)(size bytes:Nat)(h1:P.underlying t=some (.slice e))(k:P.info? e=some i)(p:i.zero=some z)(q:i.size=size)(r:i.bytes=bytes)(y:z.cells.size=size)(A:0<size)(v:Value)(n:Nat)(xs:List Value)(hs:a.eval s=v)(G:w.ownsRow base e size v n xs)(f:Addr)(m c:Nat)(d:List Value)(hx:a.eval x=.slice (some f) m c)(hn:d.length=m*size)(hc:∀j u,d[j]?=some u->w.cell? (f.add j)=some u)(h:∀u∈d,u.oneCell'=true)(b1:n+m<=maxLen)(b2:(n+m)*bytes<=140737488355328)(D:base<=w.heap.size)(C:∀b w',w'.ownsRow base e size b (n+m) (xs++d)->w.grownBy w' v.ownBlock->(b.ownBlock=v.ownBlock\/b.ownBlock=some w.heap.size)->K (a.put o.dst b) w'):if Region.wanted o (yielded g a.tmps)=true then Oper.wp P o a w K Q else E:=by
 have hw:Region.wanted o (yielded g a.tmps)=true:=by simp[Region.wanted,hg]
 rw[i_ hw];obtain⟨b,w',g,r1,H,_,I⟩:=run_append_own_at (P:=P) w base t o.type e i z size bytes h1 k p q r y A v n xs G f m c d hn hc h b1 b2 D;unfold Oper.wp;simp[execOp,F,resolve,invoke,builtin,hs,hx,g,Result.andThen];exact C b w' r1 H I
def zj{w w':World}{S:Nat->Prop}(h:w.ownsRow base e size v n xs)(hf:Fr w w' S)(d:∀g,v.ownBlock=some g->¬S g):w'.ownsRow base e size v n xs:=by
 refine⟨h.1,?_⟩;rcases h.2 with h0|⟨g,cap,b,rfl,hb,hg,f⟩
 .exact .inl h0
 .refine .inr ⟨g,cap,b,rfl,hb,?_,f⟩;rw[hf.block g (by exact(Array.getElem?_eq_some_iff.1 hg).1) (d g rfl)];exact hg
def GQ:Tryz.prog.underlying 41=some (.slice 75):=K_
def Fd:(Tryz.prog.info? 75).map (λi=>(i.zero,i.size,i.bytes))=some (some (.agg #[.int .u8 0,L_]),2,32):=K_
def zN(w:World)(cs:Array Value)(t:TypeId)(g:Nat)(hg:g=w.heap.size):∀j u,cs.toList[j]?=some u->(w.alloc (.cells cs t)).cell? ((⟨g,0,none⟩:Addr).add j)=some u:=by
 intro j u h;subst hg;have:=(B_ w cs t).cell j;unfold Addr.add;split
 .rename_i b;subst b;rw[this];exact h
 .simp only[bn_];rw[this];exact h
def zm{w:World}(h:w.ownsRow base e size v n xs)(hn:0<n):∃g cap,v=S_ g n cap:=by
 rcases h.2 with⟨_,h0⟩|⟨g,cap,_,hv,_⟩
 .omega
 .exact⟨g,cap,hv⟩
def jF{w:World}{k:Nat}(h:w.ownsRow base e size v n xs)(hk:k<base):v.ownBlock≠some k:=λe=>by
 have:=h.lt k e;omega
def Blk.ce{w:World}{b t:Nat}{cs:List Value}(h:Blk w b cs t)(o:Nat)(x:Obj):(w.alloc x).cell? ⟨b,o,none⟩=cs[o]?:=(h.alloc x).cell o
def WH(w:World)(br:Nat)(s:BA)(bz:Nat)(σ:RV)(zs:List Value)(tv k sv:Value)(B n:Nat)(xs:List Value)(w':World):Prop:=
 ∃tv',RAt w' br s bz σ/\Blk w' bz (tv'::zs) 47/\w'.ownsRow B 75 2 tv' (n+1) (xs++[k,sv])/\Fr w w' (λx=>x=bz\/tv.ownBlock=some x)/\(tv'.ownBlock=tv.ownBlock\/∃g,tv'.ownBlock=some g/\w.heap.size<=g)
def Wq{w:World}{br:Nat}{s:BA}{bz:Nat}{σ:RV}{zs:List Value}{tv k sv:Value}{B:Nat}(h:RAt w br s bz σ)(hz:Blk w bz (tv::zs) 47)(r:w.ownsRow B 75 2 tv n xs)(hk:k.oneCell'=true)(I:sv.oneCell'=true)(hn:n<=1000)(hB:B<=w.heap.size)(b:br<B)(D:bz<B)(H:br≠bz):Calls prog 62 #[P_ br,.agg #[k,sv]] w λe w'=>e=.returned (z_ n)/\WH w br s bz σ zs tv k sv B n xs w':=by
 obtain⟨ti,z,A,C,E⟩:=info_parts Fd;have hX:∀W,Fr w W N_->W.ownsRow B 75 2 tv n xs:=λW hf=>zj r hf (λ_ _=>id);have F:=jF r b;have G:=jF r D;go_in;go_wp2;have h1:RAt (w.alloc (.cells #[k,sv] 75)) br s bz σ:=C_ h _;have b:=C_ hz (.cells #[k,sv] 75);have o:=B_ w #[k,sv] 75;have p:Fr w (w.alloc (.cells #[k,sv] 75)) N_:=(A_ w _).alloc _;generalize w.alloc (.cells #[k,sv] 75)=W1 at *;have c3:=h1.c3;have q:=λx=>Blk.ce h1 3 x;have z0:=b.cell 0;have y:=λx=>b.ce 0 x;have b0:=o.cell 0;have b1:=o.cell 1;simp only[aa_,ab_,RV.cells]at q z0 y b0 b1;refine tr_ 16 (λW=>f_ W br 3 (P_ bz)/\f_ W bz 0 tv/\f_ W w.heap.size 0 k/\f_ W w.heap.size 1 sv) ?_;refine tb_ 0 rfl K_ (λ_ _ _ h=>h) (by rfl) (by intro W b;obtain⟨d,f,q3,m⟩:=b;go_simp;rfl) ?_;refine tb_ 1 rfl K_ (λ_ _ _ h=>h) (by rfl) (by intro W b;obtain⟨d,f,q3,m⟩:=b;go_simp;rfl) ?_;refine tb_ 2 rfl K_ (λ_ _ _ h=>h) (by rfl) (by intro W b;obtain⟨d,f,q3,m⟩:=b;go_simp;rfl) ?_;refine tb_ 3 rfl K_ (λ_ _ _ h=>h) (by rfl) (by intro W b;obtain⟨d,f,q3,m⟩:=b;go_simp;rfl) ?_;refine tb_ 4 rfl K_ (λ_ _ _ h=>h) (by rfl) (by intro W b;obtain⟨d,f,q3,m⟩:=b;go_simp;rfl) ?_;refine tb_ 5 rfl K_ (λ_ _ _ h=>h) (by rfl) (by intro W b;obtain⟨d,f,q3,m⟩:=b;go_simp;rfl) ?_;refine tb_ 6 rfl K_ (λ_ _ _ h=>h) (by rfl) (by intro W b;obtain⟨d,f,q3,m⟩:=b;go_simp;rfl) ?_;refine tb_ 7 rfl K_ (λ_ _ _ h=>h) (by rfl) (by intro W b;obtain⟨d,f,q3,m⟩:=b;go_simp;rfl) ?_;refine tb_ 8 rfl K_ (λ_ _ _ h=>h) (by rfl) (by intro W b;obtain⟨d,f,q3,m⟩:=b;go_simp;rfl) ?_;refine tb_ 9 rfl K_ (λ_ _ _ h=>h) (by rfl) (by intro W b;obtain⟨d,f,q3,m⟩:=b;go_simp;rfl) ?_;refine tb_ 10 rfl K_ (λ_ _ _ h=>h) (by rfl) (by intro W b;obtain⟨d,f,q3,m⟩:=b;go_simp;rfl) ?_;refine tb_ 11 rfl K_ (λ_ _ _ h=>h) (by rfl) (by intro W b;obtain⟨d,f,q3,m⟩:=b;go_simp;rfl) ?_;refine t1_ 12 ⟨c3,z0,b0,b1⟩ ?_;have q:=q (.cells #[k,sv] 75);have y:=y (.cells #[k,sv] 75);have b:=(o.alloc (.cells #[k,sv] 75)).cell 0;have d:=(o.alloc (.cells #[k,sv] 75)).cell 1;refine zw 13 rfl K_ (λ_=>⟨q,y,b,d⟩) (λK b=>?_);refine qy rfl (.tmp 15) (.tmp 17) 41 rfl B 75 ti _ 2 32 GQ z A C E rfl D_ tv n xs (by simp[Act.eval]) (hX _ ((p.alloc _).drew)) _ 1 1 [k,sv] (by simp[Act.eval];rfl) (by simp) (zN _ _ _ _ (by simp)) (by simp[hk,I]) (by simp[maxLen];omega) M_ (by have:=p.size;simp;omega) ?_;intro d w' ho q C;refine b _ _ ?_;have m:Fr w w' (λx=>tv.ownBlock=some x):=a_ (((p.mono v_).alloc _).drew) q (λk e _=>e);have A:RAt w' br s bz σ:=m.bl h F;have z:=m.bl hz G;have f:=A.c3;have y:=z.c0;have b:=z.th 0;have n3:=Fr.bl (a_ (((A_ W1 (λx=>tv.ownBlock=some x)).alloc _).drew) q (λk e _=>e)) o (λe=>by have:=r.lt _ e;omega);have o:d.ownBlock=tv.ownBlock\/∃g,d.ownBlock=some g/\w.heap.size<=g:=C.imp id (λe=>⟨_,e,by have:=p.size;simp;omega⟩);have b:=n3.cell 0;have d:=n3.cell 1;obtain⟨g,cap,rfl⟩:=zm ho M_;refine t1_ 14 ⟨f,y,b,d⟩ ?_;refine t1_ 15 ⟨f,y,b,d⟩ ?_;refine t1_ 16 ⟨f,y,b,d⟩ ?_;refine td_ ?_ _;go_wp2;go_ret;refine⟨rfl,?_⟩;exact⟨_,F_ A _ H,T_ z 0 _,zj ho (Y_ _ _ _) (λg hg e=>jF ho D (by rw[hg];exact congrArg some e)),Fr.setCell (m.mono (λ_ _ e=>.inr e)) _ _ (λ_=>.inl rfl),o⟩
def vF(w:World)(B:Nat)(tv u sv:Value)(l:List Nat):Prop:=
 w.ownsRow B 3 1 sv l.length (l.map λ(n:Nat)=>Value.int .i64 (n:Int))/\∀g,sv.ownBlock=some g->tv.ownBlock≠some g/\u.ownBlock≠some g
def Bx(w:World)(X:Nat->Prop)(B:Nat)(tv u:Value)(ts:List TR):Prop:=
 ∃xs,w.ownsRow B 75 2 tv ts.length xs/\∀k t,ts[k]?=some t->∃sv,xs[2*k]?=some (U_ t.kind)/\xs[2*k+1]?=some sv/\vF w B tv u sv t.subs/\∀g,X g->sv.ownBlock≠some g
def vI(us:List (Nat×Nat)):List Value:=us.flatMap λp=>[U_ p.1,I_ p.2]
structure Rep(w:World)(X:Nat->Prop)(br bz B:Nat)(s:BA)(i:Nat)(bad:Bool)(wr mx:Int)(ts:List TR)(us:List (Nat×Nat))(zs:List Value)(tv u:Value):Prop where
 here:RAt w br s bz ⟨i,bad,u,wr,mx⟩
 z:Blk w bz (tv::zs) 47
 tys:Bx w X B tv u ts
 uses:w.ownsRow B 70 2 u us.length (vI us)
 apart:∀g,tv.ownBlock=some g->u.ownBlock≠some g
 rB:br<B
 zB:bz<B
 hB:B<=w.heap.size
 rz:br≠bz
 il:i<=s.size
 sl:s.size<=300
 tl:ts.length<=i
 ul:us.length<=i
 av:∀g,X g->g<w.heap.size/\g≠br/\g≠bz/\tv.ownBlock≠some g/\u.ownBlock≠some g
structure zC(w w':World)(br bz:Nat)(tv u tv' u':Value):Prop where
 fr:Fr w w' (λx=>x=br\/x=bz\/tv.ownBlock=some x\/u.ownBlock=some x)
 tvb:tv'.ownBlock=tv.ownBlock\/∃g,tv'.ownBlock=some g/\w.heap.size<=g
 ub:u'.ownBlock=u.ownBlock\/∃g,u'.ownBlock=some g/\w.heap.size<=g
def zC.refl(w:World)(br bz:Nat)(tv u:Value):zC w w br bz tv u tv u:=⟨A_ _ _,.inl rfl,.inl rfl⟩
def zC.trans{b c:World}{br bz:Nat}{tv u d f:Value}(h:zC a b br bz tv u tv' u')(k:zC b c br bz tv' u' d f):zC a c br bz tv u d f:=by
 refine⟨h.fr.trans k.fr (λx hx d=>?_),?_,?_⟩
 .rcases d with e|e|e|e
  .exact .inl e
  .exact .inr (.inl e)
  .rcases h.tvb with q|⟨g,q,hg⟩
   .exact .inr (.inr (.inl (q▸e)))
   .rw[q]at e;cases e;omega
  .rcases h.ub with q|⟨g,q,hg⟩
   .exact .inr (.inr (.inr (q▸e)))
   .rw[q]at e;cases e;omega
 .rcases k.tvb with q|⟨g,q,hg⟩
  .rw[q];exact h.tvb
  .exact .inr ⟨g,q,ak_ h.fr.size hg⟩
 .rcases k.ub with q|⟨g,q,hg⟩
  .rw[q];exact h.ub
  .exact .inr ⟨g,q,ak_ h.fr.size hg⟩
def zC.subs{w w':World}{br bz B:Nat}{tv u sv:Value}(h:zC w w' br bz tv u tv' u')(hs:vF w B tv u sv l)(hr:br<B)(hz:bz<B):vF w' B tv' u' sv l:=by
 refine⟨zj hs.1 h.fr (λg hg b=>?_),λg hg=>?_⟩
 .have:=hs.1.lt g hg;rcases b with e|e|e|e
  .omega
  .omega
  .exact(hs.2 g hg).1 e
  .exact(hs.2 g hg).2 e
 .have:=hs.1.lt g hg;refine⟨λe=>?_,λe=>?_⟩
  .rcases h.tvb with q|⟨x,q,hx⟩
   .exact(hs.2 g hg).1 (q▸e)
   .rw[q]at e;cases e;omega
  .rcases h.ub with q|⟨x,q,hx⟩
   .exact(hs.2 g hg).2 (q▸e)
   .rw[q]at e;cases e;omega
def uH(w:World)(B:Nat)(tv u:Value):vF w B tv u (L_) []:=⟨World.ownsRow_nil _ _ _ _,λg hg=>by simp[Value.ownBlock]at hg⟩
section
variable {w w':World} {X:Nat->Prop} {br bz B:Nat} {s:BA} {i j:Nat} {bad bad':Bool} {wr mx wr' mx':Int} {ts:List TR} {us:List (Nat×Nat)} {zs:List Value} {tv u:Value}
def Rep.move(R:Rep w X br bz B s i bad wr mx ts us zs tv u)(hf:Fr w w' (· = br))(ha:RAt w' br s bz ⟨j,bad',u,wr',mx'⟩)(h1:i<=j)(h:j<=s.size):Rep w' X br bz B s j bad' wr' mx' ts us zs tv u/\zC w w' br bz tv u tv u:=by
 have f:zC w w' br bz tv u tv u:=⟨hf.mono (λ_ _ e=>.inl e),.inl rfl,.inl rfl⟩;refine⟨⟨ha,hf.bl R.z (Ne.symm R.rz),?_,zj R.uses hf (λg hg e=>jF R.uses R.rB (e▸hg)),R.apart,R.rB,R.zB,ak_ R.hB hf.size,R.rz,h,R.sl,ak_ R.tl h1,ak_ R.ul h1,λg hg=>⟨bb_ (R.av g hg).1 hf.size,(R.av g hg).2⟩⟩,f⟩;obtain⟨xs,hx,hk⟩:=R.tys;refine⟨xs,zj hx hf (λg hg e=>jF hx R.rB (e▸hg)),λk t h=>?_⟩;obtain⟨sv,a,b,c,d⟩:=hk k t h;exact⟨sv,a,b,f.subs c R.rB R.zB,d⟩
def Rep.si(R:Rep w X br bz B s i bad wr mx ts us zs tv u)(hw:zq w w'):Rep w' X br bz B s i bad wr mx ts us zs tv u:=by
 obtain⟨n,rfl⟩:=hw;exact⟨R.here,R.z,R.tys,R.uses,R.apart,R.rB,R.zB,R.hB,R.rz,R.il,R.sl,R.tl,R.ul,R.av⟩
def zC.si(h:zC a w br bz tv u tv' u')(hw:zq w w'):zC a w' br bz tv u tv' u':=⟨h.fr.si hw,h.tvb,h.ub⟩
def zC.oS(hw:zq w w'):zC w w' br bz tv u tv u:=(zC.refl w br bz tv u).si hw
def Rep.inc(R:Rep w X br bz B s i bad wr mx ts us zs tv u)(h:i<s.size):Rep (w.setCell ⟨br,1,none⟩ (z_ ((i:Int)+1))) X br bz B s (i+1) bad wr mx ts us zs tv u/\zC w (w.setCell ⟨br,1,none⟩ (z_ ((i:Int)+1))) br bz tv u tv u:=
 R.move (Y_ _ _ _) (RAt.setI R.here (i+1)) M_ M_
def Rep.sp(R:Rep w X br bz B s i bad wr mx ts us zs tv u):Rep (w.setCell ⟨br,2,none⟩ (.bool true)) X br bz B s i true wr mx ts us zs tv u/\zC w (w.setCell ⟨br,2,none⟩ (.bool true)) br bz tv u tv u:=
 R.move (Y_ _ _ _) (RAt.setBad R.here true) l_ R.il
def Rep.setMx(R:Rep w X br bz B s i bad wr mx ts us zs tv u)(m:Int):Rep (w.setCell ⟨br,6,none⟩ (z_ m)) X br bz B s i bad wr m ts us zs tv u/\zC w (w.setCell ⟨br,6,none⟩ (z_ m)) br bz tv u tv u:=
 R.move (Y_ _ _ _) (RAt.setMx R.here m) l_ R.il
def Rep.fe(R:Rep w X br bz B s i bad wr mx ts us zs tv u){Y:Nat->Prop}(f:∀g,Y g->X g):Rep w Y br bz B s i bad wr mx ts us zs tv u:=by
 refine⟨R.here,R.z,?_,R.uses,R.apart,R.rB,R.zB,R.hB,R.rz,R.il,R.sl,R.tl,R.ul,λg hg=>R.av g (f g hg)⟩;obtain⟨xs,hx,hk⟩:=R.tys;refine⟨xs,hx,λk t h=>?_⟩;obtain⟨sv,a,b,c,d⟩:=hk k t h;exact⟨sv,a,b,c,λg hg=>d g (f g hg)⟩
def Rep.o(R:Rep w X br bz B s i bad wr mx ts us zs tv u)(hf:Fr w w' X):Rep w' (λg=>X g\/(w.heap.size<=g/\g<w'.heap.size)) br bz B s i bad wr mx ts us zs tv u:=by
 obtain⟨xs,hx,hk⟩:=R.tys;have hb:=R.here.lt;have f:=R.z.lt;refine⟨hf.bl R.here (λh=>(R.av _ h).2.1 rfl),hf.bl R.z (λh=>(R.av _ h).2.2.1 rfl),⟨xs,zj hx hf (λg hg h=>(R.av g h).2.2.2.1 hg),λk t f=>?_⟩,zj R.uses hf (λg hg h=>(R.av g h).2.2.2.2 hg),R.apart,R.rB,R.zB,ak_ R.hB hf.size,R.rz,R.il,R.sl,R.tl,R.ul,λg hg=>?_⟩
 .obtain⟨sv,a,b,c,d⟩:=hk k t f;refine⟨sv,a,b,⟨zj c.1 hf (λg hg h=>d g h hg),c.2⟩,λg hg=>?_⟩;rcases hg with hg|hg
  .exact d g hg
  .intro e;have:=c.1.lt g e;omega
 .rcases hg with hg|hg
  .exact⟨bb_ (R.av g hg).1 hf.size,(R.av g hg).2⟩
  .refine⟨hg.2,M_,M_,λe=>?_,λe=>?_⟩
   .have:=hx.lt g e;omega
   .have:=R.uses.lt g e;omega
def zC.o(h:zC a w br bz tv u tv' u')(hf:Fr w w' X)(hX:∀g,X g->a.heap.size<=g):zC a w' br bz tv u tv' u':=
 ⟨h.fr.trans hf (λx hx b=>absurd (hX x b) M_),h.tvb,h.ub⟩
def Rep.alloc(R:Rep w X br bz B s i bad wr mx ts us zs tv u)(o:Obj):Rep (w.alloc o) X br bz B s i bad wr mx ts us zs tv u/\zC w (w.alloc o) br bz tv u tv u:=
 ⟨(R.o ((A_ w _).alloc o)).fe (λ_ h=>.inl h),⟨(A_ w _).alloc o,.inl rfl,.inl rfl⟩⟩
end
def Py(w:World)(X:Nat->Prop)(br bz B:Nat)(s:BA)(i:Nat)(bad:Bool)(wr mx:Int)(ts:List TR)(us:List (Nat×Nat))(zs:List Value)(tv u:Value)(c:Nat)(l:List Nat)(w':World):Prop:=
 ∃tv',Rep w' X br bz B s i bad wr mx (ts++[⟨c,l⟩]) us zs tv' u/\zC w w' br bz tv u tv' u
def Yo{w:World}(h:w.ownsRow base e size v n xs):v.oneCell'=true:=by
 rcases h.2 with⟨rfl,_⟩|⟨g,cap,_,rfl,_⟩<;>rfl
def wM{w:World}{X:Nat->Prop}{br bz B:Nat}{s:BA}{i:Nat}{bad:Bool}{wr mx:Int}{ts:List TR}{us:List (Nat×Nat)}{zs:List Value}{tv u sv:Value}(R:Rep w X br bz B s i bad wr mx ts us zs tv u)(hs:vF w B tv u sv l)(y:∀g,X g->sv.ownBlock≠some g)(hl:ts.length<i):Calls prog 62 #[P_ br,.agg #[U_ c,sv]] w λe w'=>e=.returned (I_ ts.length)/\Py w X br bz B s i bad wr mx ts us zs tv u c l w':=by
 obtain⟨xs,hx,hk⟩:=R.tys;have f:=R.il;have f:=R.sl;apply(Wq R.here R.z hx rfl (Yo hs.1) M_ R.hB R.rB R.zB R.rz).mono;rintro e w' ⟨rfl,tv',h1,f,r,m,o⟩;refine⟨rfl,tv',?_⟩;have p:zC w w' br bz tv u tv' u:=⟨m.mono (λ_ _ e=>e.elim (λe=>.inr (.inl e)) (λe=>.inr (.inr (.inl e)))),o,.inl rfl⟩;have A:=hx.1;refine⟨⟨h1,f,⟨xs++[U_ c,sv],by simpa using r,λk t f=>?_⟩,?_,?_,R.rB,R.zB,ak_ R.hB m.size,R.rz,R.il,R.sl,by rw[ai_];exact hl,R.ul,λg hg=>?_⟩,p⟩
 .by_cases r:k<ts.length
  .rw[ar_ r]at f;obtain⟨sv',a,b,d,r⟩:=hk k t f;exact⟨sv',by rw[ar_ M_];exact a,by rw[ar_ M_];exact b,p.subs d R.rB R.zB,r⟩
  .rw[as_ M_]at f;have r:k-ts.length=0:=by
    rcases Nat.eq_zero_or_pos (k-ts.length) with h|h
    .exact h
    .rw[a4_ (by simp;omega)]at f;cases f
   rw[r]at f;simp only[aa_,ah_]at f;subst f;have f:k=ts.length:=M_;refine⟨sv,?_,?_,p.subs hs R.rB R.zB,y⟩
   .rw[as_ M_,show 2*k-xs.length=0 by omega];rfl
   .rw[as_ M_,show 2*k+1-xs.length=1 by omega];rfl
 .refine zj R.uses m (λg hg e=>?_);rcases e with e|e
  .exact jF R.uses R.zB (e▸hg)
  .exact R.apart g e hg
 .intro g hg hu;rcases o with q|⟨x,q,C⟩
  .exact R.apart g (q▸hg) hu
  .rw[q]at hg;cases hg;have:=R.uses.lt _ hu;omega
 .obtain⟨f,p,r,y,A⟩:=R.av g hg;refine⟨bb_ f m.size,p,r,λe=>?_,A⟩;rcases o with q|⟨x,q,C⟩
  .exact y (q▸e)
  .rw[q]at e;cases e;omega
def zK{w:World}{X:Nat->Prop}{br bz B:Nat}{s:BA}{i:Nat}{wr mx:Int}{ts:List TR}{us:List (Nat×Nat)}{zs:List Value}{tv u:Value}(R:Rep w X br bz B s i false wr mx ts us zs tv u)(hc:bt s i=c):Calls prog 36 #[P_ br] w λe w'=>e=.returned (U_ c)/\zq w w':=by
 have h1:=R.il;have b:=R.sl;apply(wy R.here R.sl (by simp only;omega)).mono;rintro e w' ⟨rfl,hw⟩;exact⟨by simp only[sF,hc],hw⟩
def yy(w:World)(X:Nat->Prop)(br bz B:Nat)(s:BA)(i:Nat)(wr mx:Int)(ts:List TR)(us:List (Nat×Nat))(zs:List Value)(tv u:Value)(e:Ending)(w':World):Prop:=
 match pT s i with
 | .ok (t,j)=>e=.returned (z_ ((ts.length+(flat ts.length t).length-1:Nat):Int))/\∃tv' u',Rep w' X br bz B s j false wr (mix t mx) (ts++flat ts.length t) (us++zZ t) zs tv' u'/\zC w w' br bz tv u tv' u'
 | .error k=>(∃v:Nat,e=.returned (z_ (v:Int)))/\∃mx' ts' us' tv' u',Rep w' X br bz B s k true wr mx' ts' us' zs tv' u'/\ts'.length+i<=k+ts.length/\zC w w' br bz tv u tv' u'
def pn(w:World)(X:Nat->Prop)(br bz B:Nat)(s:BA)(i:Nat)(wr mx:Int)(ts:List TR)(us:List (Nat×Nat))(zs:List Value)(tv u:Value)(e:Ending)(w':World):Prop:=
 ∃sv tv' u',e=.returned (.agg #[.int .u8 40,sv])/\zC w w' br bz tv u tv' u'/\
 match pA s i with
 | .ok (ds,j)=>if bt s j=41 then Rep w' X br bz B s (j+1) false wr (jL [] ds mx) (ts++zJ ts.length ds) (us++zY ds) zs tv' u'/\vF w' B tv' u' sv (jw ts.length ds)/\∀g,X g->sv.ownBlock≠some g
  else ∃mx' ts' us' l,Rep w' X br bz B s j true wr mx' ts' us' zs tv' u'/\ts'.length+i<=j+ts.length/\vF w' B tv' u' sv l/\∀g,X g->sv.ownBlock≠some g
 | .error k=>∃mx' ts' us' l,Rep w' X br bz B s k true wr mx' ts' us' zs tv' u'/\ts'.length+i<=k+ts.length/\vF w' B tv' u' sv l/\∀g,X g->sv.ownBlock≠some g
def pj(s:BA)(i:Nat):Prop:=∀(w:World) (X:Nat->Prop) (br bz B:Nat) (wr mx:Int) (ts:List TR) (us:List (Nat×Nat)) (zs:List Value) (tv u:Value),Rep w X br bz B s i false wr mx ts us zs tv u->
 Calls prog 39 #[P_ br] w (yy w X br bz B s i wr mx ts us zs tv u)
def Kk(s:BA)(i:Nat):Prop:=∀(w:World) (X:Nat->Prop) (br bz B:Nat) (wr mx:Int) (ts:List TR) (us:List (Nat×Nat)) (zs:List Value) (tv u:Value),Rep w X br bz B s i false wr mx ts us zs tv u->
 Calls prog 63 #[P_ br] w (pn w X br bz B s i wr mx ts us zs tv u)
def KB{s:BA}{i:Nat}(h:zu (bt s i)=true):pT s i=.ok (.leaf (bt s i) i,i+1):=by
 rw[kP];unfold vP;rw[i_ h]
def dS{s:BA}{i:Nat}(h:bt s i=91\/bt s i=123):pT s i =
 match pT s (i+1) with
 | .error k=>.error k
 | .ok (t,j)=>if bt s j=yE (bt s i) then .ok (.wrap (bt s i) i t,j+1) else .error j:=by
 rw[kP];unfold vP;rw[n_ (by rcases h with h|h<;>rw[h]<;>decide),i_ h];rfl
def Zo{s:BA}{i:Nat}(h:bt s i=40):pT s i =
 match pA s (i+1) with
 | .error k=>.error k
 | .ok (ts,j)=>if bt s j=41 then .ok (.alts i ts,j+1) else .error j:=by
 rw[kP];unfold vP;rw[n_ (by rw[h];decide),n_ M_,i_ h];rfl
def dE{s:BA}{i:Nat}(h:65<=bt s i/\bt s i<=70):pT s i=.ok (.leaf (bt s i) i,i+1):=by
 rw[kP];unfold vP;rw[n_ (by simp only[zu,au_,beq_iff_eq];omega),n_ M_,n_ M_,i_ (by simp[zp,h])]
def Jr{s:BA}{i:Nat}(h1:¬zu (bt s i)=true)(b:¬(bt s i=91\/bt s i=123))(d:¬bt s i=40)(f:¬(65<=bt s i/\bt s i<=70)):pT s i=.error i:=by
 rw[kP];unfold vP;rw[n_ h1,n_ b,n_ d,n_ (by simp only[zp,ax_,decide_eq_true_eq];exact f)]
def VM{s:BA}{i:Nat}(hb:zu (bt s i)=true):pj s i:=by
 intro w X br bz B wr mx ts us zs tv u R;have d:i<s.size:=zc (mM hb);have b:=R.sl;have b:=KB hb;generalize hc:bt s i=c at *;have g:c=110\/c=116\/c=105\/c=108\/c=115:=by simp only[zu,au_,beq_iff_eq]at hb;omega
 have fin:H_ (∀(e:Ending) (w':World),(e=.returned (I_ ts.length)/\∃tv',Rep w' X br bz B s (i+1) false wr mx (ts++[⟨c,[]⟩]) us zs tv' u/\zC w w' br bz tv u tv' u)->yy w X br bz B s i wr mx ts us zs tv u e w'):=by
  rintro e w' ⟨rfl,tv',h1,f⟩;unfold yy;rw[b];refine⟨by simp[flat],tv',u,?_,f⟩;simpa[mix,flat,zZ,hb] using h1
 generalize yy w X br bz B s i wr mx ts us zs tv u=POST at *;rcases g with rfl|rfl|rfl|rfl|rfl;all_goals
  go_in;go_wp2_with (first
   |(go_at_call 36;apply(zK R hc).mono;rintro e w1 ⟨rfl,hw⟩;have b:=R.si hw;have c1:=b.here.c1;have f:=b.here.th 1)
   |(go_at_call 62;apply(wM (b.inc d).1 (uH _ _ _ _) (λ_ _=>nofun) (by have:=R.tl;omega)).mono;rintro e f ⟨rfl,f⟩))
  try go_ret
  obtain⟨tv',r,st⟩:=f;exact fin.o _ _ ⟨rfl,tv',r,((zC.oS hw).trans (b.inc d).2).trans st⟩
def Zd{s:BA}{i:Nat}(h1:¬zu (bt s i)=true)(b:¬(bt s i=91\/bt s i=123))(d:¬bt s i=40)(f:¬(65<=bt s i/\bt s i<=70)):pj s i:=by
 intro w X br bz B wr mx ts us zs tv u R;have g:=Jr h1 b d f;generalize hc:bt s i=c at *;have fin:H_ (∀(e:Ending) (w':World),(e=.returned (O_)/\Rep w' X br bz B s i true wr mx ts us zs tv u/\zC w w' br bz tv u tv u)->yy w X br bz B s i wr mx ts us zs tv u e w'):=by
  rintro e w' ⟨rfl,r,st⟩;unfold yy;rw[g];exact⟨⟨0,rfl⟩,mx,ts,us,tv,u,r,M_,st⟩
 generalize yy w X br bz B s i wr mx ts us zs tv u=POST at *;have g:((c:Int)==110)=false:=by simp[zu]at h1⊢;omega
 have g:((c:Int)==116)=false:=by simp[zu]at h1⊢;omega
 have n3:((c:Int)==105)=false:=by simp[zu]at h1⊢;omega
 have g:((c:Int)==108)=false:=by simp[zu]at h1⊢;omega
 have g:((c:Int)==115)=false:=by simp[zu]at h1⊢;omega
 have g:((c:Int)==91)=false:=by simp;omega
 have g:((c:Int)==123)=false:=by simp;omega
 have g:((c:Int)==40)=false:=by simp;omega
 have g:(decide ((65:Int)<=(c:Int))&&decide ((c:Int)<=70))=false:=by simp;omega
 go_in;go_wp2_with (first
  |(go_at_call 36;apply(zK R hc).mono;rintro e w1 ⟨rfl,hw⟩;have b:=R.si hw;have c1:=b.here.c2;have d:=b.here.th 2)
  |(go_at_call 35;apply(ya _ _ _ _).mono;rintro e d ⟨rfl,rfl⟩;rw[g]))
 try go_ret
 exact fin.o _ _ ⟨rfl,b.sp.1,(zC.oS hw).trans b.sp.2⟩
def Pd:Tryz.prog.underlying 66=some (.slice 70):=K_
def PX:(Tryz.prog.info? 70).map (λi=>(i.zero,i.size,i.bytes))=some (some (.agg #[.int .u8 0,O_]),2,16):=K_
def cB(us:List (Nat×Nat))(c i:Nat):vI (us++[(c,i)])=vI us++[U_ c,I_ i]:=by simp[vI]
def RAt.incI{w:World}{br:Nat}{s:BA}{bz i:Nat}{b:Bool}{u:Value}{wr mx:Int}(h:RAt w br s bz ⟨i,b,u,wr,mx⟩):RAt (w.setCell ⟨br,1,none⟩ (z_ ((i:Int)+1))) br s bz ⟨i+1,b,u,wr,mx⟩:=RAt.setI h (i+1)
def Rep.used{w w' f:World}{X:Nat->Prop}{br bz B:Nat}{s:BA}{i:Nat}{wr mx:Int}{ts:List TR}{us:List (Nat×Nat)}{zs:List Value}{tv u:Value}(R:Rep w X br bz B s i false wr mx ts us zs tv u)(hi:i<s.size)(ho:w'.ownsRow B 70 2 u' (us.length+1) (vI us++[U_ c,I_ i]))(hf:Fr w w' (λx=>u.ownBlock=some x))(o:u'.ownBlock=u.ownBlock\/∃g,u'.ownBlock=some g/\w.heap.size<=g)(m:Fr w' f (· = br))(h1:RAt f br s bz ⟨i+1,false,u',wr,mx⟩):Rep f X br bz B s (i+1) false wr mx ts (us++[(c,i)]) zs tv u'/\zC w f br bz tv u tv u':=by
 have h:=jF R.uses R.zB;have hz:=hf.bl R.z h;have h:Fr w f (λx=>x=br\/u.ownBlock=some x):=(hf.mono (λ_ _ e=>.inr e)).trans m (λ_ _ e=>.inl e);have p:zC w f br bz tv u tv u':=⟨h.mono (λ_ _ e=>e.elim .inl (λe=>.inr (.inr (.inr e)))),.inl rfl,o⟩;refine⟨⟨h1,m.bl hz (Ne.symm R.rz),?_,?_,?_,R.rB,R.zB,ak_ R.hB h.size,R.rz,hi,R.sl,Nat.le_succ_of_le R.tl,by rw[ai_];exact Nat.succ_le_succ R.ul,λg hg=>?_⟩,p⟩
 .obtain⟨xs,hx,hk⟩:=R.tys;refine⟨xs,zj hx h (λg hg e=>?_),λk t r=>?_⟩
  .rcases e with e|e
   .exact jF hx R.rB (e▸hg)
   .exact R.apart g hg e
  .obtain⟨sv,a,b,d,f⟩:=hk k t r;exact⟨sv,a,b,p.subs d R.rB R.zB,f⟩
 .rw[cB,ai_];exact zj ho m (λg hg e=>jF ho R.rB (e▸hg))
 .intro g hg e;rcases o with q|⟨x,q,hx⟩
  .exact R.apart g hg (q▸e)
  .rw[q]at e;cases e;obtain⟨xs,f,_⟩:=R.tys;have:=f.lt _ hg;omega
 .obtain⟨f,m,p,r,y⟩:=R.av g hg;refine⟨bb_ f h.size,m,p,r,λe=>?_⟩;rcases o with q|⟨x,q,hx⟩
  .exact y (q▸e)
  .rw[q]at e;cases e;omega
def VU{s:BA}{i:Nat}(h:65<=bt s i/\bt s i<=70):pj s i:=by
 intro w X br bz B wr mx ts us zs tv u R;have E:i<s.size:=zc M_;have b:=R.sl;have b:=R.ul;have b:=dE h;generalize hc:bt s i=c at *;have fin:H_ (∀(e:Ending) (w':World),(e=.returned (I_ ts.length)/\∃tv' u',Rep w' X br bz B s (i+1) false wr mx (ts++[⟨c,[]⟩]) (us++[(c,i)]) zs tv' u'/\zC w w' br bz tv u tv' u')->yy w X br bz B s i wr mx ts us zs tv u e w'):=by
  rintro e w' ⟨rfl,tv',u',h1,d⟩;unfold yy;rw[b];refine⟨by simp[flat],tv',u',?_,d⟩;have hb:zu c=false:=by simp[zu];omega
  simpa[mix,flat,zZ,hb] using h1
 generalize yy w X br bz B s i wr mx ts us zs tv u=POST at *;have b:((c:Int)==110)=false:=by simp;omega
 have b:((c:Int)==116)=false:=by simp;omega
 have n3:((c:Int)==105)=false:=by simp;omega
 have b:((c:Int)==108)=false:=by simp;omega
 have b:((c:Int)==115)=false:=by simp;omega
 have b:((c:Int)==91)=false:=by simp;omega
 have b:((c:Int)==123)=false:=by simp;omega
 have b:((c:Int)==40)=false:=by simp;omega
 have b:(decide ((65:Int)<=(c:Int))&&decide ((c:Int)<=70))=true:=by simp;omega
 obtain⟨ti,q,y,z,A⟩:=info_parts PX;go_in;go_wp2_with (first
  |(go_at_call 36;apply(zK R hc).mono;rintro e w1 ⟨rfl,hw⟩;have d:=R.si hw)
  |(go_at_call 35;apply(ya _ _ _ _).mono;rintro e p ⟨rfl,rfl⟩;rw[b]))
 have c1:=d.here.c1;have c4:=d.here.c4;have hX:∀W,Fr p W N_->W.ownsRow B 70 2 u us.length (vI us):=λW hf=>zj d.uses hf (λ_ _=>id);refine tr_ 15 (λW=>f_ W br 4 u/\f_ W br 1 (I_ i)) ?_;refine tb_ 0 rfl K_ (λ_ _ _ h=>h) (by rfl) (by intro W b;obtain⟨f,m⟩:=b;go_simp;rfl) ?_;refine tb_ 1 rfl K_ (λ_ _ _ h=>h) (by rfl) (by intro W b;obtain⟨f,m⟩:=b;go_simp;rfl) ?_;refine tb_ 2 rfl K_ (λ_ _ _ h=>h) (by rfl) (by intro W b;obtain⟨f,m⟩:=b;go_simp;rfl) ?_;refine tb_ 3 rfl K_ (λ_ _ _ h=>h) (by rfl) (by intro W b;obtain⟨f,m⟩:=b;go_simp;rfl) ?_;refine tb_ 4 rfl K_ (λ_ _ _ h=>h) (by rfl) (by intro W b;obtain⟨f,m⟩:=b;go_simp;rfl) ?_;refine tb_ 5 rfl K_ (λ_ _ _ h=>h) (by rfl) (by intro W b;obtain⟨f,m⟩:=b;go_simp;rfl) ?_;refine tb_ 6 rfl K_ (λ_ _ _ h=>h) (by rfl) (by intro W b;obtain⟨f,m⟩:=b;go_simp;rfl) ?_;refine tb_ 7 rfl K_ (λ_ _ _ h=>h) (by rfl) (by intro W b;obtain⟨f,m⟩:=b;go_simp;rfl) ?_;refine tb_ 8 rfl K_ (λ_ _ _ h=>h) (by rfl) (by intro W b;obtain⟨f,m⟩:=b;go_simp;rfl) ?_;refine tb_ 9 rfl K_ (λ_ _ _ h=>h) (by rfl) (by intro W b;obtain⟨f,m⟩:=b;go_simp;rfl) ?_;refine tb_ 10 rfl K_ (λ_ _ _ h=>h) (by rfl) (by intro W b;obtain⟨f,m⟩:=b;go_simp;rfl) ?_;refine t1_ 11 ⟨c4,c1⟩ ?_;have f:(p.alloc (.cells #[U_ c,I_ i] 70)).cell? ⟨br,4,none⟩=some u:=Blk.ce d.here 4 _;have b:(p.alloc (.cells #[U_ c,I_ i] 70)).cell? ⟨br,1,none⟩=some (I_ i):=Blk.ce d.here 1 _;refine zw 12 rfl K_ (λ_=>⟨f,b⟩) (λK b=>?_);refine qy rfl (.tmp 79) (.tmp 86) 66 rfl B 70 ti _ 2 16 Pd q y z A rfl D_ u us.length (vI us) (by simp[Act.eval]) (hX _ (((A_ p _).alloc _).drew)) _ 1 1 [U_ c,I_ i] (by simp[Act.eval];rfl) (by simp) (zN _ _ _ _ (by simp)) (by simp[Value.oneCell']) (by simp[maxLen];omega) M_ (by have:=d.hB;simp;omega) ?_;intro u' f ho C A;refine b _ _ ?_;have z:Fr p f (λx=>u.ownBlock=some x):=a_ (((A_ p _).alloc _).drew) C (λk e _=>e);have D:u'.ownBlock=u.ownBlock\/∃g,u'.ownBlock=some g/\p.heap.size<=g:=A.imp id (λe=>⟨_,e,by simp⟩);have b:RAt f br s bz ⟨i,false,u,wr,mx⟩:=z.bl d.here (jF d.uses d.rB);have p:=b.c4;have m:=b.c1;have q:=b.th 4;have q:=b.th 1;have y:RAt (f.setCell ⟨br,4,none⟩ u') br s bz ⟨i,false,u',wr,mx⟩:=RAt.setU b u';have q:=d.used E ho z D (((A_ f (· = br)).setCell ⟨br,4,none⟩ u' (λ_=>rfl)).setCell ⟨br,1,none⟩ (z_ ((i:Int)+1)) (λ_=>rfl)) y.incI;obtain⟨g,cap,rfl⟩:=zm ho M_;refine t1_ 13 ⟨p,m⟩ ?_;refine t1_ 14 ⟨p,m⟩ ?_;refine t1_ 15 ⟨p,m⟩ ?_;refine td_ ?_ _;go_wp2_with (go_at_call 62;apply(wM q.1 (uH _ _ _ _) (λ_ _=>nofun) (by have:=d.tl;omega)).mono;rintro e b ⟨rfl,b⟩);try go_ret
 obtain⟨tv',r,st⟩:=b;exact fin.o _ _ ⟨rfl,tv',_,r,((zC.oS hw).trans q.2).trans st⟩
def nM(w:World)(X:Nat->Prop)(br bz B:Nat)(s:BA)(i:Nat)(wr mx:Int)(ts:List TR)(us:List (Nat×Nat))(zs:List Value)(tv u:Value)(c:Nat)(w':World):Prop:=
 (if bt s i=c then Rep w' X br bz B s (i+1) false wr mx ts us zs tv u else Rep w' X br bz B s i true wr mx ts us zs tv u)/\zC w w' br bz tv u tv u
def Wr{w:World}{X:Nat->Prop}{br bz B:Nat}{s:BA}{i:Nat}{wr mx:Int}{ts:List TR}{us:List (Nat×Nat)}{zs:List Value}{tv u:Value}(R:Rep w X br bz B s i false wr mx ts us zs tv u)(hc:0<c):Calls prog 37 #[P_ br,U_ c] w λe w'=>e=.returned (.tuple #[])/\nM w X br bz B s i wr mx ts us zs tv u c w':=by
 have h1:=R.il;have b:=R.sl;apply(Wd R.here R.sl (by simp only;omega)).mono;rintro e w' ⟨rfl,ha,hf⟩;refine⟨rfl,?_⟩;unfold nM;unfold RV.eat at ha;simp only[sF]at ha;by_cases hb:bt s i=c
 .rw[i_ M_]at ha;rw[i_ hb];exact R.move hf ha M_ (zc M_)
 .rw[n_ M_]at ha;rw[n_ hb];exact R.move hf ha M_ h1
def yY{w:World}{X:Nat->Prop}{br bz B:Nat}{s:BA}{i:Nat}{wr mx:Int}{ts:List TR}{us:List (Nat×Nat)}{zs:List Value}{tv u:Value}{c:Int}(d:Nat)(R:Rep w X br bz B s i false wr mx ts us zs tv u)(hd:c=(d:Int))(hc:0<d):Calls prog 37 #[P_ br,.int .u8 c] w λe w'=>e=.returned (.tuple #[])/\nM w X br bz B s i wr mx ts us zs tv u d w':=by
 subst hd;exact Wr R hc
def uC{w:World}{X:Nat->Prop}{br bz B:Nat}{s:BA}{i:Nat}{bad:Bool}{wr mx:Int}{ts:List TR}{us:List (Nat×Nat)}{zs:List Value}{tv u:Value}(R:Rep w X br bz B s i bad wr mx ts us zs tv u)(v:Nat):vF (w.alloc (.cells #[I_ v] 3)) B tv u (S_ w.heap.size 1 1) [v]:=by
 refine⟨World.ownsRow_lit w #[I_ v] 1 R.hB (by simp[maxLen]) rfl,λg hg=>?_⟩;simp only[Value.ownBlock,ah_]at hg;obtain⟨xs,hx,_⟩:=R.tys;exact⟨λe=>by have:=hx.lt g e;omega,λe=>by have:=R.uses.lt g e;omega⟩
def tn{w:World}{X:Nat->Prop}{br bz B:Nat}{s:BA}{i:Nat}{bad:Bool}{wr mx:Int}{ts:List TR}{us:List (Nat×Nat)}{zs:List Value}{tv u:Value}(R:Rep w X br bz B s i bad wr mx ts us zs tv u){g:Nat}(hg:X g):(Value.slice (some ⟨w.heap.size,0,none⟩) n c).ownBlock≠some g:=by
 have:=(R.av g hg).1;simp only[Value.ownBlock,ne_eq,ah_];omega
def VP{s:BA}{i:Nat}(h:bt s i=91\/bt s i=123)(D:pj s (i+1)):pj s i:=by
 intro w X br bz B wr mx ts us zs tv u R;have x:i<s.size:=zc M_;have b:=R.sl;have b:=R.tl;have y:=dS h;generalize hc:bt s i=c at *;cases hp:pT s (i+1) with
 |error k=>
  have fin:H_ (∀(e:Ending) (w':World),(∃v:Nat,e=.returned (I_ v))->(∃mx' p F tv' u',Rep w' X br bz B s k true wr mx' p F zs tv' u'/\p.length+i<=k+ts.length/\zC w w' br bz tv u tv' u')->yy w X br bz B s i wr mx ts us zs tv u e w'):=by
   intro e w' h1 z;unfold yy;rw[y,hp];exact⟨h1,z⟩
  have G:H_ (∀(w:World),Rep w X br bz B s (i+1) false wr mx ts us zs tv u->Calls prog 39 #[P_ br] w λe w'=>(∃v:Nat,e=.returned (I_ v))/\H_ (∃mx' p F tv' u',Rep w' X br bz B s k true wr mx' p F zs tv' u'/\p.length+(i+1)<=k+ts.length/\zC w w' br bz tv u tv' u')):=by
   intro w R;apply(D w X br bz B wr mx ts us zs tv u R).mono;intro e w' m;unfold yy at m;rw[hp]at m;exact m
  generalize yy w X br bz B s i wr mx ts us zs tv u=POST at *;rcases h with rfl|rfl;all_goals
   go_in;go_wp2_with (first
    |(go_at_call 36;apply(zK R hc).mono;rintro e w1 ⟨rfl,hw⟩;have b:=R.si hw;have c1:=b.here.c1;have K:=b.here.th 1)
    |(go_at_call 39;apply(G.o _ (b.inc x).1).mono;rintro e O ⟨⟨v,rfl⟩,C⟩;obtain⟨f,f,f,tv2,u2,f,A,st2⟩:=C.o;have c2:=f.here.c2)
    |(go_at_call 62;apply(wM (f.alloc _).1 (uC f v) (λg hg=>tn f hg) M_).mono;rintro e P ⟨rfl,A⟩))
   try go_ret
   obtain⟨tv',r,st⟩:=A;exact fin.o _ _ ⟨_,rfl⟩ ⟨_,_,_,_,_,r,by simp;omega,((((zC.oS hw).trans (b.inc x).2).trans st2).trans (f.alloc _).2).trans st⟩
 |ok q=>
  obtain⟨t,j⟩:=q;have M:=mg hp ts.length;have G:H_ (∀(w:World),Rep w X br bz B s (i+1) false wr mx ts us zs tv u->Calls prog 39 #[P_ br] w λe w'=>e=.returned (z_ ((ts.length+(flat ts.length t).length-1:Nat):Int))/\H_ (∃tv' u',Rep w' X br bz B s j false wr (mix t mx) (ts++flat ts.length t) (us++zZ t) zs tv' u'/\zC w w' br bz tv u tv' u')):=by
   intro w R;apply(D w X br bz B wr mx ts us zs tv u R).mono;intro e w' m;unfold yy at m;rw[hp]at m;exact m
  by_cases E:bt s j=yE c
  .have fin:H_ (∀(e:Ending) (w':World),e=.returned (z_ (((ts++flat ts.length t).length:Nat):Int))->(∃tv' u',Rep w' X br bz B s (j+1) false wr (mix t mx) ((ts++flat ts.length t)++[⟨c,[ts.length+(flat ts.length t).length-1]⟩]) (us++zZ t) zs tv' u'/\zC w w' br bz tv u tv' u')->yy w X br bz B s i wr mx ts us zs tv u e w'):=by
    intro e w' h1 z;unfold yy;rw[y,hp];simp only[E,if_true];refine⟨by rw[h1];simp[flat],?_⟩;simpa[flat,mix,zZ] using z
   generalize yy w X br bz B s i wr mx ts us zs tv u=POST at *;generalize H:ts.length+(flat ts.length t).length-1=N at *;have I:(ts++flat ts.length t).length<j+1:=by simp;omega
   generalize ts++flat ts.length t=TS at *;generalize us++zZ t=US at *;generalize mix t mx=MX at *;rcases h with rfl|rfl;all_goals
    simp[yE]at E;go_in;go_wp2_with (first
     |(go_at_call 36;apply(zK R hc).mono;rintro e w1 ⟨rfl,hw⟩;have b:=R.si hw;have c1:=b.here.c1;have K:=b.here.th 1)
     |(go_at_call 39;apply(G.o _ (b.inc x).1).mono;rintro e O ⟨rfl,C⟩;obtain⟨tv2,u2,f,st2⟩:=C.o;have c2:=f.here.c2)
     |(go_at_call 37;apply(yY (bt s j) f M_ M_).mono;rintro e P ⟨rfl,m,J⟩;rw[i_ rfl]at m)
     |(go_at_call 62;apply(wM (m.alloc _).1 (uC m N) (λg hg=>tn m hg) I).mono;rintro e Q ⟨rfl,A⟩))
    try go_ret
    obtain⟨tv',r,st⟩:=A;exact fin.o _ _ rfl ⟨_,_,r,(((((zC.oS hw).trans (b.inc x).2).trans st2).trans J).trans (m.alloc _).2).trans st⟩
  .have fin:H_ (∀(e:Ending) (w':World),(∃v:Nat,e=.returned (I_ v))->(∃mx' p F tv' u',Rep w' X br bz B s j true wr mx' p F zs tv' u'/\p.length+i<=j+ts.length/\zC w w' br bz tv u tv' u')->yy w X br bz B s i wr mx ts us zs tv u e w'):=by
    intro e w' h1 z;unfold yy;rw[y,hp];simp only[E,if_false];exact⟨h1,z⟩
   generalize yy w X br bz B s i wr mx ts us zs tv u=POST at *;generalize H:ts.length+(flat ts.length t).length-1=N at *;have I:(ts++flat ts.length t).length<j:=by simp;omega
   have p:(ts++flat ts.length t).length+1+i<=j+ts.length:=by simp;omega
   generalize ts++flat ts.length t=TS at *;generalize us++zZ t=US at *;generalize mix t mx=MX at *;obtain⟨d,hd⟩:=e_ (yE c);rw[<- hd]at E;rcases h with rfl|rfl;all_goals
    simp[yE]at hd;have hd:H_ (d=_):=hd;go_in;go_wp2_with (first
     |(go_at_call 36;apply(zK R hc).mono;rintro e w1 ⟨rfl,hw⟩;have b:=R.si hw;have c1:=b.here.c1;have K:=b.here.th 1)
     |(go_at_call 39;apply(G.o _ (b.inc x).1).mono;rintro e O ⟨rfl,C⟩;obtain⟨tv2,u2,f,st2⟩:=C.o;have c2:=f.here.c2)
     |(go_at_call 37;apply(yY d f (by rw[hd.o];rfl) (by rw[hd.o];decide)).mono;rintro e P ⟨rfl,m,J⟩;rw[n_ E]at m)
     |(go_at_call 62;apply(wM (m.alloc _).1 (uC m N) (λg hg=>tn m hg) I).mono;rintro e Q ⟨rfl,A⟩))
    try go_ret
    obtain⟨tv',r,st⟩:=A;exact fin.o _ _ ⟨_,rfl⟩ ⟨_,_,_,_,_,r,by rw[ai_];exact p,(((((zC.oS hw).trans (b.inc x).2).trans st2).trans J).trans (m.alloc _).2).trans st⟩
def yG{w:World}(h:w.ownsRow base e size v n xs):∃a n c,v=.slice a n c:=by
 rcases h.2 with⟨rfl,_⟩|⟨g,cap,_,rfl,_⟩
 .exact⟨_,_,_,rfl⟩
 .exact⟨_,_,_,rfl⟩
def WD(w:World)(X:Nat->Prop)(br bz B:Nat)(s:BA)(wr:Int)(zs:List Value)(tv u:Value)(Good:Nat->Bool->Int->List TR->List (Nat×Nat)->List Nat->Prop)(sv:Value)(w':World):Prop:=
 ∃J b MX TS US L tv' u',Good J b MX TS US L/\Rep w' X br bz B s J b wr MX TS US zs tv' u'/\vF w' B tv' u' sv L/\(∀g,X g->sv.ownBlock≠some g)/\TS.length<J/\zC w w' br bz tv u tv' u'
def gZ{s:BA}{i:Nat}(hc:bt s i=40)(d:Nat->Bool->Int->List TR->List (Nat×Nat)->List Nat->Prop)(f:Ending->World->Prop){w:World}{X:Nat->Prop}{br bz B:Nat}{wr mx:Int}{ts:List TR}{us:List (Nat×Nat)}{zs:List Value}{tv u:Value}(R:Rep w X br bz B s i false wr mx ts us zs tv u)(h:H_ (∀(w:World),Rep w X br bz B s (i+1) false wr mx ts us zs tv u->Calls prog 63 #[P_ br] w λe w'=>∃sv,e=.returned (.agg #[.int .u8 40,sv])/\WD w X br bz B s wr zs tv u d sv w'))(fin:H_ (∀(w':World) (J:Nat) (b:Bool) (MX:Int) (TS:List TR) (US:List (Nat×Nat)) (L:List Nat) (tv' u':Value),d J b MX TS US L->Rep w' X br bz B s J b wr MX (TS++[⟨40,L⟩]) US zs tv' u'->zC w w' br bz tv u tv' u'->f (.returned (I_ TS.length)) w')):Calls prog 39 #[P_ br] w f:=by
 have g:i<s.size:=zc M_;have d:=R.sl;go_in;go_wp2_with (first
  |(go_at_call 36;apply(zK R hc).mono;rintro e w1 ⟨rfl,hw⟩;have f:=R.si hw;have c1:=f.here.c1;have d:=f.here.th 1)
  |(go_at_call 63;apply(h.o _ (f.inc g).1).mono;rintro e d ⟨sv,rfl,k⟩;obtain⟨J,b,MX,TS,US,L,tv2,u2,good,d,h,m,p,st2⟩:=k;obtain⟨k,sn,k,rfl⟩:=yG h.1)
  |(go_at_call 62;apply(wM (d.alloc _).1 ((d.alloc _).2.subs h d.rB d.zB) m p).mono;rintro e h ⟨rfl,h⟩))
 try go_ret
 obtain⟨tv',r,st⟩:=h;exact fin.o _ _ _ _ _ _ _ _ _ good r (((((zC.oS hw).trans (f.inc g).2).trans st2).trans (d.alloc _).2).trans st)
def Yt{s:BA}{i:Nat}(hc:bt s i=40)(g:Kk s (i+1)):pj s i:=by
 intro w X br bz B wr mx ts us zs tv u R;have d:=R.tl;have h:=Zo hc;cases hp:pA s (i+1) with
 |error k=>
  refine gZ hc (λJ b _ TS _ _=>J=k/\b=true/\TS.length+(i+1)<=k+ts.length) _ R ?_ ?_
  .intro w R;apply(g w X br bz B wr mx ts us zs tv u R).mono;rintro e w' ⟨sv,tv',u',rfl,st,d⟩;rw[hp]at d;obtain⟨mx',m,o,l,r,hl,hs,hx⟩:=d;exact⟨sv,rfl,k,true,mx',m,o,l,tv',u',⟨rfl,rfl,hl⟩,r,hs,hx,M_,st⟩
  .rintro w' J b MX TS US L tv' u' ⟨rfl,rfl,hl⟩ r st;unfold yy;rw[h,hp];exact⟨⟨_,rfl⟩,_,_,_,_,_,r,by rw[ai_];simp only[a6_,a7_];omega,st⟩
 |ok q=>
  obtain⟨ds,j⟩:=q;have f:=iq hp ts.length;by_cases f:bt s j=41
  .refine gZ hc (λJ b MX TS US L=>J=j+1/\b=false/\MX=jL [] ds mx/\TS=ts++zJ ts.length ds/\US=us++zY ds/\L=jw ts.length ds) _ R ?_ ?_
   .intro w R;apply(g w X br bz B wr mx ts us zs tv u R).mono;rintro e w' ⟨sv,tv',u',rfl,st,d⟩;rw[hp]at d;simp only[f,if_true]at d;exact⟨sv,rfl,j+1,false,_,_,_,_,tv',u',⟨rfl,rfl,rfl,rfl,rfl,rfl⟩,d.1,d.2.1,d.2.2,by rw[ai_];omega,st⟩
   .rintro w' J b MX TS US L tv' u' ⟨rfl,rfl,rfl,rfl,rfl,rfl⟩ r st;unfold yy;rw[h,hp];simp only[f,if_true];refine⟨by simp[flat],tv',u',?_,st⟩;simpa[flat,mix,zZ] using r
  .refine gZ hc (λJ b _ TS _ _=>J=j/\b=true/\TS.length+(i+1)<=j+ts.length) _ R ?_ ?_
   .intro w R;apply(g w X br bz B wr mx ts us zs tv u R).mono;rintro e w' ⟨sv,tv',u',rfl,st,d⟩;rw[hp]at d;simp only[f,if_false]at d;obtain⟨mx',m,o,l,r,hl,hs,hx⟩:=d;exact⟨sv,rfl,j,true,mx',m,o,l,tv',u',⟨rfl,rfl,hl⟩,r,hs,hx,M_,st⟩
   .rintro w' J b MX TS US L tv' u' ⟨rfl,rfl,hl⟩ r st;unfold yy;rw[h,hp];simp only[f,if_false];exact⟨⟨_,rfl⟩,_,_,_,_,_,r,by rw[ai_];simp only[a6_,a7_];omega,st⟩
structure Mid(w:World)(X:Nat->Prop)(br bz B:Nat)(s:BA)(j:Nat)(wg MX:Int)(TS:List TR)(US:List (Nat×Nat))(zs:List Value)(tv u tv2 u2 sv:Value)(L:List Nat)(W:World):Prop where
 R:Rep W (λg=>X g\/g=w.heap.size\/g=w.heap.size+1\/sv.ownBlock=some g) br bz B s j false wg MX TS US zs tv2 u2
 b2:Blk W w.heap.size [.int .u8 0,L_] 75
 b3:Blk W (w.heap.size+1) [.int .u8 40,sv] 75
 ss:vF W B tv2 u2 sv L
 sn:∀g,sv.ownBlock=some g->w.heap.size+2<=g
 st:zC w W br bz tv u tv2 u2
def Zu(w:World)(X:Nat->Prop)(br bz B:Nat)(s:BA)(i:Nat)(wr mx:Int)(ts:List TR)(us:List (Nat×Nat))(zs:List Value)(tv u:Value)(n:Nat)(kv mv:Value)(W:World):Prop:=
 ∃(ds:List PT) (i':Nat) (more:Bool) (kb:BA) (sv tv' u':Value),
  kv=.string kb/\mv=.bool more/\kb.data.toList.map UInt8.toNat=ds.map PT.kind/\i+(zJ ts.length ds).length<=i'/\ds.length<=i'/\
  Mid w X br bz B s i' wr (jL [] ds mx) (ts++zJ ts.length ds) (us++zY ds) zs tv u tv' u' sv (jw ts.length ds) W/\
  s.size+1-i'<=n/\(more=true->pA s i=pz ds (pA s i'))/\(more=false->pA s i=.ok (ds,i'))
def Rep.offS{w:World}{X:Nat->Prop}{br bz B:Nat}{s:BA}{i:Nat}{bad:Bool}{wr mx:Int}{ts:List TR}{us:List (Nat×Nat)}{zs:List Value}{tv u:Value}(R:Rep w X br bz B s i bad wr mx ts us zs tv u){g:Nat}(hg:X g):¬(g=br\/g=bz\/tv.ownBlock=some g\/u.ownBlock=some g):=by
 obtain⟨_,a,b,c,d⟩:=R.av g hg;rintro(h|h|h|h)
 .exact a h
 .exact b h
 .exact c h
 .exact d h
section
variable {w W W':World} {X:Nat->Prop} {br bz B:Nat} {s:BA} {j:Nat} {wg MX:Int} {TS:List TR} {US:List (Nat×Nat)} {zs:List Value} {tv u tv2 u2 sv:Value} {L:List Nat}
def Mid.call(M:Mid w X br bz B s j wg MX TS US zs tv u tv2 u2 sv L W){j':Nat}{f:Int}{h:List TR}{k:List (Nat×Nat)}{b d:Value}(m:Rep W' (λg=>X g\/g=w.heap.size\/g=w.heap.size+1\/sv.ownBlock=some g) br bz B s j' false wg f h k zs b d)(st:zC W W' br bz tv2 u2 b d):Mid w X br bz B s j' wg f h k zs tv u b d sv L W':=
 ⟨m,st.fr.bl M.b2 (M.R.offS (.inr (.inl rfl))),st.fr.bl M.b3 (M.R.offS (.inr (.inr (.inl rfl)))),st.subs M.ss M.R.rB M.R.zB,M.sn,M.st.trans st⟩
def Mid.si(M:Mid w X br bz B s j wg MX TS US zs tv u tv2 u2 sv L W)(h:zq W W'):Mid w X br bz B s j wg MX TS US zs tv u tv2 u2 sv L W':=M.call (M.R.si h) (zC.oS h)
def Mid.inc(M:Mid w X br bz B s j wg MX TS US zs tv u tv2 u2 sv L W)(h:j<s.size):Mid w X br bz B s (j+1) wg MX TS US zs tv u tv2 u2 sv L (W.setCell ⟨br,1,none⟩ (z_ ((j:Int)+1))):=M.call (M.R.inc h).1 (M.R.inc h).2
def Mid.setMx(M:Mid w X br bz B s j wg MX TS US zs tv u tv2 u2 sv L W)(m:Int):Mid w X br bz B s j wg m TS US zs tv u tv2 u2 sv L (W.setCell ⟨br,6,none⟩ (z_ m)):=M.call (M.R.setMx m).1 (M.R.setMx m).2
def Mid.grow(M:Mid w X br bz B s j wg MX TS US zs tv u tv2 u2 sv L W){a b:Obj}{h:World}{f:Value}(hg:((W.alloc a).alloc b).grownBy h sv.ownBlock)(ho:h.ownsRow B 3 1 f (L.length+1) ((L.map λ(n:Nat)=>Value.int .i64 (n:Int))++[I_ N]))(hl:f.ownBlock=sv.ownBlock\/f.ownBlock=some ((W.alloc a).alloc b).heap.size):Mid w X br bz B s j wg MX TS US zs tv u tv2 u2 f (L++[N]) (h.setCell ⟨w.heap.size+1,1,none⟩ f):=by
 have m:Fr W h (λg=>sv.ownBlock=some g):=a_ (((A_ W _).alloc a).alloc b) hg (λk e _=>e);have d:=M.b3.lt;have p:∀g,sv.ownBlock=some g->g≠w.heap.size:=λg hg e=>by have:=M.sn g hg;omega
 have n3:∀g,sv.ownBlock=some g->g≠w.heap.size+1:=λg hg e=>by have:=M.sn g hg;omega
 have hv:∀g,f.ownBlock=some g->w.heap.size+2<=g/\(sv.ownBlock=some g\/W.heap.size<=g):=λg d=>by
  rcases hl with e|e
  .exact⟨M.sn g (e▸d),.inl (e▸d)⟩
  .rw[e]at d;simp only[ah_]at d;have:((W.alloc a).alloc b).heap.size=W.heap.size+2:=by simp
   exact⟨M_,.inr M_⟩
 have r:=m.bl M.b2 (λe=>p _ e rfl);have y:=m.bl M.b3 (λe=>n3 _ e rfl);have p:Fr h (h.setCell ⟨w.heap.size+1,1,none⟩ f) (λg=>g=w.heap.size+1):=(A_ h (λg=>g=w.heap.size+1)).setCell ⟨w.heap.size+1,1,none⟩ f (λ_=>rfl);have x:=p.bl r M_;have z:Blk (h.setCell ⟨w.heap.size+1,1,none⟩ f) (w.heap.size+1) [.int .u8 40,f] 75:=y.set 1 f;have r:=zj ho p (λg d e=>by have:=hv g d;omega);have y:Fr W (h.setCell ⟨w.heap.size+1,1,none⟩ f) (λg=>X g\/g=w.heap.size\/g=w.heap.size+1\/sv.ownBlock=some g):=
  (m.mono (λ_ _ e=>.inr (.inr (.inr e)))).trans p (λ_ _ e=>.inr (.inr (.inl e)))
 have A:Fr W (h.setCell ⟨w.heap.size+1,1,none⟩ f) (λg=>sv.ownBlock=some g\/g=w.heap.size+1):=(m.mono (λ_ _ e=>.inl e)).trans p (λ_ _ e=>.inr e);have m:∀g,f.ownBlock=some g->g<(h.setCell ⟨w.heap.size+1,1,none⟩ f).heap.size:=λg d=>(r.lt g d).2;refine⟨(M.R.o y).fe (λg d=>?_),x,z,⟨by simpa using r,λg d=>?_⟩,λg d=>(hv g d).1,M.st.o A (λg d=>?_)⟩
 .rcases d with e|e|e|e
  .exact .inl (.inl e)
  .exact .inl (.inr (.inl e))
  .exact .inl (.inr (.inr (.inl e)))
  .rcases(hv g e).2 with q|q
   .exact .inl (.inr (.inr (.inr q)))
   .exact .inr ⟨q,m g e⟩
 .rcases(hv g d).2 with q|q
  .exact M.ss.2 g q
  .obtain⟨xs,hx,_⟩:=M.R.tys;exact⟨λe=>by have:=hx.lt g e;omega,λe=>by have:=M.R.uses.lt g e;omega⟩
 .rcases d with e|e
  .have:=M.sn g e;omega
  .omega
def Mid.gC(M:Mid w X br bz B s j wg MX TS US zs tv u tv2 u2 sv L W){a b:Obj}{d:World}(hg:((W.alloc a).alloc b).grownBy d sv.ownBlock):d.cell? ⟨w.heap.size+1,1,none⟩=some sv/\d.frozen? ⟨w.heap.size+1,1,none⟩=false:=by
 have f:Fr W d (λg=>sv.ownBlock=some g):=a_ (((A_ W _).alloc a).alloc b) hg (λk e _=>e);have d:=f.bl M.b3 (λe=>by have:=M.sn _ e;omega);exact⟨d.cell 1,d.th 1⟩
end
def Vp{w:World}{X:Nat->Prop}{br bz B:Nat}{s:BA}{i:Nat}{wg mx:Int}{ts:List TR}{us:List (Nat×Nat)}{zs:List Value}{tv u:Value}(R:Rep w X br bz B s i false wg mx ts us zs tv u):Zu w X br bz B s i wg mx ts us zs tv u (s.size+1) (.string ⟨#[]⟩) (.bool true) ((w.alloc (.cells #[.int .u8 0,L_] 75)).alloc (.cells #[.int .u8 40,L_] 75)):=by
 have h1:=R.o (((A_ w X).alloc (.cells #[.int .u8 0,L_] 75)).alloc (.cells #[.int .u8 40,L_] 75));refine⟨[],i,true,⟨#[]⟩,L_,tv,u,rfl,rfl,rfl,by simp[zJ],al_ _,⟨?_,(B_ w _ _).alloc _,?_,uH _ _ _ _,λg hg=>by simp[Value.ownBlock]at hg,⟨((A_ w _).alloc _).alloc _,.inl rfl,.inl rfl⟩⟩,M_,λ_=>(rH _).symm,λh=>by cases h⟩
 .have b:=h1.fe (Y:=λg=>X g\/g=w.heap.size\/g=w.heap.size+1\/(Value.slice none 0 0).ownBlock=some g) (λg hg=>by
   rcases hg with hg|hg|hg|hg
   .exact .inl hg
   .exact .inr (by simp;omega)
   .exact .inr (by simp;omega)
   .simp[Value.ownBlock]at hg)
  simpa[jL,zJ,zY] using b
 .have:=B_ (w.alloc (.cells #[.int .u8 0,L_] 75)) #[.int .u8 40,L_] 75;simpa using this
def Fr.two(w:World)(b o1 o2:Nat)(d f:Value):Fr w ((w.setCell ⟨b,o1,none⟩ d).setCell ⟨b,o2,none⟩ f) (λg=>g=b):=
 ((A_ w (λg=>g=b)).setCell ⟨b,o1,none⟩ d (λ_=>rfl)).setCell ⟨b,o2,none⟩ f (λ_=>rfl)
def V_:=@Fr.two
def WU{w wr f h:World}{X:Nat->Prop}{br bz B:Nat}{s:BA}{i:Nat}{wg mx:Int}{ts:List TR}{us:List (Nat×Nat)}{zs:List Value}{tv u sv:Value}(R:Rep w X br bz B s i false wg mx ts us zs tv u)(k:pA s i=.ok (ds,i'))(b:if bt s i'=41 then Rep f (λg=>X g\/g=w.heap.size\/g=w.heap.size+1\/sv.ownBlock=some g) br bz B s (i'+1) false wg (jL [] ds mx) (ts++zJ ts.length ds) (us++zY ds) zs tv' u'
  else Rep f (λg=>X g\/g=w.heap.size\/g=w.heap.size+1\/sv.ownBlock=some g) br bz B s i' true wg (jL [] ds mx) (ts++zJ ts.length ds) (us++zY ds) zs tv' u')(r:zC w wr br bz tv u tv' u')(p:zC wr f br bz tv' u' tv' u')(q:vF wr B tv' u' sv (jw ts.length ds))(m:∀g,sv.ownBlock=some g->w.heap.size+2<=g)(d:Fr f h (λg=>g=w.heap.size)):pn w X br bz B s i wg mx ts us zs tv u (.returned (.agg #[.int .u8 40,sv])) h:=by
 have f:vF h B tv' u' sv (jw ts.length ds):=by
  have h1:=p.subs q R.rB R.zB;exact⟨zj h1.1 d (λg hg e=>by have:=m g hg;omega),h1.2⟩
 have hX:∀g,X g->sv.ownBlock≠some g:=λg hg e=>by have:=m g e;have:=(R.av g hg).1;omega
 refine⟨sv,tv',u',rfl,(r.trans p).o d (λg hg=>M_),?_⟩;rw[k];simp only;by_cases hb:bt s i'=41
 .rw[i_ hb]at b⊢;exact⟨(b.o (d.mono (λ_ _ e=>.inr (.inl e)))).fe (λg hg=>.inl (.inl hg)),f,hX⟩
 .rw[n_ hb]at b⊢;have hc:=iq k ts.length;exact⟨_,_,_,_,(b.o (d.mono (λ_ _ e=>.inr (.inl e)))).fe (λg hg=>.inl (.inl hg)),by rw[ai_];omega,f,hX⟩
def WB{w wr d f:World}{X:Nat->Prop}{br bz B:Nat}{s:BA}{i k:Nat}{wg mx h:Int}{ts b:List TR}{us m:List (Nat×Nat)}{zs:List Value}{tv u tv2 u2 sv:Value}(R:Rep w X br bz B s i false wg mx ts us zs tv u)(q:pA s i=.error k)(p:Rep d (λg=>X g\/g=w.heap.size\/g=w.heap.size+1\/sv.ownBlock=some g) br bz B s k true wg h b m zs tv2 u2)(hl:b.length+i<=k+ts.length)(x:zC w wr br bz tv u tv' u')(m:zC wr d br bz tv' u' tv2 u2)(r:vF wr B tv' u' sv l)(h:∀g,sv.ownBlock=some g->w.heap.size+2<=g)(b:Fr d f (λg=>g=w.heap.size)):pn w X br bz B s i wg mx ts us zs tv u (.returned (.agg #[.int .u8 40,sv])) f:=by
 have d:vF f B tv2 u2 sv l:=by
  have h1:=m.subs r R.rB R.zB;exact⟨zj h1.1 b (λg hg e=>by have:=h g hg;omega),h1.2⟩
 have hX:∀g,X g->sv.ownBlock≠some g:=λg hg e=>by have:=h g e;have:=(R.av g hg).1;omega
 refine⟨sv,tv2,u2,rfl,(x.trans m).o b (λg hg=>M_),?_⟩;rw[q];exact⟨_,_,_,_,(p.o (b.mono (λ_ _ e=>.inr (.inl e)))).fe (λg hg=>.inl (.inl hg)),hl,d,hX⟩
def ru{w:World}{X:Nat->Prop}{br bz B:Nat}{s:BA}{i:Nat}{bad:Bool}{wr mx:Int}{ts fl:List TR}{us:List (Nat×Nat)}{zs:List Value}{tv u:Value}{N c:Nat}(R:Rep w X br bz B s i bad wr mx (ts++fl) us zs tv u)(f:N=ts.length+fl.length-1)(hp:0<fl.length)(hk:(fl[fl.length-1]?).map TR.kind=some c):∃g cap,N+1<=cap/\w.cell? ⟨g,N*2,none⟩=some (U_ c)/\w.cell? ⟨bz,0,none⟩=some (S_ g (N+1) cap):=by
 obtain⟨xs,hx,k⟩:=R.tys;have hl:(ts++fl).length=N+1:=by rw[ai_];omega
 rw[hl]at hx;obtain⟨g,cap,rfl⟩:=zm hx M_;cases f:fl[fl.length-1]? with
 |none=>rw[f]at hk;cases hk
 |some t=>
  rw[f]at hk;simp only[bz_,ah_]at hk;obtain⟨sv,a,b,d,m⟩:=k N t (by rw[as_ M_,show N-ts.length=fl.length-1 by omega];exact f);refine⟨g,cap,?_,?_,?_⟩
  .rcases hx.2 with⟨h,_⟩|⟨_,_,_,h,_,_,hc,_⟩
   .cases h
   .cases h;exact hc
  .rw[hx.cellAt _ M_,bc_,a,hk]
  .rw[R.z.cell];rfl
def Kc:Tryz.prog.underlying 97=some (.slice 5):=K_
def GJ:Tryz.prog.underlying 5=some (.int .u8):=K_
def uU:Tryz.prog.underlying 9=some .string:=K_
def dX:Tryz.prog.underlying 38=some (.slice 3):=K_
def Qz:(Tryz.prog.info? 3).map (λi=>(i.zero,i.size,i.bytes))=some (some (O_),1,8):=K_
def cw(W:World)(g:Nat)(c:Int)(hg:W.heap.size=g):(convert 97 9 (S_ g 1 1)).run prog (W.alloc (.cells #[.int .u8 c] 5))=.ok (.string ⟨#[UInt8.ofNat c.toNat]⟩) (W.alloc (.cells #[.int .u8 c] 5)):=by
 subst hg;rw[run_convert_bytes_string _ _ _ _ _ _ _ Kc GJ uU];have hl:=run_loadCells_list (P:=prog) (W.alloc (.cells #[.int .u8 c] 5)) ⟨W.heap.size,0,none⟩ ([c].map (Value.int .u8)) (zN W #[.int .u8 c] 5 _ rfl);rw[run_bytesToString _ _ 1 1 [c] (by simpa using hl)];rfl
def kw(s:BA)(c:Nat):0<=plc s c↔c∈s.data.toList.map UInt8.toNat:=by
 unfold plc;cases h:s.data.toList.findIdx? (λb=>b.toNat==c) with
 |none=>
  rw[List.findIdx?_eq_none_iff]at h;constructor
  .intro h;simp at h
  .intro hm;obtain⟨b,hb,rfl⟩:=ay_.1 hm;have:=h b hb;simp at this
 |some k=>
  rw[List.findIdx?_eq_some_iff_getElem]at h;obtain⟨hk,hb,_⟩:=h;constructor
  .intro _;exact ay_.2 ⟨_,a0_ hk,by simpa using hb⟩
  .intro _;simp
def KF{s:BA}{i:Nat}{j:Nat}(h:pT s i=.ok (t,j)):t.kind=bt s i:=by
 have cc1:=trivial
 exact cq12_
def tP(h:kb.data.toList.map UInt8.toNat=l)(hc:c<256):(kb++⟨#[UInt8.ofNat c]⟩:BA).data.toList.map UInt8.toNat=l++[c]:=by
 subst h;have:(kb++⟨#[UInt8.ofNat c]⟩:BA).data=kb.data++#[UInt8.ofNat c]:=by simp[ByteArray.data_append]
 rw[this];simp;omega
def uY{mx MX:Int}(d:kb.data.toList.map UInt8.toNat=ds.map PT.kind)(f:t.place=i')(b:mix t (jL [] ds mx)=MX)(h:(t.kind=40\/0<=plc kb t.kind)/\(MX<0\/(i':Int)<MX)):(i':Int)=qk (ds.map PT.kind) t (mix t (jL [] ds mx)):=by
 rw[b,qk,f,<- d];simp only[<- kw];rw[i_ h]
def fG{mx MX:Int}(d:kb.data.toList.map UInt8.toNat=ds.map PT.kind)(f:t.place=i')(b:mix t (jL [] ds mx)=MX)(h:¬((t.kind=40\/0<=plc kb t.kind)/\(MX<0\/(i':Int)<MX))):MX=qk (ds.map PT.kind) t (mix t (jL [] ds mx)):=by
 rw[b,qk,f,<- d];simp only[<- kw];rw[n_ h]
def jQ{w W:World}{X:Nat->Prop}{br bz B:Nat}{s:BA}{i j:Nat}{wg mx MX:Int}{ts:List TR}{us:List (Nat×Nat)}{zs:List Value}{tv u tv2 u2 sv:Value}(n:Nat)(more:Bool)(j':Nat)(hp:pT s i'=.ok (t,j))(hi:i'<=s.size)(m:kb.data.toList.map UInt8.toNat=ds.map PT.kind)(b:i+(zJ ts.length ds).length<=i')(b:ds.length<=i')(g:pA s i=pz ds (pA s i'))(d:N=(ts++zJ ts.length ds).length+(flat (ts++zJ ts.length ds).length t).length-1)(k:MX=qk (ds.map PT.kind) t (mix t (jL [] ds mx)))(M:Mid w X br bz B s j' wg MX ((ts++zJ ts.length ds)++flat (ts++zJ ts.length ds).length t) ((us++zY ds)++zZ t) zs tv u tv2 u2 sv (jw ts.length ds++[N]) W)(hn:s.size+1-j'<=n)(hm:(more=true/\j'=j+1/\bt s j=44)\/(more=false/\j'=j/\bt s j≠44)):Zu w X br bz B s i wg mx ts us zs tv u n (.string (kb++⟨#[UInt8.ofNat t.kind]⟩)) (.bool more) W:=by
 have hb:=(xx hi).1 t j hp;have hc:=mg hp (ts.length+(zJ ts.length ds).length);have hk:t.kind<256:=by rw[KF hp];exact eQ _ _
 have b:=tg s i' hi;rw[hp]at b;simp only at b;have f:=mN ts.length ds t;have p:=lN ts.length ds t;rw[ai_]at M d;refine⟨ds++[t],j',more,_,sv,tv2,u2,rfl,rfl,by rw[tP m hk,bj_];rfl,by rw[f,ai_];omega,by rw[ai_];simp only[a6_,a7_];omega,?_,hn,λo=>?_,λm=>?_⟩
 .rw[f,p,gE,Xz,<- by_,<- by_,<- d,bk_,<- k];exact M
 .rcases hm with⟨_,rfl,d⟩|⟨h,_⟩
  .rw[g,b,i_ d,bO]
  .rw[o]at h;cases h
 .rcases hm with⟨h,_⟩|⟨_,rfl,d⟩
  .rw[m]at h;cases h
  .rw[g,b,n_ d];rfl
end Go.Proofs.YtjkiencmjggakaaGreatDoor
