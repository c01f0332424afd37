import Derived.Test.YtamhgejdkclmdaaGreatDoorW18
import Derived.LaidEql
import Derived.Stop.Asserts
set_option maxHeartbeats 16000000
set_option maxRecDepth 100000
set_option linter.defProp false
set_option linter.unusedSimpArgs false
set_option linter.unusedVariables false
open Go.Proofs.Tryz
namespace Go.Proofs.YtamhgejdkclmdaaGreatDoor
open Go.RowKit
variable {pt:Int}{c:Nat}
structure YM(w0:Aw)(P:Az)(ss:BA)(ds:Aq)(sv rv:Ax)(xs:Ay)(s:BA)(E:ja)(br j nn:Nat)(cx:Ay)(ct:Av)(t:PT)(w:Aw)(lv:Ax)(l:Af)(W:Aw):Prop where
 M:YC w0 P ss ds sv rv xs s E br j nn W
 fr:Fr w W (· = br)
 bx:Blk W w.heap.size cx ct
 bB:w.heap.size+1<=W.heap.size
 lt:br<w.heap.size
 row:∃ys,W.ownsRow (w.heap.size+1) 206 2 lv l.length ys/\GX (wJ l) l.length ys/\qn (zx ds) W (λg=>w.heap.size+1<=g/\lv.ownBlock≠some g) t l ys
section
variable {w0 w W W':Aw} {P:Az} {ss:BA} {ds:Aq} {sv rv:Ax} {xs:Ay} {s:BA} {E:ja} {br i n j nn j' nn':Nat} {cx:Ay} {ct:Av} {t:PT} {lv:Ax} {l:Af}
def YM.call(Q:YM w0 P ss ds sv rv xs s E br j nn cx ct t w lv l W)(h:yP W' br sv rv s j' nn')(hf:Fr W W' (· = br))(k:j'<=s.size):YM w0 P ss ds sv rv xs s E br j' nn' cx ct t w lv l W':=by
 have h1:=Q.lt;have d:=Q.bB;obtain⟨ys,a,b,c⟩:=Q.row;exact⟨Q.M.call h hf k,Q.fr.trans hf u_,hf.bl Q.bx M_,aj_ d hf.size,h1,ys,zj a hf (λg hg e=>by have:=a.lt g hg;omega),b,c.fr hf (λg hg e=>M_)⟩
def YM.item(Q:YM w0 P ss ds sv rv xs s E br j nn cx ct t w lv l W){o:Obj}{h:Aw}{a v:Ax}{d:DT}{key:BA}{ys:Ay}(ha:W.ownsRow (w.heap.size+1) 206 2 lv l.length ys)(r:qn (zx ds) W (λg=>w.heap.size+1<=g/\lv.ownBlock≠some g) t l ys)(hk:key.size<=4000)(hd:DaV (zx ds) W (λg=>w.heap.size+1<=g/\lv.ownBlock≠some g) d (zD (zx ds) t 0 l.length) v)(hg:(W.alloc o).grownBy h lv.ownBlock)(ho:h.ownsRow (w.heap.size+1) 206 2 a (l.length+1) (ys++[.string key,v]))(hl:a.ownBlock=lv.ownBlock\/a.ownBlock=some (W.alloc o).heap.size):YM w0 P ss ds sv rv xs s E br j nn cx ct t w a (l++[(key,d)]) h:=by
 have h1:=Q.lt;have m:=Q.bB;have a:(W.alloc o).heap.size=W.heap.size+1:=x8_
 have a:Fr W h (λg=>lv.ownBlock=some g):=((A_ W _).alloc o).gw hg (λk e _=>e);have b:∀g,lv.ownBlock=some g->w.heap.size+1<=g:=λg e=>(ha.lt g e).1;have q:YC w0 P ss ds sv rv xs s E br j nn h:=by
  have hb:=Q.M.brG;exact⟨a.bl Q.M.R (λe=>by have:=b _ e;omega),Q.M.D.fr a (λg hg e=>by have:=b _ e;have:=Q.M.Pbr g hg;omega),Q.M.G.fr a M_ (λg e=>by have:=b _ e;omega),Q.M.E1,Q.M.E2,Q.M.Pbr,Q.M.brG,Q.M.hs,Q.M.il⟩
 have h:=ha.1;refine⟨q,Q.fr.trans a (λx hx e=>absurd (b x e) M_),a.bl Q.bx (λe=>by have:=b _ e;omega),aj_ m a.size,h1,_,by rw[ah_,ap_];exact ho,?_,qn.grow r hd hk (a.mono (λg _ e=>.inl e)) (c:=br) M_ ?_⟩
 .rw[jF,ah_,ap_];exact⟨l.length,rfl,by rw[au_ M_,show l.length*2-ys.length=0 by omega];rfl⟩
 .rcases hl with e|e
  .exact .inl e
  .exact .inr ⟨_,e,M_⟩
end
def Be(R_:Except Nat (List (BA×DT)×Nat×Nat))(R:Nat->Nat->Except Nat (DT×Nat×Nat))(cnt n:Nat)(w0:Aw)(P:Az)(ss:BA)(ds:Aq)(sv rv:Ax)(xs:Ay)(s:BA)(E:ja)(br:Nat)(cx:Ay)(ct:Av)(t:PT)(w:Aw)(q:Nat)(v8 v21:Ax)(W:Aw):Prop:=
 ∃(acc:List (BA×DT)) (j nn:Nat),v21=I_ acc.length/\acc.length<=cnt/\n+acc.length<=nn/\nn<=300/\302<=q+nn/\H_ (YM w0 P ss ds sv rv xs s E br j nn cx ct t w v8 acc W)/\R_=gU acc (xy R s true (cnt-acc.length) (wJ acc) j nn)
section
variable {w0 w:Aw} {P:Az} {ss:BA} {ds:Aq} {sv rv:Ax} {xs:Ay} {s:BA} {E:ja} {br i n:Nat}
def cwQJ1_{p:Prop}(h:p:=by
 obtain⟨d,j2,m1⟩:=q;rw[hrd]at hres hRd;have hgo:=qK s (zx ds) f u j1 nn d j2 m1 M_ hnn3 hrd;have hres':=zy hres;obtain⟨ti,hi1,hi2,hi3,hi4⟩:=info_parts bM;clear hres;go_wp2_with (first
  |(go_at_call 151;apply hK.o.mono;rintro e w1 ⟨hf1,rfl,hj1,h1⟩;(try have:=cc1;have hk1:=hfac.o w1 hf1);have hC:=zy (hRd.o w1 h1 hf1);have Q1:=hQ.o.call h1 hf1 hj1;have c1:=Q1.bx.cell 1;have hb1:=Q1.bB;have hrow1:=zy (zj hrw.o hf1 (λg hg e=>by have:=hrw.o.lt g hg;omega));have hY1:=zy (hYh.o.fr hf1 (λg hg e=>by have:=hg.1;omega));simp only[aa_,ab_]at c1;replace Q1:=zy Q1;clear h1 hf1)
  |(go_at_call 45;apply hC.o.mono;rintro e w2 ⟨v2,ev2,rfl,hf2,hv2,hD2,hR2,hj2⟩;subst hv2;obtain⟨dT,dx,rfl⟩:=hD2.iface;have Q2:=Q1.o.call hR2 hf2 hj2;have hb2:=Q2.bB;have hrow2:=zy (zj hrow1.o hf2 (λg hg e=>by have:=hrow1.o.lt g hg;omega));(first|(have:=cc1;have hD2':=zy (hD2.mono (Q:=λg=>w.heap.size+1<=g/\(Value.slice (some ⟨gz,0,none⟩) acc.length lc).ownBlock≠some g) (λg _ hg=>⟨M_,λe=>by have:=hrow1.o.lt g e;omega⟩)))|(have hD2':=zy (hD2.mono (Q:=λg=>w.heap.size+1<=g/\(Value.slice la acc.length lc).ownBlock≠some g) (λg _ hg=>⟨M_,λe=>by have:=hrow1.o.lt g e;omega⟩))));have hY2:=zy (hY1.o.fr hf2 (λg hg e=>by have:=hg.1;omega));replace Q2:=zy Q2;clear hD2 hR2 hf2)
  |(at_builtin;go_must ((first|(have:=cc1;refine wpList_append_own_at _ rfl _ _ 150 rfl (w.heap.size+1) 206 ti _ 2 32 lj hi1 hi2 hi3 hi4 rfl D_ (Value.slice (some ⟨gz,0,none⟩) acc.length lc) acc.length ys rfl ?hown _ 1 1 [.string key,.iface dT dx] rfl rfl (zF _ #[.string key,.iface dT dx] _ _ ?nn) ?one ?b1 ?b2 ?b3 ?_)|(refine wpList_append_own_at _ rfl _ _ 150 rfl (w.heap.size+1) 206 ti _ 2 32 lj hi1 hi2 hi3 hi4 rfl D_ (Value.slice la acc.length lc) acc.length ys rfl ?hown _ 1 1 [.string key,.iface dT dx] rfl rfl (zF _ #[.string key,.iface dT dx] _ _ ?nn) ?one ?b1 ?b2 ?b3 ?_)))
    case hown=>exact World.ownsRow.alloc hrow2.o _
    case nn=>simp
    case one=>simp[Value.oneCell']
    case b1=>unfold maxLen;omega
    case b2=>omega
    case b3=>simp;omega
    intro v5 w5 ho5 hg5 hn5 hl5
    have Q5:=Q2.o.item (d:=d) hrow2.o hY2.o hks hD2'.o hg5 ho5 hl5
    obtain⟨g5,cap5,rfl⟩:=zp ho5 M_
    clear hg5 hl5 hn5 ho5
    replace Q5:=zy Q5))
 go_roundg (302-m1);case measure=>omega
 case rel=>
  refine⟨acc++[(key,d)],j2,m1,by simp,by simp;omega,by simp;omega,hgo.2.2.2,M_,zy Q5.o,?_⟩;rw[hres'.o,ah_,ap_,show cnt-(acc.length+1)=cn by omega,jF]):p:=h
def QJ{u:PT}{p f:Nat}{vT:Av}{vx:Ax}(Z:yk w0)(M:YC w0 P ss ds sv rv xs s E br i n w)(hn:n<=300)(O:TyV w P u (.iface vT vx))(L:∀j nn,n<=nn->nn<=300->j<=s.size->de w0 P ss ds sv rv xs s E br f u j nn):Calls prog 113 #[P_ br,.agg #[Z_ pt,.iface vT vx]] w (yx (zx ds) (.wrap 123 p u) w sv rv s E br (wQ (rdB s (zx ds) f u) s 123 i n)):=by
 refine hq_ λb9 a=>?_;rw[oO]at a;have e5:=M.hs;have a5:=M.lt;have A:Fr w (w.alloc (.cells #[Z_ pt,.iface vT vx] 220)) N_:=(A_ w _).alloc _;have y:=M.new A;have S:=B_ w #[Z_ pt,.iface vT vx] 220;have hC:=fR y.R y.hs y.il y.err;have Q:=M.brP;replace O:=zy O;replace L:=zy L;cases hb:gQ s i with
 |none=>
  rw[hb]at hC a;replace hC:=zy hC;replace A:=zy A;clear M y S hb;go_in;go_wp2_with (go_at_call 152;apply hC.o.mono;rintro e w1 ⟨hf1,rfl,j,hj,h1⟩;replace hf1:=zy hf1;replace h1:=zy h1);try go_ret
  rw[a.o];exact cS ((A.o.mono v_).trans hf1 u_) ⟨j,n,h1,hj⟩
 |some q=>
  obtain⟨v,X⟩:=q;have hg:=yS hb;obtain⟨cnt,rfl⟩:∃m:Nat,v=(m:Int):=⟨v.toNat,M_⟩;rw[hb]at hC a;simp only[bs_]at a;obtain⟨D,N⟩:=e_ (xy (rdB s (zx ds) f u) s true cnt none X n);rw[show((123:Nat)==123)=true from rfl,<- N]at a;have start:H_ (∀w1,yP w1 br sv rv s X n->Fr (w.alloc (.cells #[Z_ pt,.iface vT vx] 220)) w1 (· = br)->Be D (rdB s (zx ds) f u) cnt n w0 P ss ds sv rv xs s E br [Z_ pt,.iface vT vx] 220 (.wrap 123 p u) w 302 (L_) (O_) w1):=zy (λw1 h1 K=>⟨[],X,n,rfl,by simp,by simp,hn,M_,zy ⟨y.call h1 K hg.2.1,(A.mono v_).trans K u_,K.bl S M_,by have:=K.size;simp at this;omega,a5,[],World.ownsRow_nil _ _ _ _,rfl,qn.nil _ _ _ _⟩,by rw[rI,N];rfl⟩);replace hC:=zy hC;replace N:=zy N;have d8:(cnt:Int)<=9223372036854775807:=hg.2.2.2.1;clear M y S A hb;go_in;go_wp2_with (go_at_call 152;apply hC.o.mono;rintro e w1 ⟨hf1,rfl,hj,h1⟩;have a3:=zy (start.o w1 h1 hf1);clear hf1 h1);go_loopg [8,9,10,11,21] 302 (λq v8 v9 e7 e8 b8 W=>Be D (rdB s (zx ds) f u) cnt n w0 P ss ds sv rv xs s E br [Z_ pt,.iface vT vx] 220 (.wrap 123 p u) w q v8 b8 W);case atStart=>exact a3
  case round=>
   clear start a3 hC;obtain⟨acc,j,nn,rfl,e1,e4,hnn3,hq,hQ,hres⟩:=hrel;obtain⟨ys,b,z,C⟩:=hQ.o.row;obtain⟨la,lc,rfl⟩:=zw b;by_cases I:acc.length=cnt
   .have b5:¬(acc.length:Int)<(cnt:Int):=M_;have hr:=zy (show D=.ok (acc,j,nn) by rw[hres,show cnt-acc.length=0 by omega];simp[xy,gU]);have a4:=zy C;have hrw:=zy b;clear hres b C I z;go_wp2;try go_ret
    rw[a.o,hr.o];refine yok ?_ hQ.o.fr hQ.o.M.R hQ.o.M.il;exact a4.o.dat hrw (λg _ hg=>M_) (λg e=>by have:=(hrw.o.lt g e).1;show w.heap.size<=g;omega)
   .have b5:(acc.length:Int)<(cnt:Int):=M_;obtain⟨cn,a6⟩:∃cn,cnt-acc.length=cn+1:=⟨cnt-acc.length-1,M_⟩;rw[a6,cy]at hres;have hK:=cI hQ.o.M.R hQ.o.M.hs hQ.o.M.il hQ.o.M.err;have d7:=hQ.o.bB;have d6:acc.length<=300:=M_;cases B:vM s j with
    |none=>
     have hr:=zy (show D=.error 6 by rw[hres];simp[pX,B]);rw[B]at hK;replace hK:=zy hK;clear hres b C I z;go_wp2_with (go_at_call 151;apply hK.o.mono;rintro e w1 ⟨hf1,rfl,j1,hj1,h1⟩;replace hf1:=zy hf1;replace h1:=zy h1);try go_ret
     rw[a.o,hr.o];exact cS (hQ.o.fr.trans hf1 u_) ⟨j1,nn,h1,hj1⟩
    |some q=>
     obtain⟨key,j1⟩:=q;have d9:=kz B;have hks:key.size<=4000:=M_;rw[B]at hK;replace hK:=zy hK;have hYh:=zy C;have hrw:=zy b;cases J:wJ acc with
     |none=>
      have a0:acc.length=0:=by rw[J]at z;exact z
      have b6:¬(0:Int)<(acc.length:Int):=M_;replace a0:=zy a0;rw[J,show pX s true none j=some (key,j1) by simp[pX,B,kV]]at hres;clear b C z;simp only[oX]at hres;have hRd:=zy (λw1 (h1:yP w1 br sv rv s j1 nn) (hf:Fr wr w1 (· = br))=>L.o j1 nn M_ hnn3 M_ w1 _ (hQ.o.M.call h1 hf M_) hnn3 ((O.o.fr hQ.o.fr (λg hg e=>Q (e▸hg))).fr hf (λg hg e=>Q (e▸hg))));clear I;cases hrd:rdB s (zx ds) f u j1 nn with
      |error e0=>
       rw[hrd]at hres hRd;have hr:=zy hres;clear hres;go_wp2_with (first
        |(go_at_call 151;apply hK.o.mono;rintro e w1 ⟨hf1,rfl,hj1,h1⟩;have hC:=zy (hRd.o w1 h1 hf1);have Q1:=hQ.o.call h1 hf1 hj1;have c1:=Q1.bx.c1;replace Q1:=zy Q1;clear h1 hf1)
        |(go_at_call 45;apply hC.o.mono;rintro e w2 ⟨v2,ev2,rfl,hf2,hv2,h,hR2⟩;subst hv2;obtain⟨eT,ex,rfl⟩:=h.iface;have V:=(Q1.o.M.call hR2.choose_spec.choose_spec.1 hf2 hR2.choose_spec.choose_spec.2).G;have hz:=zy hf2.size;replace h:=zy h;replace hf2:=zy hf2;replace hR2:=zy hR2)
        |(go_at_call 154;apply(kU Z V hks).mono;rintro e w3 F;have U:=zy (λv (he:e=.returned v)=>h.o.wrap F yy_ he);obtain⟨g3,b7,rfl,a8,H,k⟩:=F;replace k:=zy k;replace H:=zy H))
       all_goals try(exfalso;omega)
       try go_ret
       rw[a.o,hr.o];refine⟨_,_,rfl,(Q1.o.fr.trans hf2 u_).trans (k.o.mono v_) u_,rfl,(U.o _ rfl).ls (by have:=Q1.o.fr.size;omega),?_⟩;obtain⟨j2,Y,h1,T⟩:=hR2.o;exact⟨j2,Y,k.o.bl h1 id,T⟩
      |ok q=>
       exact cwQJ1_
     |some key0=>
      have hm:=z;rw[J]at hm;obtain⟨m,a1,a2⟩:=hm;obtain⟨gz,d2,a9⟩:=zp b M_;cases a9;have e6:IntKind.i64.wrap ((acc.length:Int)-1)=(m:Int):=xx_
      have b6:(0:Int)<(acc.length:Int):=M_;have e3:0<acc.length:=M_;have e2:(m:Int)<(acc.length:Int):=M_;have hfac:H_ (∀w1,Fr wr w1 (· = br)->w1.cell? ⟨gz,m*2,none⟩=some (.string key0)):=zy (λw1 hf=>zt (zj b hf (λg' hg e=>by have:=b.lt g' hg;have:=hQ.o.lt;omega)) rfl a2);replace a1:=zy a1;clear a2 b C z;by_cases x:Op.bytesLess key0.toList key.toList=true;case neg=>
       have b4:(Op.bytesLess key.toList key0.toList||key.toList==key0.toList)=true:=by
        rw[wm];rw[Bool.eq_false_iff.2 x];rfl
       have hr:=zy (show D=.error 6 by rw[hres,J];simp[pX,B,kV,x]);replace x:=zy x;clear hres I;go_wp2_with (go_at_call 151;apply hK.o.mono;rintro e w1 ⟨hf1,rfl,hj1,h1⟩;have hk1:=hfac.o w1 hf1;have a7:=hQ.o.M.err w1 hf1;unfold vQ at a7;replace hf1:=zy hf1;replace h1:=zy h1);go_quiet (fail);go_wp2;try go_ret
       rw[a.o,hr.o];exact cS ((hQ.o.fr.trans hf1 u_).si (zq.drewN _ _)) ⟨_,nn,h1.o.si (zq.drewN _ _),hj1⟩
      have b4:(Op.bytesLess key.toList key0.toList||key.toList==key0.toList)=false:=by
       rw[wm];rw[show Op.bytesLess key0.toList key.toList=true from x];rfl
      rw[J,show pX s true (some key0) j=some (key,j1) by simp[pX,B,kV,x]]at hres;replace x:=zy x;simp only[oX]at hres;have hRd:=zy (λw1 (h1:yP w1 br sv rv s j1 nn) (hf:Fr wr w1 (· = br))=>L.o j1 nn M_ hnn3 M_ w1 _ (hQ.o.M.call h1 hf M_) hnn3 ((O.o.fr hQ.o.fr (λg hg e=>Q (e▸hg))).fr hf (λg hg e=>Q (e▸hg))));clear I;cases hrd:rdB s (zx ds) f u j1 nn with
      |error e0=>
       rw[hrd]at hres hRd;have hr:=zy hres;clear hres;go_wp2_with (first
        |(go_at_call 151;apply hK.o.mono;rintro e w1 ⟨hf1,rfl,hj1,h1⟩;have hk1:=hfac.o w1 hf1;have hC:=zy (hRd.o w1 h1 hf1);have Q1:=hQ.o.call h1 hf1 hj1;have c1:=Q1.bx.c1;replace Q1:=zy Q1;clear h1 hf1)
        |(go_at_call 45;apply hC.o.mono;rintro e w2 ⟨v2,ev2,rfl,hf2,hv2,h,hR2⟩;subst hv2;obtain⟨eT,ex,rfl⟩:=h.iface;have V:=(Q1.o.M.call hR2.choose_spec.choose_spec.1 hf2 hR2.choose_spec.choose_spec.2).G;have hz:=zy hf2.size;replace h:=zy h;replace hf2:=zy hf2;replace hR2:=zy hR2)
        |(go_at_call 154;apply(kU Z V hks).mono;rintro e w3 F;have U:=zy (λv (he:e=.returned v)=>h.o.wrap F yy_ he);obtain⟨g3,b7,rfl,a8,H,k⟩:=F;replace k:=zy k;replace H:=zy H))
       try go_ret
       rw[a.o,hr.o];refine⟨_,_,rfl,(Q1.o.fr.trans hf2 u_).trans (k.o.mono v_) u_,rfl,(U.o _ rfl).ls (by have:=Q1.o.fr.size;omega),?_⟩;obtain⟨j2,Y,h1,T⟩:=hR2.o;exact⟨j2,Y,k.o.bl h1 id,T⟩
      |ok q=>
       have cc1:=Nat;exact cwQJ1_
end
section
variable {w0 w:Aw} {P:Az} {ss:BA} {ds:Aq} {sv rv:Ax} {xs:Ay} {s:BA} {E:ja} {br i n:Nat}
def Zu{l:Ad}{p f:Nat}{H:Ax}{X:Ah}(hI:yg w0)(M:YC w0 P ss ds sv rv xs s E br i n w)(hn:n<=300)(hl:l.length<=4000)(ho:w.ownsRow 0 58 1 H l.length ((List.range l.length).map X))(hP:∀g,H.ownBlock=some g->P g)(hX:∀i t,l[i]?=some t->TyV w P t (X i))(K:∀t∈l,∀j,j<=s.size->de w0 P ss ds sv rv xs s E br f t j n):Calls prog 114 #[P_ br,.agg #[Z_ pt,H]] w (yx (zx ds) (.alts p l) w sv rv s E br (qt (rdB s (zx ds) f) s l i n)):=by
 refine hq_ λH b=>?_;have H:=M.lt;have Z:=M.brP;obtain⟨U,I,rfl⟩:=zw ho;have A:Fr w (w.alloc (.cells #[Z_ pt,.slice U l.length I] 223)) N_:=(A_ w _).alloc _;have z:=M.new A;have F:=B_ w #[Z_ pt,.slice U l.length I] 223;have r:=mp hl z.R z.hs z.il z.err;have H:=M.hs;unfold qt at b;cases hb:qp s 0 ((l.length:Int)-1) i with
 |none=>
  rw[hb]at r b;replace r:=zy r;replace A:=zy A;go_in;go_wp2_with (go_at_call 155;apply r.o.mono;rintro e w1 ⟨h,rfl,j,N,h1⟩;replace h:=zy h;replace h1:=zy h1);try go_ret
  rw[b.o];exact cS ((A.o.mono v_).trans h u_) ⟨j,n,h1,N⟩
 |some q=>
  obtain⟨v,j⟩:=q;have hg:=yS hb;obtain⟨k,rfl⟩:∃m:Nat,v=(m:Int):=⟨v.toNat,M_⟩;rw[hb]at r b;simp only[bs_]at b;have O:k<l.length:=M_;have Y:k<=4000:=M_;have H:(k:Int)<(l.length:Int):=M_;have hd:l[k]?=some l[k]:=ak_ O;have Q:l[k]∈l:=bj_ O;rw[hd]at b;have a1:H_ (zD (zx ds) (.alts p l) k 0=l[k]):=zy (by simp[zD,aw_,hd]);generalize l[k]=t at hd Q b a1;simp only at b;have H:=hX k t hd;obtain⟨T,x,hx⟩:=H.iface;obtain⟨g,U,U⟩:=zp ho M_;cases U;have L:H_ (∀w1,Fr w w1 (· = br)->w1.cell? ⟨g,k,none⟩=some (.iface T x)/\TyV w1 P t (.iface T x)):=zy (λw1 hf=>⟨by rw[zt (zj ho hf (λg' hg e=>Z (e▸hP g' hg))) rfl (k:=k) (x:=X k) (by simp[O]),hx],hx▸H.fr hf (λg' hg e=>Z (e▸hg))⟩);have D:=zy (λw1 (h1:yP w1 br sv rv s j n) (hf:Fr w w1 (· = br))=>K t Q j M_ w1 _ (M.call h1 hf M_) hn (L.o w1 hf).2);have hB:=zy (λw1 (hf:Fr (w.alloc (.cells #[Z_ pt,S_ g l.length I] 223)) w1 (· = br))=>hf.bl F M_);replace r:=zy r;replace A:=zy A;have hG:=zy (λw1 (h1:yP w1 br sv rv s j n) (hf:Fr w w1 (· = br))=>M.call h1 hf M_);cases a0:rdB s (zx ds) f t j n with
  |error e0=>
   rw[a0]at b D;go_in;go_wp2_with (first
    |(go_at_call 155;apply r.o.mono;rintro e w1 ⟨h,rfl,N,h1⟩;have a:=(A.o.mono (T:=λg=>g=br) v_).trans h u_;have c1:=(L.o w1 a).1;have b1:=(hB.o w1 h).c1;have J:=zy (D.o w1 h1 a);have hM:=zy (hG.o w1 h1 a);replace a:=zy a)
    |(go_at_call 45;apply J.o.mono;rintro e w2 ⟨v2,a2,rfl,y,S,B,u⟩;subst S;obtain⟨z,z,rfl⟩:=B.iface;have z:=(hM.o.call u.choose_spec.choose_spec.1 y u.choose_spec.choose_spec.2).G;have hz:=zy y.size;replace B:=zy B;replace y:=zy y;replace u:=zy u)
    |(go_at_call 156;apply(wn (n:=k) hI z Y).mono;rintro e z V;have a3:=zy (λv (he:e=.returned v)=>B.o.wrap V yy_ he);obtain⟨z,z,rfl,z,z,C⟩:=V;replace C:=zy C;replace z:=zy z))
   try go_ret
   rw[b.o];refine⟨_,_,rfl,(a.o.trans y u_).trans (C.o.mono v_) u_,rfl,(a3.o _ rfl).ls (by have:=a.o.size;omega),?_⟩;obtain⟨z,F,h1,B⟩:=u.o;exact⟨z,F,C.o.bl h1 id,B⟩
  |ok q=>
   obtain⟨d,z,F⟩:=q;rw[a0]at b D;go_in;go_wp2_with (first
    |(go_at_call 155;apply r.o.mono;rintro e w1 ⟨h,rfl,N,h1⟩;have a:=(A.o.mono (T:=λg=>g=br) v_).trans h u_;have c1:=(L.o w1 a).1;have b1:=(hB.o w1 h).c1;have J:=zy (D.o w1 h1 a);replace a:=zy a)
    |(go_at_call 45;apply J.o.mono;rintro e w2 ⟨v2,a2,rfl,y,S,B,u,C⟩;subst S;obtain⟨dT,dx,rfl⟩:=B.iface;replace B:=zy B;replace y:=zy y;replace u:=zy u))
   try go_ret
   rw[b.o];have hz:=a.o.size;refine yok (.branch k Y ?_) (a.o.trans y u_) u C;rw[a1.o];exact B.o.mono (λg _ hg=>M_)
def eQ{l:As}{t:PT}{y:Ax}{dd:Al}(M:YC w0 P ss ds sv rv xs s E br i n w)(hl:l.length<=300)(G:∀q∈l,zl q.1=true)(ho:w.ownsRow 0 192 2 y l.length (zI l))(hP:∀g,y.ownBlock=some g->P g)(D:∀k,fW (zx ds) t k=(l.map Prod.fst).getD k 0):Calls prog 116 #[P_ br,.agg #[Z_ pt,y,.pointer dd]] w (yx (zx ds) t w sv rv s E br (match qp s 0 ((l.length:Int)-1) i with|none=>.error 6|some (q,j)=>.ok (.mk 101 q noB [] [],j,n))):=by
 refine hq_ λy u=>?_;have y:=M.lt;have O:=M.brP;obtain⟨F,z,rfl⟩:=zw ho;have A:Fr w (w.alloc (.cells #[Z_ pt,.slice F l.length z,.pointer dd] 233)) N_:=(A_ w _).alloc _;have h:=M.new A;have x:=B_ w #[Z_ pt,.slice F l.length z,.pointer dd] 233;have b:=mp (m:=l.length) M_ h.R h.hs h.il h.err;have y:=M.hs;cases hb:qp s 0 ((l.length:Int)-1) i with
 |none=>
  rw[hb]at b u;replace b:=zy b;replace A:=zy A;go_in;go_wp2_with (go_at_call 155;apply b.o.mono;rintro e w1 ⟨d,rfl,j,B,h1⟩;replace d:=zy d;replace h1:=zy h1);try go_ret
  rw[u.o];exact cS ((A.o.mono v_).trans d u_) ⟨j,n,h1,B⟩
 |some q=>
  obtain⟨v,j⟩:=q;have hg:=yS hb;obtain⟨k,rfl⟩:∃m:Nat,v=(m:Int):=⟨v.toNat,M_⟩;rw[hb]at b u;have y:k<l.length:=M_;have N:k<=4000:=M_;have F:(k:Int)<(l.length:Int):=M_;have hd:l[k]?=some l[k]:=ak_ y;have C:l[k]∈l:=bj_ y;have r:fW (zx ds) t k=l[k].1:=by rw[D k];simp[aw_,hd]
  generalize l[k]=c at hd C r;obtain⟨cl,y⟩:=c;have F:=G _ C;obtain⟨y,y,L⟩:=kS F;simp only at r y;have J:cl<256:=M_;obtain⟨g,L,L⟩:=zp ho M_;cases L;have K:H_ (∀w1,Fr w w1 (· = br)->w1.cell? ⟨g,k*2+1,none⟩=some (U_ cl)):=zy (λw1 hf=>zt (zj ho hf (λg' hg e=>O (e▸hP g' hg))) rfl (xV hd).2);have hB:=zy (λw1 (hf:Fr (w.alloc (.cells #[Z_ pt,S_ g l.length z,.pointer dd] 233)) w1 (· = br))=>hf.bl x M_);replace b:=zy b;replace A:=zy A;replace r:=zy r;replace y:=zy y;go_in;go_wp2_with (go_at_call 155;apply b.o.mono;rintro e w1 ⟨d,rfl,B,h1⟩;have b:=(A.o.mono (T:=λg=>g=br) v_).trans d u_;have c1:=(K.o w1 b);have b1:=(hB.o w1 d).c1;replace b:=zy b;replace h1:=zy h1);try go_ret
  rw[u.o];refine yok (.flat (.sym k cl N) (λh d e=>?_)) b h1 B;injection e with _ e
  injection e with e
  have b:=congrArg (λa=>a.toList) e;simp only[List.cons.injEq,Value.int.injEq,true_and,and_true]at b;obtain⟨u,u⟩:=b;have H:cl=d:=M_;have I:k=h:=M_;subst H;subst I;exact⟨r,J⟩
def Zc{k:Nat}{t:PT}(M:YC w0 P ss ds sv rv xs s E br i n w)(hk:k<=9):Calls prog 117 #[P_ br,.agg #[Z_ pt,I_ k]] w (yx (zx ds) t w sv rv s E br (match je s i k with|none=>.error 6|some (tx,j)=>.ok (.mk 102 0 tx [] [],j,n))):=by
 refine hq_ λd g=>?_;have A:Fr w (w.alloc (.cells #[Z_ pt,I_ k] 235)) N_:=(A_ w _).alloc _;have d:=M.new A;have a:=pM (m:=k) d.R d.hs d.il M_ d.err;have u:=M.hs;have r:=M.il;replace A:=zy A;cases hb:je s i k with
 |none=>
  rw[hb]at a g;replace a:=zy a;go_in;go_wp2_with (go_at_call 158;apply a.o.mono;rintro e w1 ⟨b,rfl,j,h,h1⟩;replace b:=zy b;replace h1:=zy h1);try go_ret
  rw[g.o];exact cS ((A.o.mono v_).trans b u_) ⟨j,n,h1,h⟩
 |some q=>
  obtain⟨tx,j⟩:=q;have hg:=wa r hb;rw[hb]at a g;replace a:=zy a;go_in;go_wp2_with (go_at_call 158;apply a.o.mono;rintro e w1 ⟨b,rfl,h,h1⟩;replace b:=zy b;replace h1:=zy h1);try go_ret
  rw[g.o];exact yok (W_ (.bytes tx M_) D_) ((A.o.mono v_).trans b u_) h1 h
end
def BZ(R_:Except Nat (List DT×Nat×Nat))(R:PT->Nat->Nat->Except Nat (DT×Nat×Nat))(fs:An)(n:Nat)(w0:Aw)(P:Az)(ss:BA)(ds:Aq)(sv rv:Ax)(xs:Ay)(s:BA)(E:ja)(br:Nat)(cx:Ay)(ct:Av)(t:PT)(w:Aw)(q:Nat)(v6 v14:Ax)(W:Aw):Prop:=
 ∃(l:List DT) (j nn:Nat),v14=I_ l.length/\l.length<=fs.length/\n<=nn/\nn<=300/\302<=q+l.length/\H_ (YL w0 P ss ds sv rv xs s E br j nn cx ct t w v6 l W)/\R_=mz l (yZ R ((fs.map PF.ty).drop l.length) j nn)
section
variable {w0 w:Aw} {P:Az} {ss:BA} {ds:Aq} {sv rv:Ax} {xs:Ay} {s:BA} {E:ja} {br i n:Nat}
def BT:Except Nat (List DT×Nat×Nat)->Except Nat (DT×Nat×Nat)
 | .error e=>.error e
 | .ok (l,j,m)=>.ok (.mk 114 0 noB [] l,j,m)
def eK{fs:An}{t:PT}{f:Nat}{fv:Ax}{zs:Ay}(M:YC w0 P ss ds sv rv xs s E br i n w)(hn:n<=300)(m:xu w P ss fs fv zs)(H:∀g∈fs,zl g.letter=true)(a7:fs.length<=300)(I:∀k g,fs[k]?=some g->zD (zx ds) t 0 k=g.ty)(D:∀g∈fs,∀j nn,n<=nn->nn<=300->j<=s.size->de w0 P ss ds sv rv xs s E br f g.ty j nn):Calls prog 115 #[P_ br,.agg #[Z_ pt,fv]] w (yx (zx ds) t w sv rv s E br (BT (yZ (rdB s (zx ds) f) (fs.map PF.ty) i n))):=by
 refine hq_ λa3 Q_=>?_;have a9:=M.hs;have V:=M.lt;have a0:=M.brP;obtain⟨b,h,rfl⟩:=zw m.row;have A:Fr w (w.alloc (.cells #[Z_ pt,.slice b fs.length h] 228)) N_:=(A_ w _).alloc _;have K:=M.new A;have z:=B_ w #[Z_ pt,.slice b fs.length h] 228;obtain⟨B,y⟩:=e_ (yZ (rdB s (zx ds) f) (fs.map PF.ty) i n);rw[<- y]at Q_;have start:H_ (BZ B (rdB s (zx ds) f) fs n w0 P ss ds sv rv xs s E br [Z_ pt,.slice b fs.length h] 228 t w 302 (L_) (O_) (w.alloc (.cells #[Z_ pt,.slice b fs.length h] 228))):=zy ⟨[],i,n,rfl,by simp,l_,hn,by simp,zy ⟨K,A.mono v_,z,by simp,V,jX.nil _ _ _ _ _⟩,by rw[Xp,y];rfl⟩;replace y:=zy y;replace D:=zy D;replace m:=zy m;replace H:=zy H;replace I:=zy I;have hb1:=z.c1;clear M K A z;go_in;go_wp2;go_loopg [6,8,9,10,14] 302 (λq v6 v8 v9 b4 a2 W=>BZ B (rdB s (zx ds) f) fs n w0 P ss ds sv rv xs s E br [Z_ pt,.slice b fs.length h] 228 t w q v6 a2 W);case atStart=>exact start
 case round=>
  clear start hb1;obtain⟨l,j,nn,rfl,a6,a1,hnn3,hq,hQ,hres⟩:=hrel;obtain⟨Y,hrow,hY⟩:=hQ.o.row;obtain⟨la,lc,rfl⟩:=zw hrow;by_cases Q:l.length=fs.length
  .have Z:¬(l.length:Int)<(fs.length:Int):=M_;have hr:=zy (show B=.ok (l,j,nn) by rw[hres,List.drop_of_length_le x1_];simp[yZ,mz]);have L:=zy hQ.o.row;clear hres hrow hY Q;go_wp2;try go_ret
   rw[Q_.o,hr.o];refine yok ?_ hQ.o.fr hQ.o.M.R hQ.o.M.il;exact L.o.dat (λg _ hg=>M_) (λg e=>by have:=L.o;obtain⟨_,a,_⟩:=this;have:=(a.lt g e).1;show w.heap.size<=g;omega) (.inr ⟨rfl,rfl⟩)
  .have Z:(l.length:Int)<(fs.length:Int):=M_;have F:l.length<fs.length:=M_;have hd:fs[l.length]?=some fs[l.length]:=ak_ F;have hmem:fs[l.length]∈fs:=bj_ F;have O:(fs.map PF.ty).drop l.length=fs[l.length].ty::(fs.map PF.ty).drop (l.length+1):=by
    rw[bo_ (by simpa using F),List.getElem_map]
   rw[O,Zv]at hres;generalize fs[l.length]=g0 at hd hmem hres;have C:=m.o.fr hQ.o.fr (λg hg e=>a0 (e▸hg));obtain⟨gz,a4,X⟩:=zp C.row M_;cases X;obtain⟨T,x,d0,c0,c1,c2,c3,N,U⟩:=C.cells hd;obtain⟨lt,G⟩:=x_ g0.letter;obtain⟨J,S⟩:=x_ g0.place;have hls:zl lt=true:=by rw[<- G];exact H.o _ hmem
   rw[G]at c1;rw[S]at c0;have hsb:=zy (I.o _ _ hd);have A1:=(A_ wr N_).alloc (.cells #[I_ J,U_ lt,.iface T x,.pointer d0] 195);have N1:=B_ wr #[I_ J,U_ lt,.iface T x,.pointer d0] 195;have hz1:(wr.alloc (.cells #[I_ J,U_ lt,.iface T x,.pointer d0] 195)).heap.size=wr.heap.size+1:=x8_
   have Q0:=hQ.o.call (A1.bl hQ.o.M.R id) (A1.mono v_) hQ.o.M.il;have hC:=D.o _ hmem j nn a1 hnn3 hQ.o.M.il _ _ Q0.M hnn3 (N.fr A1 u_);have a5:=hQ.o.bB;have a8:=hQ.o.lt;have hL3:l.length<=300:=M_;revert N1 hz1 Q0;refine h_ λN1 hz1 Q0=>?_;clear N U C G S O Q;cases hrd:rdB s (zx ds) f g0.ty j nn with
   |error e0=>
    have cc1:=Nat;exact cwVr2_
   |ok q=>
    have cc1:=Nat;exact cwVr1_
end
def kC(s:BA)(env:Au)(f:Nat)(t:PT)(i n:Nat):Except Nat (DT×Nat×Nat):=
 match t with
 | .leaf c _=>wK (rdB s env f) s env c i n
 | .wrap c _ t=>wQ (rdB s env f t) s c i n
 | .alts _ ts=>qt (rdB s env f) s ts i n
def Ks(s:BA)(env:Au)(f:Nat)(t:PT)(i n:Nat):rdB s env (f+1) t i n=if 300<=n then .error 7 else kC s env f t i (n+1):=by
 cases t<;>(rw[rdB];rfl)
def Pe(s:BA)(i:Nat):qp s (-9223372036854775808) 9223372036854775807 i=bL s i:=by
 unfold qp;cases h:bL s i with
 |none=>rfl
 |some q=>
  obtain⟨z,j⟩:=q;have:=cN h;simp only;rw[i_ ⟨this.2.2.1,this.2.2.2⟩]
def tY(w0:Aw)(P:Az)(ss:BA)(ds:Aq)(sv rv:Ax)(xs:Ay)(s:BA)(E:ja)(br f:Nat)(t:PT)(i n:Nat):Prop:=
 ∀(w:World) (v:Value),YC w0 P ss ds sv rv xs s E br i n w->n<=300->TyV w P t v->
  Calls prog 83 #[P_ br,v] w (yx (zx ds) t w sv rv s E br (kC s (zx ds) f t i n))
def PM(w0:Aw)(P:Az)(ss:BA)(ds:Aq)(sv rv:Ax)(xs:Ay)(s:BA)(E:ja)(br f c p:Nat)(b:PB)(i n:Nat):Prop:=
 ∀(w:World) (v:Value),YC w0 P ss ds sv rv xs s E br i n w->n<=300->yX w P ss b v->
  Calls prog 83 #[P_ br,v] w (yx (zx ds) (.leaf c p) w sv rv s E br (jz (rdB s (zx ds) f) s b i n))
section
variable {w0:Aw} {P:Az} {ss:BA} {ds:Aq} {sv rv:Ax} {xs:Ay} {s:BA} {E:ja} {br i n:Nat} {f p:Nat}
def Pn:tY w0 P ss ds sv rv xs s E br f (.leaf 110 p) i n:=by
 intro w v M hn d;obtain rfl:v=.iface 212 (.agg #[I_ p]):=by
  cases d with
  |base _ _ h=>rfl
  |name _ _ h=>exact absurd h D_
 refine hq_ λa a=>?_;unfold kC at a;simp only at a;unfold wK at a;have A:Fr w (w.alloc (.cells #[I_ p] 212)) N_:=(A_ w _).alloc _;have b:=M.new A;rw[i_ rfl]at a;replace b:=zy b;replace A:=zy A;go_in;go_wp2;try go_ret
 rw[a.o];exact yok (W_ .nothing D_) (A.o.mono v_) b.o.R b.o.il
def Pd:tY w0 P ss ds sv rv xs s E br f (.leaf 116 p) i n:=by
 intro w v M hn g;obtain rfl:v=.iface 214 (.agg #[I_ p]):=by
  cases g with
  |base _ _ h=>rfl
  |name _ _ h=>exact absurd h D_
 refine hq_ λd a=>?_;unfold kC at a;simp only at a;unfold wK at a;have A:Fr w (w.alloc (.cells #[I_ p] 214)) N_:=(A_ w _).alloc _;have d:=M.new A;rw[n_ D_,i_ rfl]at a;have m:=zy (Zm (env:=zx ds) (t:=.leaf 116 p) d);replace A:=zy A;go_in;go_wp2_with (go_at_call 109;apply m.o.mono;intro e d q;obtain⟨r,k,rfl,b⟩:=q;replace b:=zy b);try go_ret
 rw[a.o];exact yx.pre A ⟨r,k,rfl,b⟩
def Pi:tY w0 P ss ds sv rv xs s E br f (.leaf 105 p) i n:=by
 intro w v M hn g;obtain rfl:v=.iface 215 (.agg #[I_ p]):=by
  cases g with
  |base _ _ h=>rfl
  |name _ _ h=>exact absurd h D_
 refine hq_ λd a=>?_;unfold kC at a;simp only at a;unfold wK at a;have A:Fr w (w.alloc (.cells #[I_ p] 215)) N_:=(A_ w _).alloc _;have d:=M.new A;rw[n_ D_,n_ D_,i_ rfl]at a;have m:=zy (pU (env:=zx ds) (t:=.leaf 105 p) (c:=105) (lo:=-2147483648) (up:=2147483647) (.inl rfl) d);replace A:=zy A;go_in;go_wp2_with (go_at_call 110;apply m.o.mono;intro e d q;obtain⟨r,k,rfl,b⟩:=q;replace b:=zy b);try go_ret
 rw[a.o];exact yx.pre A ⟨r,k,rfl,b⟩
def Ps:tY w0 P ss ds sv rv xs s E br f (.leaf 108 p) i n:=by
 intro w v M hn k;obtain rfl:v=.iface 216 (.agg #[I_ p]):=by
  cases k with
  |base _ _ h=>rfl
  |name _ _ h=>exact absurd h D_
 refine hq_ λb a=>?_;unfold kC at a;simp only at a;unfold wK at a;have A:Fr w (w.alloc (.cells #[I_ p] 216)) N_:=(A_ w _).alloc _;have g:=M.new A;rw[n_ D_,n_ D_,n_ D_,i_ rfl]at a;have b:=pU (env:=zx ds) (t:=.leaf 108 p) (c:=108) (lo:=-9223372036854775808) (up:=9223372036854775807) (.inr rfl) g;rw[Pe]at b;replace b:=zy b;replace A:=zy A;go_in;go_wp2_with (go_at_call 110;apply b.o.mono;intro e b q;obtain⟨r,m,rfl,d⟩:=q;replace d:=zy d);try go_ret
 rw[a.o];exact yx.pre A ⟨r,m,rfl,d⟩
def Pt:tY w0 P ss ds sv rv xs s E br f (.leaf 115 p) i n:=by
 intro w v M hn g;obtain rfl:v=.iface 217 (.agg #[I_ p]):=by
  cases g with
  |base _ _ h=>rfl
  |name _ _ h=>exact absurd h D_
 refine hq_ λd a=>?_;unfold kC at a;simp only at a;unfold wK at a;have A:Fr w (w.alloc (.cells #[I_ p] 217)) N_:=(A_ w _).alloc _;have d:=M.new A;rw[n_ D_,n_ D_,n_ D_,n_ D_,i_ rfl]at a;have m:=zy (Vh (env:=zx ds) (t:=.leaf 115 p) d);replace A:=zy A;go_in;go_wp2_with (go_at_call 111;apply m.o.mono;intro e d q;obtain⟨r,k,rfl,b⟩:=q;replace b:=zy b);try go_ret
 rw[a.o];exact yx.pre A ⟨r,k,rfl,b⟩
def UW{t:PT}(hI:yg w0)(hR:∀j nn,n<=nn->nn<=300->j<=s.size->de w0 P ss ds sv rv xs s E br f t j nn):tY w0 P ss ds sv rv xs s E br f (.wrap 91 p t) i n:=by
 have cc1:=Nat
 exact cq17_
def Pr{t:PT}(hI:yk w0)(hR:∀j nn,n<=nn->nn<=300->j<=s.size->de w0 P ss ds sv rv xs s E br f t j nn):tY w0 P ss ds sv rv xs s E br f (.wrap 123 p t) i n:=by
 have cc1:=Nat
 exact cq16_
def UG{l:Ad}(x:yg w0)(hl:l.length<=4000)(k:∀t∈l,∀j,j<=s.size->de w0 P ss ds sv rv xs s E br f t j n):tY w0 P ss ds sv rv xs s E br f (.alts p l) i n:=by
 intro w v M hn m;obtain⟨X,a,ho,hP,hX,rfl⟩:∃(X:Nat->Value) (a:Value),w.ownsRow 0 58 1 a l.length ((List.range l.length).map X)/\(∀g,a.ownBlock=some g->P g)/\(∀i t,l[i]?=some t->TyV w P t (X i))/\v=.iface 223 (.agg #[I_ p,a]):=by
  cases m with
  |alts _ X ho hP h=>exact⟨X,_,ho,hP,h,rfl⟩
 obtain⟨q,r,rfl⟩:=zw ho;refine hq_ λa b=>?_;unfold kC at b;simp only at b;have A:Fr w (w.alloc (.cells #[I_ p,.slice q l.length r] 223)) N_:=(A_ w _).alloc _;have a:=M.new A;have m:=zy (Zu (p:=p) (pt:=(p:Int)) x a hn hl (zj ho A u_) hP (λi t e=>(hX i t e).fr A u_) k);replace A:=zy A;go_in;go_wp2_with (go_at_call 114;apply m.o.mono;intro e a y;obtain⟨z,u,rfl,d⟩:=y;replace d:=zy d);try go_ret
 rw[b.o];exact yx.pre A ⟨z,u,rfl,d⟩
def WP{fs:An}(hb:zx ds c=some (.recd fs))(y:∀g∈fs,zl g.letter=true)(D:fs.length<=300)(x:∀g∈fs,∀j nn,n<=nn->nn<=300->j<=s.size->de w0 P ss ds sv rv xs s E br f g.ty j nn):PM w0 P ss ds sv rv xs s E br f c p (.recd fs) i n:=by
 intro w v M hn d;obtain⟨z,a,zs,ho,hP,h,rfl⟩:∃(p:Nat) (a:Value) (zs:List Value),w.ownsRow 0 195 4 a fs.length zs/\(∀g,a.ownBlock=some g->P g)/\xX w P ss fs zs/\v=.iface 228 (.agg #[I_ p,a]):=by
  cases d with
  |recd p ho hP h=>exact⟨p,_,_,ho,hP,h,rfl⟩
 obtain⟨r,u,rfl⟩:=zw ho;refine hq_ λa m=>?_;have hr:jz (rdB s (zx ds) f) s (.recd fs) i n=BT (yZ (rdB s (zx ds) f) (fs.map PF.ty) i n):=by
  unfold jz;simp only;cases yZ (rdB s (zx ds) f) (fs.map PF.ty) i n with
  |error e=>rfl
  |ok q=>rfl
 rw[hr]at m;have A:Fr w (w.alloc (.cells #[I_ z,.slice r fs.length u] 228)) N_:=(A_ w _).alloc _;have d:=M.new A;have a:xu w P ss fs (.slice r fs.length u) zs:=⟨ho,hP,h⟩;have r:=zy (eK (t:=.leaf c p) (pt:=(z:Int)) d hn (a.fr A u_) y D (λk g e=>by simp[zD,hb,aw_,e]) x);replace A:=zy A;go_in;go_wp2_with (go_at_call 115;apply r.o.mono;intro e a C;obtain⟨F,B,rfl,b⟩:=C;replace b:=zy b);try go_ret
 rw[m.o];exact yx.pre A ⟨F,B,rfl,b⟩
def WB{l:As}{o:Ac}(hb:zx ds c=some (.enum l o))(x:∀q∈l,zl q.1=true)(F:l.length<=300):PM w0 P ss ds sv rv xs s E br f c p (.enum l o) i n:=by
 intro w v M hn r;obtain⟨y,a,u,ho,hP,hu,rfl⟩:∃(p:Nat) (a u:Value),w.ownsRow 0 192 2 a l.length (zI l)/\(∀g,a.ownBlock=some g->P g)/\qu w P o u/\v=.iface 233 (.agg #[I_ p,a,u]):=by
  cases r with
  |enum p ho hP h=>exact⟨p,_,_,ho,hP,h,rfl⟩
 obtain⟨B,C,rfl⟩:=zw ho;obtain⟨dd,rfl⟩:∃d,u=.pointer d:=by
  unfold qu at hu;split at hu
  .exact⟨_,hu⟩
  .obtain⟨g',_,e,_⟩:=hu;exact⟨_,e⟩
 refine hq_ λa b=>?_;unfold jz at b;simp only at b;have A:Fr w (w.alloc (.cells #[I_ y,.slice B l.length C,.pointer dd] 233)) N_:=(A_ w _).alloc _;have a:=M.new A;have r:=zy (eQ (t:=.leaf c p) (pt:=(y:Int)) (dd:=dd) a F x (zj ho A u_) hP (λk=>by simp[fW,hb]));replace A:=zy A;go_in;go_wp2_with (go_at_call 116;apply r.o.mono;intro e a D;obtain⟨G,z,rfl,m⟩:=D;replace m:=zy m);try go_ret
 rw[b.o];exact yx.pre A ⟨G,z,rfl,m⟩
def JA{k:Nat}(hk:k<=9):PM w0 P ss ds sv rv xs s E br f c p (.bytes k) i n:=by
 intro w v M hn d;obtain⟨g,rfl⟩:∃p:Nat,v=.iface 235 (.agg #[I_ p,I_ k]):=by
  cases d with
  |bytes p n=>exact⟨p,rfl⟩
 refine hq_ λm a=>?_;unfold jz at a;simp only at a;have A:Fr w (w.alloc (.cells #[I_ g,I_ k] 235)) N_:=(A_ w _).alloc _;have d:=M.new A;have m:=zy (Zc (t:=.leaf c p) (pt:=(g:Int)) d hk);replace A:=zy A;go_in;go_wp2_with (go_at_call 117;apply m.o.mono;intro e d q;obtain⟨r,h,rfl,b⟩:=q;replace b:=zy b);try go_ret
 rw[a.o];exact yx.pre A ⟨r,h,rfl,b⟩
def Gj(hc:zo c=true){b:PB}(hb:zx ds c=some b)(Y:PM w0 P ss ds sv rv xs s E br f c p b i n):tY w0 P ss ds sv rv xs s E br f (.leaf c p) i n:=by
 intro w v M hn L;have a2:65<=c/\c<=70:=z7_
 obtain rfl:v=.iface 226 (.agg #[I_ p,U_ c]):=by
  cases L with
  |base _ _ h=>
   simp only[zr,ax_,beq_iff_eq]at h;omega
  |name _ _ h=>rfl
 have hr:kC s (zx ds) f (.leaf c p) i n=jz (rdB s (zx ds) f) s b i n:=by
  unfold kC;simp only;unfold wK;rw[n_ M_,n_ M_,n_ M_,n_ M_,n_ M_,hb]
 rw[hr];obtain⟨X,J⟩:=e_ (jz (rdB s (zx ds) f) s b i n);rw[<- J];refine hq_ λa0 V=>?_;have A:Fr w (w.alloc (.cells #[I_ p,U_ c] 226)) N_:=(A_ w _).alloc _;have a:=M.new A;have d:=B_ w #[I_ p,U_ c] 226;have a1:=M.lt;have N:=zy (And.intro a (And.intro d A));clear hr L M a d A;go_in;go_wp2;obtain⟨a,d,A⟩:=N.o;have z:=a.si (zq.drew _);have u0:=a.R.c0;have O:=a.R.c1;have u2:=d.c1;have I:=jk (rv:=rv) c z.D;refine tR_ (λW=>z_ W br 0 sv/\z_ W br 1 rv/\z_ W w.heap.size 1 (U_ c)) ?_;refine tY_ 0 ?_;refine tY_ 1 ?_;refine tY_ 2 ?_;refine tY_ 3 ?_;refine tY_ 4 ?_;refine tY_ 5 ?_;refine tY_ 6 ?_;refine zV 7 rfl K_ ⟨u0,O,u2⟩ (λK g=>?_);go_simp;apply I.mono;rintro e w2 ⟨Z,rfl,k,G⟩;refine g _ _ ?_;clear g K;rw[hb]at G;have x:=z.new k;have C:=Y w2 Z x hn G;have F:=k.bl (((A_ _ N_).si (zq.drew (w.alloc (.cells #[I_ p,U_ c] 226)))).bl d id) id;have S:=x.R.c0;have T:=x.R.c1;have U:=F.c1;rw[<- J]at C;refine zV 8 rfl K_ ⟨S,T,U⟩ (λK g=>?_);go_simp;apply C.mono;rintro e w3 ⟨Q,H,rfl,y,u⟩;refine g _ _ ?_;clear g K;obtain⟨j3,m3,B⟩:∃j m,yP w3 br sv rv s j m:=by
  cases X with
  |error e=>exact⟨_,_,u.2.2.choose_spec.choose_spec.1⟩
  |ok q=>exact⟨_,_,u.2.2.1⟩
 have y0:=B.c0;have y1:=B.c1;have y2:=(y.bl F M_).c1;replace u:=zy u;replace y:=zy y;replace k:=zy k;replace A:=zy A;clear I C a z x d F G N u0 O u2 S T U B;refine tY_ 9 ?_;refine tY_ 10 ?_;refine tY_ 11 ?_;refine tY_ 12 ?_;refine zO K_ ⟨y0,y1,y2⟩ ?_ _;go_wp2;refine bodyPost_ret (v:=.tuple #[Q,H]) (by simp[results,results83,go_sem]) rfl ?_;rw[V.o];exact yx.pre (A.o.trans (((A_ _ N_).si (zq.drew _)).trans k u_) u_) ⟨Q,H,rfl,y,u⟩
end
def yx.pre2{env:Au}{t:PT}{w w1 w':Aw}{sv rv:Ax}{s:BA}{E:ja}{br:Nat}{res:Except Nat (DT×Nat×Nat)}{e:Ak}(hf:Fr w w1 (· = br))(h:yx env t w1 sv rv s E br res e w'):yx env t w sv rv s E br res e w':=by
 have cc1:=Nat
 exact cq31_
section
variable {w0:Aw} {P:Az} {ss:BA} {ds:Aq} {sv rv:Ax} {xs:Ay} {s:BA} {E:ja} {br i n:Nat} {f p:Nat} {t:PT}
def Pq(k:n<300->tY w0 P ss ds sv rv xs s E br f t i (n+1)):de w0 P ss ds sv rv xs s E br (f+1) t i n:=by
 intro w v M hn d;refine hq_ λr b=>?_;rw[Ks]at b;have c4:=M.R.c4;have f4:=M.R.th 4;obtain⟨r,r,rfl⟩:=d.iface;by_cases m:n=300
 .subst m;rw[i_ l_]at b;have hB:=M.big;have a:=zy M;go_in;go_wp2;go_quiet (fail);go_wp2;try go_ret
  rw[b.o];exact⟨_,_,rfl,(A_ w _).si (zq.drewN _ _),rfl,.base,i,300,a.o.R.si (zq.drewN _ _),a.o.il⟩
 .rw[n_ M_]at b;have m:((n:Int)==300)=false:=x1_
  have a:Fr w (w.setCell ⟨br,4,none⟩ (Z_ ((n:Int)+1))) (· = br):=(A_ w (· = br)).setCell _ _ (λ_=>rfl);have m:=M.call M.R.node a M.il;have r:=zy (k M_ _ _ m M_ (d.fr a (λg hg e=>M.brP (e▸hg))));replace a:=zy a;have y:(n:Int)<=300:=M_;go_in;go_wp2_with (go_at_call 83;apply r.o.mono;intro e d u;obtain⟨x,q,rfl,h⟩:=u;replace h:=zy h);try go_ret
  rw[b.o];exact yx.pre2 a ⟨x,q,rfl,h⟩
def Mn(m:vb ds)(r:JH (zx ds))(e:yg w0)(q:yk w0):∀(f:Nat) (t:PT) (i n:Nat),okT (zx ds) t->xA t->n<=300->301<=f+n->de w0 P ss ds sv rv xs s E br f t i n:=by
 intro f;induction f with
 |zero=>intro t i n _ _ h1 b;omega
 |succ f ih=>
  intro t i n a hw hn hm;refine Pq (λd=>?_);have next:∀u,okT (zx ds) u->xA u->∀j nn,n+1<=nn->nn<=300->j<=s.size->de w0 P ss ds sv rv xs s E br f u j nn:=λu hu hv j nn h1 b d=>ih u j nn hu hv b M_;cases t with
  |leaf c p=>
   unfold okT at a;rcases a with hb|⟨v,pb,he⟩
   .simp only[zr,ax_,beq_iff_eq]at hb;rcases hb with(((rfl|rfl)|rfl)|rfl)|rfl
    .exact Pn
    .exact Pd
    .exact Pi
    .exact Ps
    .exact Pt
   .obtain⟨b,d⟩:=m c pb he;refine Gj v he ?_;cases pb with
    |recd fs=>exact WP he b.2.1 b.1 (λg hg=>next g.ty (d g hg) ((r c fs he).2 g hg))
    |enum l o=>exact WB he b.2.1 b.1
    |bytes k=>exact JA d
  |wrap c p t=>
   unfold okT at a;unfold xA at hw;rcases a.1 with rfl|rfl
   .exact UW e (next t a.2 hw)
   .exact Pr q (next t a.2 hw)
  |alts p l=>
   unfold okT at a;unfold xA at hw;exact UG e (by have:=hw.1;omega) (λt h j b=>next t (vW a.2 t h).2 (kM hw.2 t h) j (n+1) l_ M_ b)
end
def em(env:Au)(t:PT)(w:Aw)(E:ja)(res:Except Nat (DT×Nat×Nat))(e:Ak)(w':Aw):Prop:=
 ∃(v:Value) (k:Nat) (ev:Value),e=.returned (.tuple #[v,I_ k,ev])/\Fr w w' N_/\
 match res with
 | .ok (d,j,_)=>ev=.nilIface/\k=j/\DaV env w' (λg=>w.heap.size<=g) d t v
 | .error e0=>v=.nilIface/\k=0/\jv w' w.heap.size (E.t e0) (E.x e0) ev
def cE{w:Aw}{sa:Al}{sn sc:Nat}{rT:Av}{rx:Ax}{s:BA}{lt:Av}{lx:Ax}(a:vw 9 w lt lx)(hs:4000<s.size):Calls prog 28 #[.agg #[.slice sa sn sc,.iface rT rx],.string s] w λe w'=>e=.returned (.tuple #[.nilIface,O_,.iface lt lx])/\Fr w w' N_:=by
 refine hq_ λb b=>?_;have A:Fr w (w.alloc (.cells #[.slice sa sn sc,.iface rT rx] 60)) N_:=(A_ w _).alloc _;have he:=a.fr A (λf=>f);unfold vw at he;have d:(4000:Int)<(s.size:Int):=M_;replace A:=zy A;go_in;go_wp2;go_quiet (fail);go_wp2;refine bodyPost_ret (v:=.tuple #[.nilIface,O_,.iface lt lx]) yq_ rfl ?_;rw[b.o];exact⟨rfl,A.o.si (zq.drewN _ _)⟩
def tX{w0 w:Aw}{P:Az}{ss:BA}{ds:Aq}{sv:Ax}{rT:Av}{rx:Ax}{xs:Ay}{s:BA}{E:ja}{t:PT}(D:yC w P ss ds sv xs)(G:TyV w P t (.iface rT rx))(F:yy w0 w)(hk:w0.heap.size<=w.heap.size)(M:∀g,P g->g<w.heap.size)(E1:vw 4 w0 E.dt E.dx)(E2:vw 5 w0 E.bt E.bx)(hs:s.size<=4000)(S:okT (zx ds) t)(R:xA t)(Q:vb ds)(O:JH (zx ds))(L:yg w0)(N:yk w0):Calls prog 28 #[.agg #[sv,.iface rT rx],.string s] w (em (zx ds) t w E (rdB s (zx ds) 301 t 0 0)):=by
 refine hq_ λz x=>?_;obtain⟨a,b,rfl⟩:=zw D.row;have A:Fr w ((w.alloc (.cells #[.slice a ds.length b,.iface rT rx] 60)).alloc (.cells #[.slice a ds.length b,.iface rT rx,.string s,O_,O_] 124)) N_:=((A_ w _).alloc _).alloc _;have H:(w.alloc (.cells #[.slice a ds.length b,.iface rT rx] 60)).heap.size=w.heap.size+1:=x8_
 have z:=B_ (w.alloc (.cells #[.slice a ds.length b,.iface rT rx] 60)) #[.slice a ds.length b,.iface rT rx,.string s,O_,O_] 124;rw[H]at z;have C:YC w0 P ss ds (.slice a ds.length b) (.iface rT rx) xs s E (w.heap.size+1) 0 0 ((w.alloc (.cells #[.slice a ds.length b,.iface rT rx] 60)).alloc (.cells #[.slice a ds.length b,.iface rT rx,.string s,O_,O_] 124)):=
  ⟨z,D.fr A u_,F.fr A hk (λg f=>f.elim),E1,E2,λg hg=>by have:=M g hg;omega,M_,M_,al_ _⟩
 have h:=Mn Q O L N 301 t 0 0 S R M_ M_ _ _ C M_ (G.fr A u_);have L:¬(4000:Int)<(s.size:Int):=M_;have hz:=zy (by simp:((w.alloc (.cells #[.slice a ds.length b,.iface rT rx] 60)).alloc (.cells #[.slice a ds.length b,.iface rT rx,.string s,O_,O_] 124)).heap.size=w.heap.size+2);replace A:=zy A;cases u:rdB s (zx ds) 301 t 0 0 with
 |error e0=>
  rw[u]at h x;replace h:=zy h;replace u:=zy u;go_in;go_wp2_with (go_at_call 45;apply h.o.mono;rintro e w1 ⟨T,J,rfl,k,B,y,r⟩;subst B;obtain⟨I,K,rfl⟩:=y.iface;replace k:=zy k;replace y:=zy y;replace r:=zy r);refine bodyPost_ret (v:=.tuple #[.nilIface,O_,.iface I K]) yq_ rfl ?_;rw[x.o];exact⟨_,0,_,rfl,A.o.trans k (λg hg e=>M_),rfl,rfl,y.o.ls yy_⟩
 |ok q=>
  obtain⟨d,j,m⟩:=q;rw[u]at h x;replace h:=zy h;replace u:=zy u;go_in;go_wp2_with (go_at_call 45;apply h.o.mono;rintro e w1 ⟨T,J,rfl,k,B,y,r,a⟩;subst B;obtain⟨dT,dx,rfl⟩:=y.iface;have c3:=r.c3;replace k:=zy k;replace y:=zy y;replace r:=zy r);go_quiet (fail);go_wp2;refine bodyPost_ret (v:=.tuple #[.iface dT dx,I_ j,.nilIface]) yq_ rfl ?_;rw[x.o];exact⟨_,j,_,rfl,(A.o.trans k (λg hg e=>M_)).si (zq.drewN _ _),rfl,rfl,(y.o.mono (λg _ hg=>by have:=hz.o;omega)).fr ((A_ _ N_).si (zq.drewN _ _)) u_⟩
open Go.Extern.Stop Go.Stop Go.Extern
def Wn(v:Ax)(w:Aw):(Extern.ReflectliteType.typeOf #[.iface 414 v]).run prog w=.ok (.iface 160 (.agg #[.pointer (some ⟨23,414,none⟩)])) w:=by kernel_rfl
def iU:∃M:Array Value->Sem Value,(∀(a:Array Value) (w:World),(callFunc 278 a).run prog w=((M a).run prog w).andThen λv w'=>.ok (.value v) w')/\∀w,(M #[.agg #[.pointer (some ⟨23,414,none⟩)]]).run prog w=.ok (.bool true) w:=
 ⟨Extern.ReflectliteType.method λt=>do Go.Extern.Rtype.noPackHeld "Comparable" t;pure (.bool (<- typeInfo t).comparable),@run_callFunc_extern prog 278 _ (Extern.ReflectliteType.method λt=>do Go.Extern.Rtype.noPackHeld "Comparable" t;pure (.bool (<- typeInfo t).comparable)) func278 K_ K_ K_ K_,λw=>K_⟩
def pj(v:Ax)(w:Aw):(Go.method 545 160 v "Comparable").run prog w=.ok (278,v) w:=by kernel_rfl
def Ut:(Tryz.prog.info? 414).map (·.comparable)=some true:=K_
def Ud:(Tryz.prog.info? 416).map (·.size)=some 1:=K_
def MG(v:Ax)(a:Av)(w:Aw):(Instr.typeAssert (.iface 414 v) a 162 true).run prog w=.ok (.tuple #[.nilIface,.bool false]) w:=run_typeAssert_lacksB underlying162 K_ K_ v a w
def Jk(v:Ax)(a:Av)(w:Aw):(Instr.typeAssert (.iface 414 v) a 164 true).run prog w=.ok (.tuple #[.nilIface,.bool false]) w:=run_typeAssert_lacksB underlying164 K_ K_ v a w
def Yw(v:Ax)(a:Av)(w:Aw):(Instr.typeAssert (.iface 414 v) a 166 true).run prog w=.ok (.tuple #[.nilIface,.bool false]) w:=run_typeAssert_lacksB underlying166 K_ K_ v a w
def MW(v:Ax)(a:Av)(w:Aw):(Instr.typeAssert (.iface 185 v) a 162 true).run prog w=.ok (.tuple #[.nilIface,.bool false]) w:=run_typeAssert_lacksB underlying162 K_ K_ v a w
def YB(v:Ax)(a:Av)(w:Aw):(Instr.typeAssert (.iface 185 v) a 164 true).run prog w=.ok (.tuple #[.iface 185 v,.bool true]) w:=run_typeAssert_hasB underlying164 K_ v a w
def dS(v:Ax)(w:Aw):(Go.method 545 185 v "Unwrap").run prog w=.ok (288,v) w:=by kernel_rfl
def MK(v:Ax)(a:Av)(w:Aw):(Instr.typeAssert (.iface 351 v) a 162 true).run prog w=.ok (.tuple #[.nilIface,.bool false]) w:=run_typeAssert_lacksB underlying162 K_ K_ v a w
def YP(v:Ax)(a:Av)(w:Aw):(Instr.typeAssert (.iface 351 v) a 164 true).run prog w=.ok (.tuple #[.iface 351 v,.bool true]) w:=run_typeAssert_hasB underlying164 K_ v a w
def dN(v:Ax)(w:Aw):(Go.method 545 351 v "Unwrap").run prog w=.ok (310,v) w:=by kernel_rfl
inductive xD (W:Aw) (a:Addr):Nat->Value->Prop
 |leaf:xD W a 0 (.iface 414 (.pointer (some a)))
 |fault (g:Nat) (p:Int) (v:Value) (n:Nat) (hb:Blk W g [.int .i64 p,v] 187) (h:xD W a n v):xD W a (n+1) (.iface 185 (P_ g))
 |within (g:Nat) (tx:BA) (v:Value) (n:Nat) (hb:Blk W g [.string tx,v] 353) (h:xD W a n v):xD W a (n+1) (.iface 351 (P_ g))
def xD.iface{W:Aw}{a:Addr}{n:Nat}{v:Ax}(h:xD W a n v):∃T x,v=.iface T x:=by
 cases h<;>exact⟨_,_,rfl⟩
end Go.Proofs.YtamhgejdkclmdaaGreatDoor
