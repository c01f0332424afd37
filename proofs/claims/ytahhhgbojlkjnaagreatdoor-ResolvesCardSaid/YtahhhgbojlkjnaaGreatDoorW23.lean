import Derived.Test.YtahhhgbojlkjnaaGreatDoorW22
set_option maxHeartbeats 16000000
set_option maxRecDepth 100000
set_option linter.defProp false
set_option linter.unusedSimpArgs false
open Go.Proofs.Tryz
namespace Go.Proofs.YtahhhgbojlkjnaaGreatDoor
open Go.RowKit
variable {pt:Int}{c:Nat}
structure YL(w0:Aw)(P:Au)(ss:BA)(ds:Ar)(sv rv:Ax)(xs:Az)(s:BA)(E:jJ)(br j nn:Nat)(cx:Az)(ct:As)(t:PT)(w:Aw)(lv:Ax)(l:Ak)(W:Aw):Prop where
 M:YC w0 P ss ds sv rv xs s E br j nn W
 fr:Fr w W (· = br)
 bx:Blk W w.heap.size cx ct
 bB:w.heap.size+1<=W.heap.size
 lt:br<w.heap.size
 row:jG (zx ds) W (w.heap.size+1) (λg=>w.heap.size+1<=g/\lv.ownBlock≠some g) t lv l
section
variable {w0 w W W':Aw} {P:Au} {ss:BA} {ds:Ar} {sv rv:Ax} {xs:Az} {s:BA} {E:jJ} {br i n j nn j' nn':Nat} {cx:Az} {ct:As} {t:PT} {lv:Ax} {l:Ak}
def YL.call(Q:YL w0 P ss ds sv rv xs s E br j nn cx ct t w lv l W)(h:yL W' br sv rv s j' nn')(b:Fr W W' (· = br))(e:j'<=s.size):YL w0 P ss ds sv rv xs s E br j' nn' cx ct t w lv l W':=by
 have h1:=Q.lt;have d:=Q.bB;refine⟨Q.M.call h b e,Q.fr.trans b u_,b.bl Q.bx M_,ai_ d b.size,h1,Q.row.fr b (λg hg=>M_) (λg hg=>?_)⟩;obtain⟨Y,a,_⟩:=Q.row;have:=a.lt g hg;omega
def YL.item(Q:YL w0 P ss ds sv rv xs s E br j nn cx ct t w lv l W){o:Cj}{w5:Aw}{b v:Ax}{d:DT}{Y:Cx}(r:∀i d,l[i]?=some d->DaV (zx ds) W (λg=>w.heap.size+1<=g/\lv.ownBlock≠some g) d (zN (zx ds) t 0 i) (Y i))(hd:DaV (zx ds) W (λg=>w.heap.size+1<=g/\lv.ownBlock≠some g) d (zN (zx ds) t 0 l.length) v)(hg:(W.alloc o).grownBy w5 lv.ownBlock)(ho:w5.ownsRow (w.heap.size+1) 69 1 b (l.length+1) (((List.range l.length).flatMap λi=>[Y i])++[v]))(hl:b.ownBlock=lv.ownBlock\/b.ownBlock=some (W.alloc o).heap.size):YL w0 P ss ds sv rv xs s E br j nn cx ct t w b (l++[d]) w5:=by
 have h1:=Q.lt;have m:=Q.bB;have b:(W.alloc o).heap.size=W.heap.size+1:=x8_
 obtain⟨b,a,_⟩:=Q.row;have b:Fr W w5 (λg=>lv.ownBlock=some g):=((A_ W _).alloc o).gr hg (λk e _=>e);have h:∀g,lv.ownBlock=some g->w.heap.size+1<=g:=λg e=>(a.lt g e).1;have q:YC w0 P ss ds sv rv xs s E br j nn w5:=by
  have hb:=Q.M.brG;exact⟨b.bl Q.M.R (λe=>by have:=h _ e;omega),Q.M.D.fr b (λg hg e=>by have:=h _ e;have:=Q.M.Pbr g hg;omega),Q.M.G.fr b M_ (λg e=>by have:=h _ e;omega),Q.M.E1,Q.M.E2,Q.M.Pbr,Q.M.brG,Q.M.hs,Q.M.il⟩
 refine⟨q,Q.fr.trans b (λx hx e=>absurd (h x e) M_),b.bl Q.bx (λe=>by have:=h _ e;omega),ai_ m b.size,h1,jG.grow r hd (b.mono (λg _ e=>.inl e)) (c:=br) M_ ?_ ho⟩;rcases hl with e|e
 .exact .inl e
 .exact .inr ⟨_,e,M_⟩
end
def GH(R_:Except Nat (List (BA×DT)×Nat×Nat))(R:Nat->Nat->Except Nat (DT×Nat×Nat))(cnt n:Nat)(w0:Aw)(P:Au)(ss:BA)(ds:Ar)(sv rv:Ax)(xs:Az)(s:BA)(E:jJ)(br:Nat)(cx:Az)(ct:As)(t:PT)(w:Aw)(q:Nat)(v8 v20:Ax)(W:Aw):Prop:=
 ∃(acc:List (BA×DT)) (j nn:Nat),v20=I_ acc.length/\acc.length<=cnt/\n+acc.length<=nn/\nn<=300/\302<=q+nn/\H_ (YL w0 P ss ds sv rv xs s E br j nn cx ct t w v8 (acc.map Prod.snd) W)/\R_=kG acc (yS R s false (cnt-acc.length) (vi acc) j nn)
section
variable {w0 w:Aw} {P:Au} {ss:BA} {ds:Ar} {sv rv:Ax} {xs:Az} {s:BA} {E:jJ} {br i n:Nat}
def cwYQ1_{p:Prop}(h:p:=by
 obtain⟨d,j1,m1⟩:=q;rw[hrd]at hres hC;(first|(have _:=cc1;have y:=qj s (zx ds) f g0.ty j nn d j1 m1 hQ.o.M.il hnn3 hrd)|(have y:=qj s (zx ds) f u j nn d j1 m1 hQ.o.M.il hnn3 hrd));have F:=zy hres;replace hC:=zy hC;(first|(have _:=cc1;have H:=zy (λi d (e:l[i]?=some d)=>(hY i d e).fr A1 u_);have v:=zy (zk hrow A1 u_))|(replace hY:=zy hY));replace hrow:=zy hrow;(first|(have _:=cc1;replace A1:=zy A1)|(have hL3:acc.length<=300:=M_));obtain⟨ti,A,B,C,D⟩:=info_parts kO;(first|(have _:=cc1;clear hres hY hd hmem)|(clear hres));go_wp2_with (first
  |(go_at_call 33;apply hC.o.mono;rintro e w1 ⟨v1,ev1,rfl,hf1,hv1,k,hR1,r⟩;subst hv1;obtain⟨m,dx,rfl⟩:=k.iface;(first|(have _:=cc1;have a:=Q0.o.call hR1 hf1 r)|(have a:=hQ.o.call hR1 hf1 r));have hb1:=a.bB;(first|(have _:=cc1;have G:=zy (zk v.o hf1 (λg hg e=>by have:=v.o.lt g hg;omega)))|(have G:=zy (zk hrow.o hf1 (λg hg e=>by have:=hrow.o.lt g hg;omega))));(first|(have _:=cc1;have r:=zy (k.mono (Q:=λg=>w.heap.size+1<=g/\(Value.slice la l.length lc).ownBlock≠some g) (λg _ hg=>⟨by have:=hz1.o;omega,λe=>by have:=hrow.o.lt g e;have:=hz1.o;omega⟩)))|(have r:=zy (k.mono (Q:=λg=>w.heap.size+1<=g/\(Value.slice la acc.length lc).ownBlock≠some g) (λg _ hg=>⟨M_,λe=>by have:=hrow.o.lt g e;omega⟩))));(first|(have _:=cc1;have v:=zy (λi d (e:l[i]?=some d)=>(H.o i d e).fr hf1 (λg hg e=>by have:=hg.1;omega)))|(have v:=zy (λi d (e:(acc.map Prod.snd)[i]?=some d)=>(hY.o i d e).fr hf1 (λg hg e=>by have:=hg.1;omega))));replace a:=zy a;(first|(have _:=cc1;clear k hR1 hf1)|(clear k hR1)))
  |(at_builtin;go_must ((first|(have _:=cc1;refine wpList_append_own_at _ rfl _ _ 136 rfl (w.heap.size+1) 69 ti _ 1 16 aA A B C D rfl D_ (.slice la l.length lc) l.length ((List.range l.length).flatMap λi=>[Y i]) rfl ?hown _ 1 1 [.iface m dx] rfl rfl (zL _ #[.iface m dx] _ _ ?nn) ?one ?b1 ?b2 ?b3 ?_)|(refine wpList_append_own_at _ rfl _ _ 129 rfl (w.heap.size+1) 69 ti _ 1 16 nJ A B C D rfl D_ (.slice la acc.length lc) acc.length ((List.range acc.length).flatMap λi=>[Y i]) rfl ?hown _ 1 1 [.iface m dx] rfl rfl (zL _ #[.iface m dx] _ _ ?nn) ?one ?b1 ?b2 ?b3 ?_)))
    case hown=>exact World.ownsRow.alloc G.o _
    case nn=>simp
    case one=>simp[Value.oneCell']
    case b1=>unfold maxLen;omega
    case b2=>omega
    case b3=>simp;omega
    intro k k ho5 x I z
    (first|(have _:=cc1;have b:=a.o.item v.o (by rw[hsb.o];exact r.o) x ho5 z)|(have b:=a.o.item v.o r.o x zc_ z))
    obtain⟨a,a,rfl⟩:=zu ho5 M_
    clear x z I ho5
    replace b:=zy b))
 (first|(have _:=cc1;go_roundg (302-(l.length+1)))|(go_roundg (302-m1)));case measure=>omega
 case rel=>
  (first|(have _:=cc1;refine⟨l++[d],j1,m1,by simp,by simp;omega,M_,y.2.2.2,by simp;omega,b,?_⟩)|(refine⟨acc++[(noB,d)],j1,m1,by simp,by simp;omega,by simp;omega,y.2.2.2,M_,zy (by rw[bh_];exact b.o),?_⟩));(first|(have _:=cc1;rw[F.o,ah_,ap_])|(rw[F.o,ah_,ap_,show cnt-(acc.length+1)=cn by omega];(have:vi (acc++[(noB,d)])=some noB:=by simp[vi]);rw[this]))):p:=h
def cwYQ2_{p:Prop}(h:p:=by
 rw[hrd]at hres hC;have hr:=zy hres;replace hC:=zy hC;(first|(have:=cc1;replace A1:=zy A1)|(have hL3:acc.length<=300:=M_));(first|(have:=cc1;clear hrow hY hres hd hmem)|(clear hrow hY hres));go_wp2_with (first
  |(go_at_call 33;apply hC.o.mono;rintro e w1 ⟨v1,ev1,rfl,hf1,hv1,a,hR1⟩;subst hv1;obtain⟨m,m,rfl⟩:=a.iface;(first|(have:=cc1;have m:=(hf1.bl N1.o M_).c1;have hz:=zy hf1.size)|(have m:=((hQ.o.M.call hR1.choose_spec.choose_spec.1 hf1 hR1.choose_spec.choose_spec.2)).G));replace a:=zy a;replace hf1:=zy hf1;replace hR1:=zy hR1)
  |((first|go_at_call 128|go_at_call 132);(first|(have:=cc1;apply(gW hls).mono)|(apply(pm hI m M_).mono));rintro e m k;(first|(have:=cc1;have d:=zy (λv (he:e=.returned v)=>a.o.wrap k z2_ he))|(have d:=zy (λv (he:e=.returned v)=>a.o.wrap k (by have:=hf1.o.size;omega) he)));obtain⟨a,a,rfl,a,a,b⟩:=k;replace b:=zy b;replace a:=zy a))
 try go_ret
 rw[Q_.o,hr.o];(first|(have:=cc1;refine⟨_,_,rfl,(Q0.o.fr.trans hf1.o u_).trans (b.o.mono v_) u_,rfl,(d.o _ rfl).ls (by have:=Q0.o.fr.size;omega),?_⟩)|(refine⟨_,_,rfl,(hQ.o.fr.trans hf1.o u_).trans (b.o.mono v_) u_,rfl,(d.o _ rfl).ls M_,?_⟩));obtain⟨j1,m1,h1,a⟩:=hR1.o;exact⟨j1,m1,b.o.bl h1 id,a⟩):p:=h
def YQ{u:PT}{p f:Nat}{d:As}{h:Ax}(hI:yV w0)(M:YC w0 P ss ds sv rv xs s E br i n w)(hn:n<=300)(B:TyV w P u (.iface d h))(z:∀j nn,n<=nn->nn<=300->j<=s.size->rF w0 P ss ds sv rv xs s E br f u j nn):Calls prog 85 #[P_ br,.agg #[Z_ pt,.iface d h]] w (yk (zx ds) (.wrap 91 p u) w sv rv s E br (qi (rdB s (zx ds) f u) s 91 i n)):=by
 refine hq_ λU Q_=>?_;rw[rl]at Q_;have a2:=M.hs;have I:=M.lt;have A:Fr w (w.alloc (.cells #[Z_ pt,.iface d h] 199)) N_:=(A_ w _).alloc _;have b:=M.new A;have x:=B_ w #[Z_ pt,.iface d h] 199;have hC:=fS b.R b.hs b.il b.err;have O:=M.brP;replace B:=zy B;replace z:=zy z;cases hb:vA s i with
 |none=>
  rw[hb]at hC Q_;replace hC:=zy hC;replace A:=zy A;clear M b x hb;go_in;go_wp2_with (go_at_call 127;apply hC.o.mono;rintro e w1 ⟨hf1,rfl,j,F,h1⟩;replace hf1:=zy hf1;replace h1:=zy h1);try go_ret
  rw[Q_.o];exact cG ((A.o.mono v_).trans hf1 u_) ⟨j,n,h1,F⟩
 |some q=>
  obtain⟨v,C⟩:=q;have hg:=yU hb;obtain⟨cnt,rfl⟩:∃m:Nat,v=(m:Int):=⟨v.toNat,M_⟩;rw[hb]at hC Q_;simp only[bb_]at Q_;obtain⟨y,r⟩:=e_ (yS (rdB s (zx ds) f u) s false cnt none C n);rw[show((91:Nat)==123)=false from rfl,<- r]at Q_;have H:H_ (∀w1,yL w1 br sv rv s C n->Fr (w.alloc (.cells #[Z_ pt,.iface d h] 199)) w1 (· = br)->GH y (rdB s (zx ds) f u) cnt n w0 P ss ds sv rv xs s E br [Z_ pt,.iface d h] 199 (.wrap 91 p u) w 302 (L_) (O_) w1):=zy (λw1 h1 k=>⟨[],C,n,rfl,by simp,by simp,hn,M_,zy ⟨b.call h1 k hg.2.1,(A.mono v_).trans k u_,k.bl x M_,by have:=k.size;simp at this;omega,I,jG.nil _ _ _ _ _⟩,by rw[pJ,r];rfl⟩);replace hC:=zy hC;replace r:=zy r;clear M b x A hb;go_in;go_wp2_with (go_at_call 127;apply hC.o.mono;rintro e w1 ⟨hf1,rfl,F,h1⟩;have G:=zy (H.o w1 h1 hf1);clear hf1 h1);go_loopg [8,9,10,20] 302 (λq T v9 a3 S W=>GH y (rdB s (zx ds) f u) cnt n w0 P ss ds sv rv xs s E br [Z_ pt,.iface d h] 199 (.wrap 91 p u) w q T S W);case atStart=>exact G
  case round=>
   clear H G hC;obtain⟨acc,j,nn,rfl,a0,a1,hnn3,hq,hQ,hres⟩:=hrel;obtain⟨Y,hrow,hY⟩:=hQ.o.row;obtain⟨la,lc,rfl⟩:=zh hrow;have hll:(acc.map Prod.snd).length=acc.length:=x8_
   rw[hll]at hrow hQ hY;by_cases K:acc.length=cnt
   .have N:¬(acc.length:Int)<(cnt:Int):=M_;have hr:=zy (show y=.ok (acc,j,nn) by rw[hres,show cnt-acc.length=0 by omega];simp[yS,kG]);have D:=zy hQ.o.row;clear hres hrow hY hll K;go_wp2;try go_ret
    rw[Q_.o,hr.o];refine yok ?_ hQ.o.fr hQ.o.M.R hQ.o.M.il;exact D.o.dat (λg _ hg=>M_) (λg e=>by have:=D.o;obtain⟨_,a,_⟩:=this;have:=(a.lt g e).1;show w.heap.size<=g;omega) (.inl ⟨rfl,rfl⟩)
   .have N:(acc.length:Int)<(cnt:Int):=M_;obtain⟨cn,J⟩:∃cn,cnt-acc.length=cn+1:=⟨cnt-acc.length-1,M_⟩;rw[J,gI]at hres;have L:jW s false (vi acc) j=some (noB,j):=by simp[jW]
    rw[L]at hres;simp only[mV]at hres;have X:=hQ.o.bx.c1;have hC:=z.o j nn M_ hnn3 hQ.o.M.il wr _ hQ.o.M hnn3 (B.o.fr hQ.o.fr (λg hg e=>O (e▸hg)));have V:=hQ.o.bB;cases hrd:rdB s (zx ds) f u j nn with
    |error e0=>
     exact cwYQ2_
    |ok q=>
     exact cwYQ1_
end
structure YM(w0:Aw)(P:Au)(ss:BA)(ds:Ar)(sv rv:Ax)(xs:Az)(s:BA)(E:jJ)(br j nn:Nat)(cx:Az)(ct:As)(t:PT)(w:Aw)(lv:Ax)(l:Ae)(W:Aw):Prop where
 M:YC w0 P ss ds sv rv xs s E br j nn W
 fr:Fr w W (· = br)
 bx:Blk W w.heap.size cx ct
 bB:w.heap.size+1<=W.heap.size
 lt:br<w.heap.size
 row:∃ys,W.ownsRow (w.heap.size+1) 133 2 lv l.length ys/\QE (wT l) l.length ys/\qJ (zx ds) W (λg=>w.heap.size+1<=g/\lv.ownBlock≠some g) t l ys
section
variable {w0 w W W':Aw} {P:Au} {ss:BA} {ds:Ar} {sv rv:Ax} {xs:Az} {s:BA} {E:jJ} {br i n j nn j' nn':Nat} {cx:Az} {ct:As} {t:PT} {lv:Ax} {l:Ae}
def YM.call(Q:YM w0 P ss ds sv rv xs s E br j nn cx ct t w lv l W)(h:yL W' br sv rv s j' nn')(d:Fr W W' (· = br))(m:j'<=s.size):YM w0 P ss ds sv rv xs s E br j' nn' cx ct t w lv l W':=by
 have h1:=Q.lt;have k:=Q.bB;obtain⟨ys,a,b,c⟩:=Q.row;exact⟨Q.M.call h d m,Q.fr.trans d u_,d.bl Q.bx M_,ai_ k d.size,h1,ys,zk a d (λg hg e=>by have:=a.lt g hg;omega),b,c.fr d (λg hg e=>M_)⟩
def YM.item(Q:YM w0 P ss ds sv rv xs s E br j nn cx ct t w lv l W){o:Cj}{w5:Aw}{a v:Ax}{d:DT}{key:BA}{ys:Az}(ha:W.ownsRow (w.heap.size+1) 133 2 lv l.length ys)(q:qJ (zx ds) W (λg=>w.heap.size+1<=g/\lv.ownBlock≠some g) t l ys)(hk:key.size<=4000)(hd:DaV (zx ds) W (λg=>w.heap.size+1<=g/\lv.ownBlock≠some g) d (zN (zx ds) t 0 l.length) v)(hg:(W.alloc o).grownBy w5 lv.ownBlock)(ho:w5.ownsRow (w.heap.size+1) 133 2 a (l.length+1) (ys++[.string key,v]))(hl:a.ownBlock=lv.ownBlock\/a.ownBlock=some (W.alloc o).heap.size):YM w0 P ss ds sv rv xs s E br j nn cx ct t w a (l++[(key,d)]) w5:=by
 have h1:=Q.lt;have h:=Q.bB;have a:(W.alloc o).heap.size=W.heap.size+1:=x8_
 have a:Fr W w5 (λg=>lv.ownBlock=some g):=((A_ W _).alloc o).gr hg (λk e _=>e);have b:∀g,lv.ownBlock=some g->w.heap.size+1<=g:=λg e=>(ha.lt g e).1;have m:YC w0 P ss ds sv rv xs s E br j nn w5:=by
  have hb:=Q.M.brG;exact⟨a.bl Q.M.R (λe=>by have:=b _ e;omega),Q.M.D.fr a (λg hg e=>by have:=b _ e;have:=Q.M.Pbr g hg;omega),Q.M.G.fr a M_ (λg e=>by have:=b _ e;omega),Q.M.E1,Q.M.E2,Q.M.Pbr,Q.M.brG,Q.M.hs,Q.M.il⟩
 have r:=ha.1;refine⟨m,Q.fr.trans a (λx hx e=>absurd (b x e) M_),a.bl Q.bx (λe=>by have:=b _ e;omega),ai_ h a.size,h1,_,by rw[ah_,ap_];exact ho,?_,qJ.grow q hd hk (a.mono (λg _ e=>.inl e)) (c:=br) M_ ?_⟩
 .rw[jL,ah_,ap_];exact⟨l.length,rfl,by rw[ax_ M_,show l.length*2-ys.length=0 by omega];rfl⟩
 .rcases hl with e|e
  .exact .inl e
  .exact .inr ⟨_,e,M_⟩
end
def GC(R_:Except Nat (List (BA×DT)×Nat×Nat))(R:Nat->Nat->Except Nat (DT×Nat×Nat))(cnt n:Nat)(w0:Aw)(P:Au)(ss:BA)(ds:Ar)(sv rv:Ax)(xs:Az)(s:BA)(E:jJ)(br:Nat)(cx:Az)(ct:As)(t:PT)(w:Aw)(q:Nat)(v8 v21:Ax)(W:Aw):Prop:=
 ∃(acc:List (BA×DT)) (j nn:Nat),v21=I_ acc.length/\acc.length<=cnt/\n+acc.length<=nn/\nn<=300/\302<=q+nn/\H_ (YM w0 P ss ds sv rv xs s E br j nn cx ct t w v8 acc W)/\R_=kG acc (yS R s true (cnt-acc.length) (wT acc) j nn)
section
variable {w0 w:Aw} {P:Au} {ss:BA} {ds:Ar} {sv rv:Ax} {xs:Az} {s:BA} {E:jJ} {br i n:Nat}
def cwVX1_{p:Prop}(h:p:=by
 obtain⟨d,j2,m1⟩:=q;rw[hrd]at hres hRd;have hgo:=qj s (zx ds) f u j1 nn d j2 m1 M_ hnn3 hrd;have hres':=zy hres;obtain⟨ti,hi1,hi2,hi3,hi4⟩:=info_parts bW;clear hres;go_wp2_with (first
  |(go_at_call 126;apply hK.o.mono;rintro e w1 ⟨hf1,rfl,hj1,h1⟩;(try have:=cc1;have hk1:=hfac.o w1 hf1);have hC:=zy (hRd.o w1 h1 hf1);have Q1:=hQ.o.call h1 hf1 hj1;have c1:=Q1.bx.cell 1;have hb1:=Q1.bB;have hrow1:=zy (zk hrw.o hf1 (λg hg e=>by have:=hrw.o.lt g hg;omega));have hY1:=zy (hYh.o.fr hf1 (λg hg e=>by have:=hg.1;omega));simp only[aa_,ab_]at c1;replace Q1:=zy Q1;clear h1 hf1)
  |(go_at_call 33;apply hC.o.mono;rintro e w2 ⟨v2,ev2,rfl,hf2,hv2,hD2,hR2,hj2⟩;subst hv2;obtain⟨dT,dx,rfl⟩:=hD2.iface;have Q2:=Q1.o.call hR2 hf2 hj2;have hb2:=Q2.bB;have hrow2:=zy (zk hrow1.o hf2 (λg hg e=>by have:=hrow1.o.lt g hg;omega));(first|(have:=cc1;have hD2':=zy (hD2.mono (Q:=λg=>w.heap.size+1<=g/\(Value.slice (some ⟨gz,0,none⟩) acc.length lc).ownBlock≠some g) (λg _ hg=>⟨M_,λe=>by have:=hrow1.o.lt g e;omega⟩)))|(have hD2':=zy (hD2.mono (Q:=λg=>w.heap.size+1<=g/\(Value.slice la acc.length lc).ownBlock≠some g) (λg _ hg=>⟨M_,λe=>by have:=hrow1.o.lt g e;omega⟩))));have hY2:=zy (hY1.o.fr hf2 (λg hg e=>by have:=hg.1;omega));replace Q2:=zy Q2;clear hD2 hR2 hf2)
  |(at_builtin;go_must ((first|(have:=cc1;refine wpList_append_own_at _ rfl _ _ 131 rfl (w.heap.size+1) 133 ti _ 2 32 cU hi1 hi2 hi3 hi4 rfl D_ (Value.slice (some ⟨gz,0,none⟩) acc.length lc) acc.length ys rfl ?hown _ 1 1 [.string key,.iface dT dx] rfl rfl (zL _ #[.string key,.iface dT dx] _ _ ?nn) ?one ?b1 ?b2 ?b3 ?_)|(refine wpList_append_own_at _ rfl _ _ 131 rfl (w.heap.size+1) 133 ti _ 2 32 cU hi1 hi2 hi3 hi4 rfl D_ (Value.slice la acc.length lc) acc.length ys rfl ?hown _ 1 1 [.string key,.iface dT dx] rfl rfl (zL _ #[.string key,.iface dT dx] _ _ ?nn) ?one ?b1 ?b2 ?b3 ?_)))
    case hown=>exact World.ownsRow.alloc hrow2.o _
    case nn=>simp
    case one=>simp[Value.oneCell']
    case b1=>unfold maxLen;omega
    case b2=>omega
    case b3=>simp;omega
    intro v5 w5 ho5 hg5 hn5 hl5
    have Q5:=Q2.o.item (d:=d) hrow2.o hY2.o hks hD2'.o hg5 ho5 hl5
    obtain⟨g5,cap5,rfl⟩:=zu ho5 M_
    clear hg5 hl5 hn5 ho5
    replace Q5:=zy Q5))
 go_roundg (302-m1);case measure=>omega
 case rel=>
  refine⟨acc++[(key,d)],j2,m1,by simp,by simp;omega,by simp;omega,hgo.2.2.2,M_,zy Q5.o,?_⟩;rw[hres'.o,ah_,ap_,show cnt-(acc.length+1)=cn by omega,jL]):p:=h
def VX{u:PT}{p f:Nat}{C:As}{D:Ax}(hI:yJ w0)(M:YC w0 P ss ds sv rv xs s E br i n w)(hn:n<=300)(S:TyV w P u (.iface C D))(O:∀j nn,n<=nn->nn<=300->j<=s.size->rF w0 P ss ds sv rv xs s E br f u j nn):Calls prog 86 #[P_ br,.agg #[Z_ pt,.iface C D]] w (yk (zx ds) (.wrap 123 p u) w sv rv s E br (qi (rdB s (zx ds) f u) s 123 i n)):=by
 refine hq_ λd1 a=>?_;rw[rl]at a;have e5:=M.hs;have a6:=M.lt;have A:Fr w (w.alloc (.cells #[Z_ pt,.iface C D] 201)) N_:=(A_ w _).alloc _;have x:=M.new A;have U:=B_ w #[Z_ pt,.iface C D] 201;have hC:=fS x.R x.hs x.il x.err;have T:=M.brP;replace S:=zy S;replace O:=zy O;cases hb:vA s i with
 |none=>
  rw[hb]at hC a;replace hC:=zy hC;replace A:=zy A;clear M x U hb;go_in;go_wp2_with (go_at_call 127;apply hC.o.mono;rintro e w1 ⟨hf1,rfl,j,hj,h1⟩;replace hf1:=zy hf1;replace h1:=zy h1);try go_ret
  rw[a.o];exact cG ((A.o.mono v_).trans hf1 u_) ⟨j,n,h1,hj⟩
 |some q=>
  obtain⟨v,Z⟩:=q;have hg:=yU hb;obtain⟨cnt,rfl⟩:∃m:Nat,v=(m:Int):=⟨v.toNat,M_⟩;rw[hb]at hC a;simp only[bb_]at a;obtain⟨H,Q⟩:=e_ (yS (rdB s (zx ds) f u) s true cnt none Z n);rw[show((123:Nat)==123)=true from rfl,<- Q]at a;have a4:H_ (∀w1,yL w1 br sv rv s Z n->Fr (w.alloc (.cells #[Z_ pt,.iface C D] 201)) w1 (· = br)->GC H (rdB s (zx ds) f u) cnt n w0 P ss ds sv rv xs s E br [Z_ pt,.iface C D] 201 (.wrap 123 p u) w 302 (L_) (O_) w1):=zy (λw1 h1 N=>⟨[],Z,n,rfl,by simp,by simp,hn,M_,zy ⟨x.call h1 N hg.2.1,(A.mono v_).trans N u_,N.bl U M_,by have:=N.size;simp at this;omega,a6,[],World.ownsRow_nil _ _ _ _,rfl,qJ.nil _ _ _ _⟩,by rw[pJ,Q];rfl⟩);replace hC:=zy hC;replace Q:=zy Q;clear M x U A hb;go_in;go_wp2_with (go_at_call 127;apply hC.o.mono;rintro e w1 ⟨hf1,rfl,hj,h1⟩;have a3:=zy (a4.o w1 h1 hf1);clear hf1 h1);go_loopg [8,9,10,11,21] 302 (λq v8 v9 e7 e8 d0 W=>GC H (rdB s (zx ds) f u) cnt n w0 P ss ds sv rv xs s E br [Z_ pt,.iface C D] 201 (.wrap 123 p u) w q v8 d0 W);case atStart=>exact a3
  case round=>
   clear a4 a3 hC;obtain⟨acc,j,nn,rfl,e1,e4,hnn3,hq,hQ,hres⟩:=hrel;obtain⟨ys,b,z,F⟩:=hQ.o.row;obtain⟨la,lc,rfl⟩:=zh b;by_cases K:acc.length=cnt
   .have b6:¬(acc.length:Int)<(cnt:Int):=M_;have hr:=zy (show H=.ok (acc,j,nn) by rw[hres,show cnt-acc.length=0 by omega];simp[yS,kG]);have a5:=zy F;have hrw:=zy b;clear hres b F K z;go_wp2;try go_ret
    rw[a.o,hr.o];refine yok ?_ hQ.o.fr hQ.o.M.R hQ.o.M.il;exact a5.o.dat hrw (λg _ hg=>M_) (λg e=>by have:=(hrw.o.lt g e).1;show w.heap.size<=g;omega)
   .have b6:(acc.length:Int)<(cnt:Int):=M_;obtain⟨cn,a7⟩:∃cn,cnt-acc.length=cn+1:=⟨cnt-acc.length-1,M_⟩;rw[a7,gI]at hres;have hK:=cF hQ.o.M.R hQ.o.M.hs hQ.o.M.il hQ.o.M.err;have d7:=hQ.o.bB;have d6:acc.length<=300:=M_;cases B:xn s j with
    |none=>
     have hr:=zy (show H=.error 6 by rw[hres];simp[jW,B]);rw[B]at hK;replace hK:=zy hK;clear hres b F K z;go_wp2_with (go_at_call 126;apply hK.o.mono;rintro e w1 ⟨hf1,rfl,j1,hj1,h1⟩;replace hf1:=zy hf1;replace h1:=zy h1);try go_ret
     rw[a.o,hr.o];exact cG (hQ.o.fr.trans hf1 u_) ⟨j1,nn,h1,hj1⟩
    |some q=>
     obtain⟨key,j1⟩:=q;have d9:=ko B;have hks:key.size<=4000:=M_;rw[B]at hK;replace hK:=zy hK;have hYh:=zy F;have hrw:=zy b;cases L:wT acc with
     |none=>
      have a0:acc.length=0:=by rw[L]at z;exact z
      have b7:¬(0:Int)<(acc.length:Int):=M_;replace a0:=zy a0;rw[L,show jW s true none j=some (key,j1) by simp[jW,B,kH]]at hres;clear b F z;simp only[mV]at hres;have hRd:=zy (λw1 (h1:yL w1 br sv rv s j1 nn) (y:Fr wr w1 (· = br))=>O.o j1 nn M_ hnn3 M_ w1 _ (hQ.o.M.call h1 y M_) hnn3 ((S.o.fr hQ.o.fr (λg hg e=>T (e▸hg))).fr y (λg hg e=>T (e▸hg))));clear K;cases hrd:rdB s (zx ds) f u j1 nn with
      |error e0=>
       rw[hrd]at hres hRd;have hr:=zy hres;clear hres;go_wp2_with (first
        |(go_at_call 126;apply hK.o.mono;rintro e w1 ⟨hf1,rfl,hj1,h1⟩;have hC:=zy (hRd.o w1 h1 hf1);have Q1:=hQ.o.call h1 hf1 hj1;have c1:=Q1.bx.c1;replace Q1:=zy Q1;clear h1 hf1)
        |(go_at_call 33;apply hC.o.mono;rintro e w2 ⟨v2,ev2,rfl,hf2,hv2,h,hR2⟩;subst hv2;obtain⟨eT,ex,rfl⟩:=h.iface;have Y:=(Q1.o.M.call hR2.choose_spec.choose_spec.1 hf2 hR2.choose_spec.choose_spec.2).G;have hz:=zy hf2.size;replace h:=zy h;replace hf2:=zy hf2;replace hR2:=zy hR2)
        |(go_at_call 129;apply(kE hI Y hks).mono;rintro e w3 I;have X:=zy (λv (he:e=.returned v)=>h.o.wrap I z2_ he);obtain⟨g3,b9,rfl,a9,J,k⟩:=I;replace k:=zy k;replace J:=zy J))
       all_goals try(exfalso;omega)
       try go_ret
       rw[a.o,hr.o];refine⟨_,_,rfl,(Q1.o.fr.trans hf2 u_).trans (k.o.mono v_) u_,rfl,(X.o _ rfl).ls (by have:=Q1.o.fr.size;omega),?_⟩;obtain⟨j2,m2,h1,V⟩:=hR2.o;exact⟨j2,m2,k.o.bl h1 id,V⟩
      |ok q=>
       exact cwVX1_
     |some key0=>
      have hm:=z;rw[L]at hm;obtain⟨m,a1,a2⟩:=hm;obtain⟨gz,d2,b4⟩:=zu b M_;cases b4;have e6:IntKind.i64.wrap ((acc.length:Int)-1)=(m:Int):=y4_
      have b7:(0:Int)<(acc.length:Int):=M_;have e3:0<acc.length:=M_;have e2:(m:Int)<(acc.length:Int):=M_;have hfac:H_ (∀w1,Fr wr w1 (· = br)->w1.cell? ⟨gz,m*2,none⟩=some (.string key0)):=zy (λw1 y=>ze (zk b y (λg' hg e=>by have:=b.lt g' hg;have:=hQ.o.lt;omega)) rfl a2);replace a1:=zy a1;clear a2 b F z;by_cases r:Op.bytesLess key0.toList key.toList=true;case neg=>
       have b5:(Op.bytesLess key.toList key0.toList||key.toList==key0.toList)=true:=by
        rw[wG];rw[Bool.eq_false_iff.2 r];rfl
       have hr:=zy (show H=.error 6 by rw[hres,L];simp[jW,B,kH,r]);replace r:=zy r;clear hres K;go_wp2_with (go_at_call 126;apply hK.o.mono;rintro e w1 ⟨hf1,rfl,hj1,h1⟩;have hk1:=hfac.o w1 hf1;have a8:=hQ.o.M.err w1 hf1;unfold vU at a8;replace hf1:=zy hf1;replace h1:=zy h1);go_quiet (fail);go_wp2;try go_ret
       rw[a.o,hr.o];exact cG ((hQ.o.fr.trans hf1 u_).si (zw.drewN _ _)) ⟨_,nn,h1.o.si (zw.drewN _ _),hj1⟩
      have b5:(Op.bytesLess key.toList key0.toList||key.toList==key0.toList)=false:=by
       rw[wG];rw[show Op.bytesLess key0.toList key.toList=true from r];rfl
      rw[L,show jW s true (some key0) j=some (key,j1) by simp[jW,B,kH,r]]at hres;replace r:=zy r;simp only[mV]at hres;have hRd:=zy (λw1 (h1:yL w1 br sv rv s j1 nn) (y:Fr wr w1 (· = br))=>O.o j1 nn M_ hnn3 M_ w1 _ (hQ.o.M.call h1 y M_) hnn3 ((S.o.fr hQ.o.fr (λg hg e=>T (e▸hg))).fr y (λg hg e=>T (e▸hg))));clear K;cases hrd:rdB s (zx ds) f u j1 nn with
      |error e0=>
       rw[hrd]at hres hRd;have hr:=zy hres;clear hres;go_wp2_with (first
        |(go_at_call 126;apply hK.o.mono;rintro e w1 ⟨hf1,rfl,hj1,h1⟩;have hk1:=hfac.o w1 hf1;have hC:=zy (hRd.o w1 h1 hf1);have Q1:=hQ.o.call h1 hf1 hj1;have c1:=Q1.bx.c1;replace Q1:=zy Q1;clear h1 hf1)
        |(go_at_call 33;apply hC.o.mono;rintro e w2 ⟨v2,ev2,rfl,hf2,hv2,h,hR2⟩;subst hv2;obtain⟨eT,ex,rfl⟩:=h.iface;have Y:=(Q1.o.M.call hR2.choose_spec.choose_spec.1 hf2 hR2.choose_spec.choose_spec.2).G;have hz:=zy hf2.size;replace h:=zy h;replace hf2:=zy hf2;replace hR2:=zy hR2)
        |(go_at_call 129;apply(kE hI Y hks).mono;rintro e w3 I;have X:=zy (λv (he:e=.returned v)=>h.o.wrap I z2_ he);obtain⟨g3,b9,rfl,a9,J,k⟩:=I;replace k:=zy k;replace J:=zy J))
       try go_ret
       rw[a.o,hr.o];refine⟨_,_,rfl,(Q1.o.fr.trans hf2 u_).trans (k.o.mono v_) u_,rfl,(X.o _ rfl).ls (by have:=Q1.o.fr.size;omega),?_⟩;obtain⟨j2,m2,h1,V⟩:=hR2.o;exact⟨j2,m2,k.o.bl h1 id,V⟩
      |ok q=>
       have cc1:=Nat;exact cwVX1_
end
section
variable {w0 w:Aw} {P:Au} {ss:BA} {ds:Ar} {sv rv:Ax} {xs:Az} {s:BA} {E:jJ} {br i n:Nat}
def aL{l:Af}{p f:Nat}{y:Ax}{X:Cx}(hI:yV w0)(M:YC w0 P ss ds sv rv xs s E br i n w)(hn:n<=300)(hl:l.length<=4000)(ho:w.ownsRow 0 63 1 y l.length ((List.range l.length).map X))(hP:∀g,y.ownBlock=some g->P g)(hX:∀i t,l[i]?=some t->TyV w P t (X i))(K:∀t∈l,∀j,j<=s.size->rF w0 P ss ds sv rv xs s E br f t j n):Calls prog 87 #[P_ br,.agg #[Z_ pt,y]] w (yk (zx ds) (.alts p l) w sv rv s E br (vH (rdB s (zx ds) f) s l i n)):=by
 refine hq_ λy b=>?_;have y:=M.lt;have Z:=M.brP;obtain⟨L,I,rfl⟩:=zh ho;have A:Fr w (w.alloc (.cells #[Z_ pt,.slice L l.length I] 205)) N_:=(A_ w _).alloc _;have B:=M.new A;have H:=B_ w #[Z_ pt,.slice L l.length I] 205;have r:=mq hl B.R B.hs B.il B.err;have y:=M.hs;unfold vH at b;cases hb:vu s 0 ((l.length:Int)-1) i with
 |none=>
  rw[hb]at r b;replace r:=zy r;replace A:=zy A;go_in;go_wp2_with (go_at_call 130;apply r.o.mono;rintro e w1 ⟨h,rfl,j,O,h1⟩;replace h:=zy h;replace h1:=zy h1);try go_ret
  rw[b.o];exact cG ((A.o.mono v_).trans h u_) ⟨j,n,h1,O⟩
 |some q=>
  obtain⟨v,j⟩:=q;have hg:=yU hb;obtain⟨k,rfl⟩:∃m:Nat,v=(m:Int):=⟨v.toNat,M_⟩;rw[hb]at r b;simp only[bb_]at b;have Q:k<l.length:=M_;have Y:k<=4000:=M_;have y:(k:Int)<(l.length:Int):=M_;have hd:l[k]?=some l[k]:=ak_ Q;have S:l[k]∈l:=a9_ Q;rw[hd]at b;have a1:H_ (zN (zx ds) (.alts p l) k 0=l[k]):=zy (by simp[zN,az_,hd]);generalize l[k]=t at hd S b a1;simp only at b;have L:=hX k t hd;obtain⟨T,x,hx⟩:=L.iface;obtain⟨g,y,y⟩:=zu ho M_;cases y;have N:H_ (∀w1,Fr w w1 (· = br)->w1.cell? ⟨g,k,none⟩=some (.iface T x)/\TyV w1 P t (.iface T x)):=zy (λw1 y=>⟨by rw[ze (zk ho y (λg' hg e=>Z (e▸hP g' hg))) rfl (k:=k) (x:=X k) (by simp[Q]),hx],hx▸L.fr y (λg' hg e=>Z (e▸hg))⟩);have F:=zy (λw1 (h1:yL w1 br sv rv s j n) (y:Fr w w1 (· = br))=>K t S j M_ w1 _ (M.call h1 y M_) hn (N.o w1 y).2);have hB:=zy (λw1 (y:Fr (w.alloc (.cells #[Z_ pt,S_ g l.length I] 205)) w1 (· = br))=>y.bl H M_);replace r:=zy r;replace A:=zy A;have hG:=zy (λw1 (h1:yL w1 br sv rv s j n) (y:Fr w w1 (· = br))=>M.call h1 y M_);cases a0:rdB s (zx ds) f t j n with
  |error e0=>
   rw[a0]at b F;go_in;go_wp2_with (first
    |(go_at_call 130;apply r.o.mono;rintro e w1 ⟨h,rfl,O,h1⟩;have a:=(A.o.mono (T:=λg=>g=br) v_).trans h u_;have c1:=(N.o w1 a).1;have b1:=(hB.o w1 h).c1;have J:=zy (F.o w1 h1 a);have hM:=zy (hG.o w1 h1 a);replace a:=zy a)
    |(go_at_call 33;apply J.o.mono;rintro e w2 ⟨v2,a2,rfl,z,U,C,u⟩;subst U;obtain⟨y,y,rfl⟩:=C.iface;have y:=(hM.o.call u.choose_spec.choose_spec.1 z u.choose_spec.choose_spec.2).G;have hz:=zy z.size;replace C:=zy C;replace z:=zy z;replace u:=zy u)
    |(go_at_call 131;apply(wM (n:=k) hI y Y).mono;rintro e y V;have a3:=zy (λv (he:e=.returned v)=>C.o.wrap V z2_ he);obtain⟨y,y,rfl,y,y,D⟩:=V;replace D:=zy D;replace y:=zy y))
   try go_ret
   rw[b.o];refine⟨_,_,rfl,(a.o.trans z u_).trans (D.o.mono v_) u_,rfl,(a3.o _ rfl).ls (by have:=a.o.size;omega),?_⟩;obtain⟨y,B,h1,C⟩:=u.o;exact⟨y,B,D.o.bl h1 id,C⟩
  |ok q=>
   obtain⟨d,y,B⟩:=q;rw[a0]at b F;go_in;go_wp2_with (first
    |(go_at_call 130;apply r.o.mono;rintro e w1 ⟨h,rfl,O,h1⟩;have a:=(A.o.mono (T:=λg=>g=br) v_).trans h u_;have c1:=(N.o w1 a).1;have b1:=(hB.o w1 h).c1;have J:=zy (F.o w1 h1 a);replace a:=zy a)
    |(go_at_call 33;apply J.o.mono;rintro e w2 ⟨v2,a2,rfl,z,U,C,u,D⟩;subst U;obtain⟨h,dx,rfl⟩:=C.iface;replace C:=zy C;replace z:=zy z;replace u:=zy u))
   try go_ret
   rw[b.o];have hz:=a.o.size;refine yok (.branch k Y ?_) (a.o.trans z u_) u D;rw[a1.o];exact C.o.mono (λg _ hg=>M_)
def iX{l:Av}{t:PT}{z:Ax}{dd:Ao}(M:YC w0 P ss ds sv rv xs s E br i n w)(hl:l.length<=300)(I:∀q∈l,zt q.1=true)(ho:w.ownsRow 0 182 2 z l.length (yu l))(hP:∀g,z.ownBlock=some g->P g)(G:∀k,fI (zx ds) t k=(l.map Prod.fst).getD k 0):Calls prog 89 #[P_ br,.agg #[Z_ pt,z,.pointer dd]] w (yk (zx ds) t w sv rv s E br (match vu s 0 ((l.length:Int)-1) i with|none=>.error 6|some (q,j)=>.ok (.mk 101 q noB [] [],j,n))):=by
 refine hq_ λz u=>?_;have z:=M.lt;have Q:=M.brP;obtain⟨D,B,rfl⟩:=zh ho;have A:Fr w (w.alloc (.cells #[Z_ pt,.slice D l.length B,.pointer dd] 215)) N_:=(A_ w _).alloc _;have h:=M.new A;have y:=B_ w #[Z_ pt,.slice D l.length B,.pointer dd] 215;have b:=mq (m:=l.length) M_ h.R h.hs h.il h.err;have z:=M.hs;cases hb:vu s 0 ((l.length:Int)-1) i with
 |none=>
  rw[hb]at b u;replace b:=zy b;replace A:=zy A;go_in;go_wp2_with (go_at_call 130;apply b.o.mono;rintro e w1 ⟨d,rfl,j,C,h1⟩;replace d:=zy d;replace h1:=zy h1);try go_ret
  rw[u.o];exact cG ((A.o.mono v_).trans d u_) ⟨j,n,h1,C⟩
 |some q=>
  obtain⟨v,j⟩:=q;have hg:=yU hb;obtain⟨k,rfl⟩:∃m:Nat,v=(m:Int):=⟨v.toNat,M_⟩;rw[hb]at b u;have z:k<l.length:=M_;have O:k<=4000:=M_;have D:(k:Int)<(l.length:Int):=M_;have hd:l[k]?=some l[k]:=ak_ z;have F:l[k]∈l:=a9_ z;have r:fI (zx ds) t k=l[k].1:=by rw[G k];simp[az_,hd]
  generalize l[k]=c at hd F r;obtain⟨x,cp⟩:=c;have H:=I _ F;obtain⟨z,D,z⟩:=wa H;simp only at r D;have L:x<256:=M_;obtain⟨g,z,z⟩:=zu ho M_;cases z;have N:H_ (∀w1,Fr w w1 (· = br)->w1.cell? ⟨g,k*2+1,none⟩=some (U_ x)):=zy (λw1 z=>ze (zk ho z (λg' hg e=>Q (e▸hP g' hg))) rfl (xW hd).2);have hB:=zy (λw1 (z:Fr (w.alloc (.cells #[Z_ pt,S_ g l.length B,.pointer dd] 215)) w1 (· = br))=>z.bl y M_);replace b:=zy b;replace A:=zy A;replace r:=zy r;replace D:=zy D;go_in;go_wp2_with (go_at_call 130;apply b.o.mono;rintro e w1 ⟨d,rfl,C,h1⟩;have b:=(A.o.mono (T:=λg=>g=br) v_).trans d u_;have c1:=(N.o w1 b);have b1:=(hB.o w1 d).c1;replace b:=zy b;replace h1:=zy h1);try go_ret
  rw[u.o];refine yok (.flat (.sym k x O) (λh d e=>?_)) b h1 C;injection e with _ e
  injection e with e
  have b:=congrArg (λa=>a.toList) e;simp only[List.cons.injEq,Value.int.injEq,true_and,and_true]at b;obtain⟨u,u⟩:=b;have J:x=d:=M_;have K:k=h:=M_;subst J;subst K;exact⟨r,L⟩
def aR{k:Nat}{t:PT}(M:YC w0 P ss ds sv rv xs s E br i n w)(hk:k<=9):Calls prog 90 #[P_ br,.agg #[Z_ pt,I_ k]] w (yk (zx ds) t w sv rv s E br (match xU s i k with|none=>.error 6|some (tx,j)=>.ok (.mk 102 0 tx [] [],j,n))):=by
 refine hq_ λd g=>?_;have A:Fr w (w.alloc (.cells #[Z_ pt,I_ k] 218)) N_:=(A_ w _).alloc _;have d:=M.new A;have a:=pM (m:=k) d.R d.hs d.il M_ d.err;have u:=M.hs;have r:=M.il;replace A:=zy A;cases hb:xU s i k with
 |none=>
  rw[hb]at a g;replace a:=zy a;go_in;go_wp2_with (go_at_call 133;apply a.o.mono;rintro e w1 ⟨b,rfl,j,h,h1⟩;replace b:=zy b;replace h1:=zy h1);try go_ret
  rw[g.o];exact cG ((A.o.mono v_).trans b u_) ⟨j,n,h1,h⟩
 |some q=>
  obtain⟨tx,j⟩:=q;have hg:=qS r hb;rw[hb]at a g;replace a:=zy a;go_in;go_wp2_with (go_at_call 133;apply a.o.mono;rintro e w1 ⟨b,rfl,h,h1⟩;replace b:=zy b;replace h1:=zy h1);try go_ret
  rw[g.o];exact yok (J_ (.bytes tx M_) D_) ((A.o.mono v_).trans b u_) h1 h
end
def GR(R_:Except Nat (List DT×Nat×Nat))(R:PT->Nat->Nat->Except Nat (DT×Nat×Nat))(fs:Am)(n:Nat)(w0:Aw)(P:Au)(ss:BA)(ds:Ar)(sv rv:Ax)(xs:Az)(s:BA)(E:jJ)(br:Nat)(cx:Az)(ct:As)(t:PT)(w:Aw)(q:Nat)(v6 v14:Ax)(W:Aw):Prop:=
 ∃(l:List DT) (j nn:Nat),v14=I_ l.length/\l.length<=fs.length/\n<=nn/\nn<=300/\302<=q+l.length/\H_ (YL w0 P ss ds sv rv xs s E br j nn cx ct t w v6 l W)/\R_=gE l (ym R ((fs.map PF.ty).drop l.length) j nn)
section
variable {w0 w:Aw} {P:Au} {ss:BA} {ds:Ar} {sv rv:Ax} {xs:Az} {s:BA} {E:jJ} {br i n:Nat}
def Fb:Except Nat (List DT×Nat×Nat)->Except Nat (DT×Nat×Nat)
 | .error e=>.error e
 | .ok (l,j,m)=>.ok (.mk 114 0 noB [] l,j,m)
def iV{fs:Am}{t:PT}{f:Nat}{fv:Ax}{zs:Az}(M:YC w0 P ss ds sv rv xs s E br i n w)(hn:n<=300)(h:xQ w P ss fs fv zs)(G:∀g∈fs,zt g.letter=true)(a8:fs.length<=300)(H:∀k g,fs[k]?=some g->zN (zx ds) t 0 k=g.ty)(C:∀g∈fs,∀j nn,n<=nn->nn<=300->j<=s.size->rF w0 P ss ds sv rv xs s E br f g.ty j nn):Calls prog 88 #[P_ br,.agg #[Z_ pt,fv]] w (yk (zx ds) t w sv rv s E br (Fb (ym (rdB s (zx ds) f) (fs.map PF.ty) i n))):=by
 refine hq_ λa4 Q_=>?_;have V:=M.lt;have a0:=M.brP;obtain⟨b,d,rfl⟩:=zh h.row;have A:Fr w (w.alloc (.cells #[Z_ pt,.slice b fs.length d] 210)) N_:=(A_ w _).alloc _;have J:=M.new A;have r:=B_ w #[Z_ pt,.slice b fs.length d] 210;obtain⟨y,m⟩:=e_ (ym (rdB s (zx ds) f) (fs.map PF.ty) i n);rw[<- m]at Q_;have S:H_ (GR y (rdB s (zx ds) f) fs n w0 P ss ds sv rv xs s E br [Z_ pt,.slice b fs.length d] 210 t w 302 (L_) (O_) (w.alloc (.cells #[Z_ pt,.slice b fs.length d] 210))):=zy ⟨[],i,n,rfl,by simp,l_,hn,by simp,zy ⟨J,A.mono v_,r,by simp,V,jG.nil _ _ _ _ _⟩,by rw[ro,m];rfl⟩;replace m:=zy m;replace C:=zy C;replace h:=zy h;replace G:=zy G;replace H:=zy H;have hb1:=r.c1;clear M J A r;go_in;go_wp2;go_loopg [6,8,9,10,14] 302 (λq v6 v8 v9 b5 a3 W=>GR y (rdB s (zx ds) f) fs n w0 P ss ds sv rv xs s E br [Z_ pt,.slice b fs.length d] 210 t w q v6 a3 W);case atStart=>exact S
 case round=>
  clear S hb1;obtain⟨l,j,nn,rfl,a7,a1,hnn3,hq,hQ,hres⟩:=hrel;obtain⟨Y,hrow,hY⟩:=hQ.o.row;obtain⟨la,lc,rfl⟩:=zh hrow;by_cases O:l.length=fs.length
  .have Z:¬(l.length:Int)<(fs.length:Int):=M_;have hr:=zy (show y=.ok (l,j,nn) by rw[hres,ci_ x4_];simp[ym,gE]);have K:=zy hQ.o.row;clear hres hrow hY O;go_wp2;try go_ret
   rw[Q_.o,hr.o];refine yok ?_ hQ.o.fr hQ.o.M.R hQ.o.M.il;exact K.o.dat (λg _ hg=>M_) (λg e=>by have:=K.o;obtain⟨_,a,_⟩:=this;have:=(a.lt g e).1;show w.heap.size<=g;omega) (.inr ⟨rfl,rfl⟩)
  .have Z:(l.length:Int)<(fs.length:Int):=M_;have D:l.length<fs.length:=M_;have hd:fs[l.length]?=some fs[l.length]:=ak_ D;have hmem:fs[l.length]∈fs:=a9_ D;have N:(fs.map PF.ty).drop l.length=fs[l.length].ty::(fs.map PF.ty).drop (l.length+1):=by
    rw[bc_ (by simpa using D),List.getElem_map]
   rw[N,mD]at hres;generalize fs[l.length]=g0 at hd hmem hres;have B:=h.o.fr hQ.o.fr (λg hg e=>a0 (e▸hg));obtain⟨gz,a5,X⟩:=zu B.row M_;cases X;obtain⟨T,x,z,c0,c1,c2,c3,L,U⟩:=B.cells hd;obtain⟨lt,F⟩:=x_ g0.letter;obtain⟨I,Q⟩:=x_ g0.place;have hls:zt lt=true:=by rw[<- F];exact G.o _ hmem
   rw[F]at c1;rw[Q]at c0;have hsb:=zy (H.o _ _ hd);have A1:=(A_ wr N_).alloc (.cells #[I_ I,U_ lt,.iface T x,.pointer z] 185);have N1:=B_ wr #[I_ I,U_ lt,.iface T x,.pointer z] 185;have hz1:(wr.alloc (.cells #[I_ I,U_ lt,.iface T x,.pointer z] 185)).heap.size=wr.heap.size+1:=x8_
   have Q0:=hQ.o.call (A1.bl hQ.o.M.R id) (A1.mono v_) hQ.o.M.il;have hC:=C.o _ hmem j nn a1 hnn3 hQ.o.M.il _ _ Q0.M hnn3 (L.fr A1 u_);have a6:=hQ.o.bB;have hL3:l.length<=300:=M_;revert N1 hz1 Q0;refine h_ λN1 hz1 Q0=>?_;clear L U B F Q N O;cases hrd:rdB s (zx ds) f g0.ty j nn with
   |error e0=>
    have cc1:=Nat;exact cwYQ2_
   |ok q=>
    have cc1:=Nat;exact cwYQ1_
end
def wk(s:BA)(env:Ay)(f:Nat)(t:PT)(i n:Nat):Except Nat (DT×Nat×Nat):=
 match t with
 | .leaf c _=>vO (rdB s env f) s env c i n
 | .wrap c _ t=>qi (rdB s env f t) s c i n
 | .alts _ ts=>vH (rdB s env f) s ts i n
def Jw(s:BA)(env:Ay)(f:Nat)(t:PT)(i n:Nat):rdB s env (f+1) t i n=if 300<=n then .error 7 else wk s env f t i (n+1):=by
 cases t<;>(rw[rdB];rfl)
def WD(s:BA)(i:Nat):vu s (-9223372036854775808) 9223372036854775807 i=bL s i:=by
 unfold vu;cases h:bL s i with
 |none=>rfl
 |some q=>
  obtain⟨z,j⟩:=q;have:=fF h;simp only;rw[i_ ⟨this.2.2.1,this.2.2.2⟩]
def dB(w0:Aw)(P:Au)(ss:BA)(ds:Ar)(sv rv:Ax)(xs:Az)(s:BA)(E:jJ)(br f:Nat)(t:PT)(i n:Nat):Prop:=
 ∀(w:World) (v:Value),YC w0 P ss ds sv rv xs s E br i n w->n<=300->TyV w P t v->
  Calls prog 57 #[P_ br,v] w (yk (zx ds) t w sv rv s E br (wk s (zx ds) f t i n))
def Gw(w0:Aw)(P:Au)(ss:BA)(ds:Ar)(sv rv:Ax)(xs:Az)(s:BA)(E:jJ)(br f c p:Nat)(b:PB)(i n:Nat):Prop:=
 ∀(w:World) (v:Value),YC w0 P ss ds sv rv xs s E br i n w->n<=300->yM w P ss b v->
  Calls prog 57 #[P_ br,v] w (yk (zx ds) (.leaf c p) w sv rv s E br (yX (rdB s (zx ds) f) s b i n))
section
variable {w0:Aw} {P:Au} {ss:BA} {ds:Ar} {sv rv:Ax} {xs:Az} {s:BA} {E:jJ} {br i n:Nat} {f p:Nat}
def WU:dB w0 P ss ds sv rv xs s E br f (.leaf 110 p) i n:=by
 intro w v M hn d;obtain rfl:v=.iface 191 (.agg #[I_ p]):=by
  cases d with
  |base _ _ h=>rfl
  |name _ _ h=>exact absurd h D_
 refine hq_ λa a=>?_;unfold wk at a;simp only at a;unfold vO at a;have A:Fr w (w.alloc (.cells #[I_ p] 191)) N_:=(A_ w _).alloc _;have b:=M.new A;rw[i_ rfl]at a;replace b:=zy b;replace A:=zy A;go_in;go_wp2;try go_ret
 rw[a.o];exact yok (J_ .nothing D_) (A.o.mono v_) b.o.R b.o.il
def WP:dB w0 P ss ds sv rv xs s E br f (.leaf 116 p) i n:=by
 intro w v M hn g;obtain rfl:v=.iface 192 (.agg #[I_ p]):=by
  cases g with
  |base _ _ h=>rfl
  |name _ _ h=>exact absurd h D_
 refine hq_ λd a=>?_;unfold wk at a;simp only at a;unfold vO at a;have A:Fr w (w.alloc (.cells #[I_ p] 192)) N_:=(A_ w _).alloc _;have d:=M.new A;rw[n_ D_,i_ rfl]at a;have m:=zy (aH (env:=zx ds) (t:=.leaf 116 p) d);replace A:=zy A;go_in;go_wp2_with (go_at_call 82;apply m.o.mono;intro e d q;obtain⟨r,k,rfl,b⟩:=q;replace b:=zy b);try go_ret
 rw[a.o];exact yk.pre A ⟨r,k,rfl,b⟩
def WL:dB w0 P ss ds sv rv xs s E br f (.leaf 105 p) i n:=by
 intro w v M hn g;obtain rfl:v=.iface 194 (.agg #[I_ p]):=by
  cases g with
  |base _ _ h=>rfl
  |name _ _ h=>exact absurd h D_
 refine hq_ λd a=>?_;unfold wk at a;simp only at a;unfold vO at a;have A:Fr w (w.alloc (.cells #[I_ p] 194)) N_:=(A_ w _).alloc _;have d:=M.new A;rw[n_ D_,n_ D_,i_ rfl]at a;have m:=zy (pP (env:=zx ds) (t:=.leaf 105 p) (c:=105) (lo:=-2147483648) (up:=2147483647) (.inl rfl) d);replace A:=zy A;go_in;go_wp2_with (go_at_call 83;apply m.o.mono;intro e d q;obtain⟨r,k,rfl,b⟩:=q;replace b:=zy b);try go_ret
 rw[a.o];exact yk.pre A ⟨r,k,rfl,b⟩
def WC:dB w0 P ss ds sv rv xs s E br f (.leaf 108 p) i n:=by
 intro w v M hn k;obtain rfl:v=.iface 196 (.agg #[I_ p]):=by
  cases k with
  |base _ _ h=>rfl
  |name _ _ h=>exact absurd h D_
 refine hq_ λb a=>?_;unfold wk at a;simp only at a;unfold vO at a;have A:Fr w (w.alloc (.cells #[I_ p] 196)) N_:=(A_ w _).alloc _;have g:=M.new A;rw[n_ D_,n_ D_,n_ D_,i_ rfl]at a;have b:=pP (env:=zx ds) (t:=.leaf 108 p) (c:=108) (lo:=-9223372036854775808) (up:=9223372036854775807) (.inr rfl) g;rw[WD]at b;replace b:=zy b;replace A:=zy A;go_in;go_wp2_with (go_at_call 83;apply b.o.mono;intro e b q;obtain⟨r,m,rfl,d⟩:=q;replace d:=zy d);try go_ret
 rw[a.o];exact yk.pre A ⟨r,m,rfl,d⟩
def WB:dB w0 P ss ds sv rv xs s E br f (.leaf 115 p) i n:=by
 intro w v M hn g;obtain rfl:v=.iface 197 (.agg #[I_ p]):=by
  cases g with
  |base _ _ h=>rfl
  |name _ _ h=>exact absurd h D_
 refine hq_ λd a=>?_;unfold wk at a;simp only at a;unfold vO at a;have A:Fr w (w.alloc (.cells #[I_ p] 197)) N_:=(A_ w _).alloc _;have d:=M.new A;rw[n_ D_,n_ D_,n_ D_,n_ D_,i_ rfl]at a;have m:=zy (YJ (env:=zx ds) (t:=.leaf 115 p) d);replace A:=zy A;go_in;go_wp2_with (go_at_call 84;apply m.o.mono;intro e d q;obtain⟨r,k,rfl,b⟩:=q;replace b:=zy b);try go_ret
 rw[a.o];exact yk.pre A ⟨r,k,rfl,b⟩
def FD{t:PT}(hI:yV w0)(hR:∀j nn,n<=nn->nn<=300->j<=s.size->rF w0 P ss ds sv rv xs s E br f t j nn):dB w0 P ss ds sv rv xs s E br f (.wrap 91 p t) i n:=by
 have cc1:=Nat
 exact cq20_
def WG{t:PT}(hI:yJ w0)(hR:∀j nn,n<=nn->nn<=300->j<=s.size->rF w0 P ss ds sv rv xs s E br f t j nn):dB w0 P ss ds sv rv xs s E br f (.wrap 123 p t) i n:=by
 have cc1:=Nat
 exact cq19_
def FT{l:Af}(u:yV w0)(hl:l.length<=4000)(k:∀t∈l,∀j,j<=s.size->rF w0 P ss ds sv rv xs s E br f t j n):dB w0 P ss ds sv rv xs s E br f (.alts p l) i n:=by
 intro w v M hn m;obtain⟨X,a,ho,hP,hX,rfl⟩:∃(X:Nat->Value) (a:Value),w.ownsRow 0 63 1 a l.length ((List.range l.length).map X)/\(∀g,a.ownBlock=some g->P g)/\(∀i t,l[i]?=some t->TyV w P t (X i))/\v=.iface 205 (.agg #[I_ p,a]):=by
  cases m with
  |alts _ X ho hP h=>exact⟨X,_,ho,hP,h,rfl⟩
 obtain⟨ba,q,rfl⟩:=zh ho;refine hq_ λa b=>?_;unfold wk at b;simp only at b;have A:Fr w (w.alloc (.cells #[I_ p,.slice ba l.length q] 205)) N_:=(A_ w _).alloc _;have a:=M.new A;have m:=zy (aL (p:=p) (pt:=(p:Int)) u a hn hl (zk ho A u_) hP (λi t e=>(hX i t e).fr A u_) k);replace A:=zy A;go_in;go_wp2_with (go_at_call 87;apply m.o.mono;intro e a x;obtain⟨y,r,rfl,d⟩:=x;replace d:=zy d);try go_ret
 rw[b.o];exact yk.pre A ⟨y,r,rfl,d⟩
def Qc{fs:Am}(hb:zx ds c=some (.recd fs))(y:∀g∈fs,zt g.letter=true)(D:fs.length<=300)(x:∀g∈fs,∀j nn,n<=nn->nn<=300->j<=s.size->rF w0 P ss ds sv rv xs s E br f g.ty j nn):Gw w0 P ss ds sv rv xs s E br f c p (.recd fs) i n:=by
 intro w v M hn d;obtain⟨z,a,zs,ho,hP,h,rfl⟩:∃(p:Nat) (a:Value) (zs:List Value),w.ownsRow 0 185 4 a fs.length zs/\(∀g,a.ownBlock=some g->P g)/\xJ w P ss fs zs/\v=.iface 210 (.agg #[I_ p,a]):=by
  cases d with
  |recd p ho hP h=>exact⟨p,_,_,ho,hP,h,rfl⟩
 obtain⟨r,u,rfl⟩:=zh ho;refine hq_ λa m=>?_;have hr:yX (rdB s (zx ds) f) s (.recd fs) i n=Fb (ym (rdB s (zx ds) f) (fs.map PF.ty) i n):=by
  unfold yX;simp only;cases ym (rdB s (zx ds) f) (fs.map PF.ty) i n with
  |error e=>rfl
  |ok q=>rfl
 rw[hr]at m;have A:Fr w (w.alloc (.cells #[I_ z,.slice r fs.length u] 210)) N_:=(A_ w _).alloc _;have d:=M.new A;have a:xQ w P ss fs (.slice r fs.length u) zs:=⟨ho,hP,h⟩;have r:=zy (iV (t:=.leaf c p) (pt:=(z:Int)) d hn (a.fr A u_) y D (λk g e=>by simp[zN,hb,az_,e]) x);replace A:=zy A;go_in;go_wp2_with (go_at_call 88;apply r.o.mono;intro e a C;obtain⟨F,B,rfl,b⟩:=C;replace b:=zy b);try go_ret
 rw[m.o];exact yk.pre A ⟨F,B,rfl,b⟩
def Ql{l:Av}{o:Ac}(hb:zx ds c=some (.enum l o))(x:∀q∈l,zt q.1=true)(F:l.length<=300):Gw w0 P ss ds sv rv xs s E br f c p (.enum l o) i n:=by
 intro w v M hn r;obtain⟨y,a,u,ho,hP,hu,rfl⟩:∃(p:Nat) (a u:Value),w.ownsRow 0 182 2 a l.length (yu l)/\(∀g,a.ownBlock=some g->P g)/\qV w P o u/\v=.iface 215 (.agg #[I_ p,a,u]):=by
  cases r with
  |enum p ho hP h=>exact⟨p,_,_,ho,hP,h,rfl⟩
 obtain⟨B,C,rfl⟩:=zh ho;obtain⟨dd,rfl⟩:∃d,u=.pointer d:=by
  unfold qV at hu;split at hu
  .exact⟨_,hu⟩
  .obtain⟨g',_,e,_⟩:=hu;exact⟨_,e⟩
 refine hq_ λa b=>?_;unfold yX at b;simp only at b;have A:Fr w (w.alloc (.cells #[I_ y,.slice B l.length C,.pointer dd] 215)) N_:=(A_ w _).alloc _;have a:=M.new A;have r:=zy (iX (t:=.leaf c p) (pt:=(y:Int)) (dd:=dd) a F x (zk ho A u_) hP (λk=>by simp[fI,hb]));replace A:=zy A;go_in;go_wp2_with (go_at_call 89;apply r.o.mono;intro e a D;obtain⟨G,z,rfl,m⟩:=D;replace m:=zy m);try go_ret
 rw[b.o];exact yk.pre A ⟨G,z,rfl,m⟩
def Vk{k:Nat}(hk:k<=9):Gw w0 P ss ds sv rv xs s E br f c p (.bytes k) i n:=by
 intro w v M hn d;obtain⟨g,rfl⟩:∃p:Nat,v=.iface 218 (.agg #[I_ p,I_ k]):=by
  cases d with
  |bytes p n=>exact⟨p,rfl⟩
 refine hq_ λm a=>?_;unfold yX at a;simp only at a;have A:Fr w (w.alloc (.cells #[I_ g,I_ k] 218)) N_:=(A_ w _).alloc _;have d:=M.new A;have m:=zy (aR (t:=.leaf c p) (pt:=(g:Int)) d hk);replace A:=zy A;go_in;go_wp2_with (go_at_call 90;apply m.o.mono;intro e d q;obtain⟨r,h,rfl,b⟩:=q;replace b:=zy b);try go_ret
 rw[a.o];exact yk.pre A ⟨r,h,rfl,b⟩
def QX(hc:zZ c=true){b:PB}(hb:zx ds c=some b)(X:Gw w0 P ss ds sv rv xs s E br f c p b i n):dB w0 P ss ds sv rv xs s E br f (.leaf c p) i n:=by
 intro w v M hn J;have a2:65<=c/\c<=70:=yd_
 obtain rfl:v=.iface 208 (.agg #[I_ p,U_ c]):=by
  cases J with
  |base _ _ h=>
   simp only[zY,av_,beq_iff_eq]at h;omega
  |name _ _ h=>rfl
 have hr:wk s (zx ds) f (.leaf c p) i n=yX (rdB s (zx ds) f) s b i n:=by
  unfold wk;simp only;unfold vO;rw[n_ M_,n_ M_,n_ M_,n_ M_,n_ M_,hb]
 rw[hr];obtain⟨V,I⟩:=e_ (yX (rdB s (zx ds) f) s b i n);rw[<- I];refine hq_ λa0 U=>?_;have A:Fr w (w.alloc (.cells #[I_ p,U_ c] 208)) N_:=(A_ w _).alloc _;have a:=M.new A;have d:=B_ w #[I_ p,U_ c] 208;have a1:=M.lt;have L:=zy (And.intro a (And.intro d A));clear hr J M a d A;go_in;go_wp2;obtain⟨a,d,A⟩:=L.o;have y:=a.si (zw.drew _);have u0:=a.R.c0;have N:=a.R.c1;have u2:=d.c1;have H:=qw (rv:=rv) c y.D;refine tR_ (λW=>z_ W br 0 sv/\z_ W br 1 rv/\z_ W w.heap.size 1 (U_ c)) ?_;refine tY_ 0 ?_;refine tY_ 1 ?_;refine tY_ 2 ?_;refine tY_ 3 ?_;refine tY_ 4 ?_;refine tY_ 5 ?_;refine tY_ 6 ?_;refine zd 7 rfl K_ ⟨u0,N,u2⟩ (λK g=>?_);go_simp;apply H.mono;rintro e w2 ⟨Z,rfl,k,F⟩;refine g _ _ ?_;clear g K;rw[hb]at F;have u:=y.new k;have B:=X w2 Z u hn F;have C:=k.bl (((A_ _ N_).si (zw.drew (w.alloc (.cells #[I_ p,U_ c] 208)))).bl d id) id;have Q:=u.R.c0;have S:=u.R.c1;have T:=C.c1;rw[<- I]at B;refine zd 8 rfl K_ ⟨Q,S,T⟩ (λK g=>?_);go_simp;apply B.mono;rintro e w3 ⟨O,G,rfl,x,r⟩;refine g _ _ ?_;clear g K;obtain⟨j3,m3,z⟩:∃j m,yL w3 br sv rv s j m:=by
  cases V with
  |error e=>exact⟨_,_,r.2.2.choose_spec.choose_spec.1⟩
  |ok q=>exact⟨_,_,r.2.2.1⟩
 have y0:=z.c0;have y1:=z.c1;have y2:=(x.bl C M_).c1;replace r:=zy r;replace x:=zy x;replace k:=zy k;replace A:=zy A;clear H B a y u d C F L u0 N u2 Q S T z;refine tY_ 9 ?_;refine tY_ 10 ?_;refine tY_ 11 ?_;refine tY_ 12 ?_;refine zV K_ ⟨y0,y1,y2⟩ ?_ _;go_wp2;refine bodyPost_ret (v:=.tuple #[O,G]) (by simp[results,results57,go_sem]) rfl ?_;rw[U.o];exact yk.pre (A.o.trans (((A_ _ N_).si (zw.drew _)).trans k u_) u_) ⟨O,G,rfl,x,r⟩
end
end Go.Proofs.YtahhhgbojlkjnaaGreatDoor
