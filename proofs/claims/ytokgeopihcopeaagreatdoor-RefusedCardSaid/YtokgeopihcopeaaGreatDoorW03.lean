import Derived.Test.YtokgeopihcopeaaGreatDoorW02
set_option linter.unusedVariables false
set_option maxHeartbeats 16000000
set_option maxRecDepth 100000
set_option linter.defProp false
set_option linter.unusedSimpArgs false
open Go.Proofs.Tryz
namespace Go.Proofs.YtokgeopihcopeaaGreatDoor
open Go.RowKit
variable {sb:BA}{o so n:Int}{ds:Ar}{cnt:Nat}{xs:Ay}
structure SM(w:Aw)(X:Az)(br bz B:Nat)(s:BA)(j:Nat)(bad:Aq)(wg MX:Int)(TS:Ap)(US:As)(zs:Ay)(tv u:Ax)(cs:Ay)(W:Aw):Prop where
 R:Rep W (λg=>X g\/g=w.heap.size\/g=w.heap.size+1) br bz B s j bad wg MX TS US zs tv u
 b2:Blk W w.heap.size zS 62
 b3:Blk W (w.heap.size+1) cs 62
 st:zT w W br bz tv u tv u
section
variable {w W W':Aw} {X:Az} {br bz B:Nat} {s:BA} {j:Nat} {bad:Aq} {wg MX:Int} {TS:Ap} {US:As} {zs:Ay} {tv u:Ax} {cs:Ay}
def SM.call(M:SM w X br bz B s j bad wg MX TS US zs tv u cs W){j':Nat}{a:Aq}{b:Int}(c:Rep W' (λg=>X g\/g=w.heap.size\/g=w.heap.size+1) br bz B s j' a b MX TS US zs tv u)(st:zT W W' br bz tv u tv u):SM w X br bz B s j' a b MX TS US zs tv u cs W':=
 ⟨c,st.fr.bl M.b2 (M.R.offS (.inr (.inl rfl))),st.fr.bl M.b3 (M.R.offS (.inr (.inr rfl))),M.st.trans st⟩
def SM.si(M:SM w X br bz B s j bad wg MX TS US zs tv u cs W)(h:zq W W'):SM w X br bz B s j bad wg MX TS US zs tv u cs W':=M.call (M.R.si h) (zT.oS h)
def SM.inc(M:SM w X br bz B s j bad wg MX TS US zs tv u cs W)(h:j<s.size):SM w X br bz B s (j+1) bad wg MX TS US zs tv u cs (W.setCell ⟨br,1,none⟩ (Z_ ((j:Int)+1))):=M.call (M.R.inc h).1 (M.R.inc h).2
def SM.alloc(M:SM w X br bz B s j bad wg MX TS US zs tv u cs W)(o:Obj):SM w X br bz B s j bad wg MX TS US zs tv u cs (W.alloc o):=M.call (M.R.alloc o).1 (M.R.alloc o).2
def SM.put(M:SM w X br bz B s j bad wg MX TS US zs tv u cs W)(o:Nat)(v:Ax):SM w X br bz B s j bad wg MX TS US zs tv u (cs.set o v) (W.setCell ⟨w.heap.size+1,o,none⟩ v):=by
 have a:Fr W (W.setCell ⟨w.heap.size+1,o,none⟩ v) (λg=>g=w.heap.size+1):=(A_ W (λg=>g=w.heap.size+1)).setCell ⟨w.heap.size+1,o,none⟩ v (λ_=>rfl);exact⟨(M.R.o (a.mono (λ_ _ e=>.inr (.inr e)))).fe (λ_ h=>.inl h),a.bl M.b2 M_,M.b3.set o v,M.st.o a (λg hg=>M_)⟩
end
def zA(sb:BA)(o:Int):List Value:=[.int .u8 101,L_,.string sb,Z_ o,O_]
def wrS(seen:Ao):List (Nat×Nat)->Int->Int
 | [],m=>m
 |f::r,m=>wrS (seen++[f.1]) r (if f.1∈seen then zF f.2 m else m)
def QQ(a:Ao)(ds:As)(f:Nat×Nat)(m:Int):wrS a (ds++[f]) m=if f.1∈a++ds.map Prod.fst then zF f.2 (wrS a ds m) else wrS a ds m:=by
 induction ds generalizing a m with
 |nil=>simp[wrS]
 |cons d r ih=>rw[bk_,wrS,wrS,ih,bx_];rfl
def wrE(l:As)(o:Ac)(m:Int):Int:=
 match o with
 |none=>wrS [] l m
 |some (c,at_)=>if c∈l.map Prod.fst then wrS [] l m else zF at_ (wrS [] l m)
def dj(w:Aw)(X:Az)(br bz B:Nat)(s:BA)(i:Nat)(wr mx:Int)(ts:Ap)(us:As)(zs:Ay)(tv u:Ax)(e:Ak)(w':Aw):Prop:=
 ∃sb o,e=.returned (.agg (zA sb o).toArray)/\zT w w' br bz tv u tv u/\
 match xY s i with
 | .ok ((l,unk),j)=>sb.data.toList.map UInt8.toNat=l.map Prod.fst/\o=(match unk with|none=>-1|some (c,_)=>plc sb c)/\Rep w' X br bz B s j false (wrE l unk wr) mx ts us zs tv u
 | .error k=>∃wr',Rep w' X br bz B s k true wr' mx ts us zs tv u
def GW(R_:Except Nat ((List (Nat×Nat)×Option (Nat×Nat))×Nat))(w:Aw)(X:Az)(br bz B:Nat)(s:BA)(i:Nat)(wr mx:Int)(ts:Ap)(us:As)(zs:Ay)(tv u:Ax)(m:Nat)(mv:Ax)(W:Aw):Prop:=
 ∃(sb:BA) (more:Bool),mv=.bool more/\sb.size<=300/\
  ((∃(ds:List (Nat×Nat)) (j:Nat),SM w X br bz B s j false (wrS [] ds wr) mx ts us zs tv u (zA sb (-1)) W/\sb.data.toList.map UInt8.toNat=ds.map Prod.fst/\i+ds.length<=j/\s.size+2-j<=m/\
   R_=if more=true then gP s ds (qN s j) else oU s ds j)\/
   (∃k wg',SM w X br bz B s k true wg' mx ts us zs tv u (zA sb (-1)) W/\R_=.error k))
def WX{w:Aw}{X:Az}{br bz B:Nat}{s:BA}{i:Nat}{wg mx:Int}{ts:Ap}{us:As}{zs:Ay}{tv u:Ax}(R:Rep w X br bz B s i false wg mx ts us zs tv u):SM w X br bz B s i false wg mx ts us zs tv u (zA ⟨#[]⟩ (-1)) ((w.alloc (.cells zS.toArray 62)).alloc (.cells (zA ⟨#[]⟩ (-1)).toArray 62)):=by
 have h1:=R.o (((A_ w X).alloc (.cells zS.toArray 62)).alloc (.cells (zA ⟨#[]⟩ (-1)).toArray 62));refine⟨h1.fe (λg hg=>?_),(B_ w _ _).alloc _,?_,⟨((A_ w _).alloc _).alloc _,.inl rfl,.inl rfl⟩⟩
 .rcases hg with hg|hg|hg
  .exact .inl hg
  .exact .inr x1_
  .exact .inr x1_
 .have:=B_ (w.alloc (.cells zS.toArray 62)) (zA ⟨#[]⟩ (-1)).toArray 62;simpa using this
def vM{w W W':Aw}{X:Az}{br bz B:Nat}{s:BA}{j:Nat}{bad:Aq}{wg:Int}{zs:Ay}{tv u:Ax}{i:Nat}{wr mx:Int}{ts:Ap}{us:As}(M:SM w X br bz B s j bad wg mx ts us zs tv u (zA sb o) W)(b:Fr W W' (λg=>g=w.heap.size))(h:match xY s i with
  | .ok ((l,a),j')=>j=j'/\bad=false/\sb.data.toList.map UInt8.toNat=l.map Prod.fst/\o=(match a with|none=>-1|some (c,_)=>plc sb c)/\wg=wrE l a wr
  | .error k=>j=k/\bad=true):dj w X br bz B s i wr mx ts us zs tv u (.returned (.agg (zA sb o).toArray)) W':=by
 have d:=(M.R.o (b.mono (λ_ _ e=>.inr (.inl e)))).fe (Y:=X) (λg hg=>.inl (.inl hg));refine⟨sb,o,rfl,M.st.o b (λg hg=>M_),?_⟩;cases hp:xY s i with
 |error k=>
  rw[hp]at h;obtain⟨rfl,rfl⟩:=h;exact⟨_,d⟩
 |ok q=>
  obtain⟨⟨l,a⟩,j'⟩:=q;rw[hp]at h;obtain⟨rfl,rfl,h1,f,rfl⟩:=h;exact⟨h1,f,d⟩
def XA{c:Except Nat ((List (Nat×Nat)×Option (Nat×Nat))×Nat)}{w W:Aw}{X:Az}{br bz B:Nat}{s:BA}{i j:Nat}{wg mx a:Int}{ts:Ap}{us:As}{zs:Ay}{tv u:Ax}{ds:As}(n j':Nat)(more:Aq)(g:c=gP s ds (qN s j))(hs:s.size<=300)(d:i+ds.length<=j)(d:sb.data.toList.map UInt8.toNat=ds.map Prod.fst)(f:zl (bt s j)=true)(h:a=if 0<=plc sb (bt s j) then zF j (wrS [] ds wg) else wrS [] ds wg)(M:SM w X br bz B s j' false a mx ts us zs tv u (zA (sb++⟨#[UInt8.ofNat (bt s j)]⟩) (-1)) W)(hn:s.size+2-j'<=n)(hm:(more=true/\bt s (j+1)=44/\j'=j+2)\/(more=false/\bt s (j+1)≠44/\j'=j+1)):GW c w X br bz B s i wg mx ts us zs tv u n (.bool more) W:=by
 have hl:=zp (xX f);have e:=iX d (rG s j);have c:=congrArg List.length e;simp only[bu_,Array.length_toList,ag_,au_,av_]at c;have c:(sb++⟨#[UInt8.ofNat (bt s j)]⟩:BA).size=(sb++⟨#[UInt8.ofNat (bt s j)]⟩:BA).data.size:=rfl;have k:wrS [] (ds++[(bt s j,j)]) wg=a:=by
  rw[QQ,h];have hm:bt s j∈[]++ds.map Prod.fst↔0<=plc sb (bt s j):=by rw[kA,d];simp
  by_cases a:0<=plc sb (bt s j)
  .rw[i_ (hm.2 a),i_ a]
  .rw[n_ (λx=>a (hm.1 x)),n_ a]
 refine⟨sb++⟨#[UInt8.ofNat (bt s j)]⟩,more,rfl,M_,.inl ⟨ds++[(bt s j,j)],j',by rw[k];exact M,by rw[e,bf_];rfl,?_,hn,?_⟩⟩
 .rw[ag_,au_,av_];rcases hm with⟨_,_,rfl⟩|⟨_,_,rfl⟩<;>omega
 .rw[g,gF,i_ f];rcases hm with⟨rfl,b,rfl⟩|⟨rfl,b,rfl⟩
  .rw[i_ b,i_ rfl]
  .rw[n_ b,n_ D_]
def cweR1_{p:Prop}(h:p:=by
 (first|(have:=cc1;have hr:=zy (show xY s i=.error (j+2) by rw[hres,n_ h41]))|(have hr:=zy (show xY s i=.ok ((ds,some (cc,j+1)),j+3) by rw[hres,i_ h41,hcc.o])));clear hres;by_cases hq:0<=plc sb cc
 ·(first|(have:=cc1)|(have hwE:=zy (show wrS [] ds wg=wrE ds (some (cc,j+1)) wg by unfold wrE;simp only;rw[i_ (hmem.o.1 hq)])));go_wp2_with (first
   |(go_at_call 35;apply(zC M.o.R hc.o).mono;rintro e w2 ⟨rfl,hw2⟩;have M2:=M.o.si hw2;have c12:=M2.R.here.c1;have f12:=M2.R.here.th 1;have c22:=M2.R.here.c2;replace M2:=zy M2)
   |(go_at_call 95;apply(jw (M2.o.inc hjs).R).mono;rintro e w3 ⟨rfl,hS,st3⟩;rw[i_ hsm,hcc.o];rw[i_ hsm]at hS;have M3:=(M2.o.inc hjs).call hS st3;have k2:=M3.b3.cell 2;have k3:=M3.b3.cell 3;have m3:=M3.b3.th 3;simp only[zA,aa_,ab_]at k2 k3;replace M3:=zy M3)
   |(go_at_call 98;apply(jK sb cc _ M_).mono;rintro e w' ⟨rfl,hw'⟩;rw[hw'];have M4:SM w X br bz B s _ _ _ mx ts us zs tv u (zA sb (plc sb cc)) _:=M3.o.put 3 (Z_ (plc sb cc));have c24:=M4.R.here.c2;replace M4:=zy M4)
   |(go_at_call 36;apply(yL 41 M4.o.R rfl D_).mono;rintro e w9 ⟨rfl,hE,st9⟩;(first|(have:=cc1;rw[n_ h41]at hE)|(rw[i_ h41]at hE));have M9:=M4.o.call hE st9;obtain⟨t0,t1,t2,t3,t4⟩:=M9.b3.f5;obtain⟨r0,r1,r2,r3,r4⟩:=M9.b2.f5;obtain⟨g0,g1,g2,g3,g4⟩:=M9.b2.t5;simp only[zA,zS,aa_,ab_]at t0 t1 t2 t3 t4 r0 r1 r2 r3 r4;replace M9:=zy M9))
  refine zU results63 M9.o.b2 (λW5 hF _=>?_);rw[Q_.o];(first|(have:=cc1;exact vM M9.o hF y5_)|(exact vM M9.o hF yy_))
 ·(first|(have:=cc1)|(have hwE:=zy (show zF ((j+1:Nat):Int) (wrS [] ds wg)=wrE ds (some (cc,j+1)) wg by unfold wrE;simp only;rw[n_ (λx=>hq (hmem.o.2 x))])));go_wp2_with (first
   |(go_at_call 35;apply(zC M.o.R hc.o).mono;rintro e w2 ⟨rfl,hw2⟩;have M2:=M.o.si hw2;have c12:=M2.R.here.c1;have f12:=M2.R.here.th 1;have c22:=M2.R.here.c2;replace M2:=zy M2)
   |(go_at_call 95;apply(jw (M2.o.inc hjs).R).mono;rintro e w3 ⟨rfl,hS,st3⟩;rw[i_ hsm,hcc.o];rw[i_ hsm]at hS;have M3:=(M2.o.inc hjs).call hS st3;have k2:=M3.b3.cell 2;have k3:=M3.b3.cell 3;have m3:=M3.b3.th 3;simp only[zA,aa_,ab_]at k2 k3;replace M3:=zy M3)
   |(go_at_call 98;apply(jK sb cc _ M_).mono;rintro e w' ⟨rfl,hw'⟩;rw[hw'];have M4:SM w X br bz B s _ _ _ mx ts us zs tv u (zA sb (plc sb cc)) _:=M3.o.put 3 (Z_ (plc sb cc));have c24:=M4.R.here.c2;replace M4:=zy M4)
   |(go_at_call 21;apply(qa M4.o.R).mono;rintro e w5 ⟨rfl,hW,st5⟩;have M5:=M4.o.call hW st5;have c25:=M5.R.here.c2;replace M5:=zy M5)
   |(go_at_call 36;apply(yL 41 M5.o.R rfl D_).mono;rintro e w9 ⟨rfl,hE,st9⟩;(first|(have:=cc1;rw[n_ h41]at hE)|(rw[i_ h41]at hE));have M9:=M5.o.call hE st9;obtain⟨t0,t1,t2,t3,t4⟩:=M9.b3.f5;obtain⟨r0,r1,r2,r3,r4⟩:=M9.b2.f5;obtain⟨g0,g1,g2,g3,g4⟩:=M9.b2.t5;simp only[zA,zS,aa_,ab_]at t0 t1 t2 t3 t4 r0 r1 r2 r3 r4;replace M9:=zy M9))
  refine zU results63 M9.o.b2 (λW5 hF _=>?_);rw[Q_.o];(first|(have:=cc1;exact vM M9.o hF y5_)|(exact vM M9.o hF yy_))):p:=h
def cweR2_{p:Prop}(h:p:=by
 (first|(have:=cc1;have hr:=zy (show xY s i=.error j by rw[hres,n_ h41]))|(have hr:=zy (show xY s i=.ok ((ds,none),j+1) by rw[hres,i_ h41])));clear hres;go_wp2_with (first
  |(go_at_call 35;apply(zC M.o.R hc.o).mono;rintro e w2 ⟨rfl,hw2⟩;have M2:=M.o.si hw2;have c12:=M2.R.here.c1;have f12:=M2.R.here.th 1;have c22:=M2.R.here.c2;replace M2:=zy M2)
  |(go_at_call 36;apply(yL 41 M2.o.R rfl D_).mono;rintro e w9 ⟨rfl,hE,st9⟩;(first|(have:=cc1;rw[n_ h41]at hE)|(rw[i_ h41]at hE));have M9:=M2.o.call hE st9;obtain⟨t0,t1,t2,t3,t4⟩:=M9.b3.f5;obtain⟨r0,r1,r2,r3,r4⟩:=M9.b2.f5;obtain⟨g0,g1,g2,g3,g4⟩:=M9.b2.t5;simp only[zA,zS,aa_,ab_]at t0 t1 t2 t3 t4 r0 r1 r2 r3 r4;replace M9:=zy M9))
 refine zU results63 M9.o.b2 (λW5 hF _=>?_);rw[Q_.o];(first|(have:=cc1;exact vM M9.o hF y5_)|(exact vM M9.o hF (by rw[hr.o];exact⟨rfl,rfl,hkb.o,rfl,rfl⟩)))):p:=h
def eR{w:Aw}{X:Az}{br bz B:Nat}{s:BA}{i:Nat}{wg mx:Int}{ts:Ap}{us:As}{zs:Ay}{tv u:Ax}(R:Rep w X br bz B s i false wg mx ts us zs tv u):Calls prog 63 #[P_ br] w (dj w X br bz B s i wg mx ts us zs tv u):=by
 have D:=R.sl;have K:=R.il;have t:=zy (WX R);obtain⟨K,Q_⟩:=y_ (dj w X br bz B s i wg mx ts us zs tv u);rw[<- Q_.o];go_in;go_wp2_with (go_at_call 36;apply(yL 40 t.o.R rfl D_).mono;rintro e w1 ⟨rfl,hE,F⟩);have start:GW (xY s i) w X br bz B s (i+1) wg mx ts us zs tv u (s.size+3) (.bool true) w1:=by
  refine⟨⟨#[]⟩,true,rfl,D_,?_⟩;rw[aG];by_cases A:bt s i=40
  .rw[i_ A]at hE⊢;exact .inl ⟨[],i+1,t.o.call hE F,rfl,by simp,M_,rfl⟩
  .rw[n_ A]at hE⊢;exact .inr ⟨i,_,t.o.call hE F,rfl⟩
 replace start:=zy start;go_loopg [4] (s.size+3) (λm t W=>GW (xY s i) w X br bz B s (i+1) wg mx ts us zs tv u m t W);case atStart=>exact start
 case round=>
  obtain⟨sb,more,rfl,t,t|H⟩:=hrel
  .obtain⟨ds,j,M,hkb,C,hm,hres⟩:=t;have t:=M.R.il;have c2:=M.R.here.c2;have c1:=M.R.here.c1;have G:=M.R.here.th 1;have q:=M.b3.cell 2;have E:∀x,(wr.alloc x).cell? ⟨w.heap.size+1,2,none⟩=some (.string sb):=λx=>M.b3.ce 2 x;simp only[zA,aa_,ab_]at q;replace M:=zy M;replace hkb:=zy hkb;cases more with
   |true=>
    rw[i_ rfl]at hres;cases hsm:zl (bt s j) with
    |false=>
     have hr:=zy (show xY s i=.error j by rw[hres,gF,n_ yw_]);go_wp2_with (go_at_call 95;apply(jw M.o.R).mono;rintro e w3 ⟨rfl,hS,st3⟩;rw[n_ yw_];rw[n_ yw_]at hS;have M3:=M.o.call hS st3;have z:=M3.R.here.c2;obtain⟨t0,t1,t2,t3,t4⟩:=M3.b3.f5;obtain⟨r0,r1,r2,r3,r4⟩:=M3.b2.f5;obtain⟨g0,g1,g2,g3,g4⟩:=M3.b2.t5;simp only[zA,zS,aa_,ab_]at t0 t1 t2 t3 t4 r0 r1 r2 r3 r4;replace M3:=zy M3);refine zU results63 M3.o.b2 (λW5 hF _=>?_);rw[Q_.o];exact vM M3 hF y5_
    |true=>
     replace hres:=zy hres;have hjs:j<s.size:=zp (xX hsm);obtain⟨c,hc⟩:=x_ (bt s j);have t:=λ(W:World) (g:Nat) (c:Int) (h:W.heap.size=g)=>rQ W g c h;go_upto_if 34 with(first
      |(go_at_call 95;apply(jw M.o.R).mono;rintro e w3 ⟨rfl,hS,st3⟩;rw[i_ hsm,hc];rw[i_ hsm]at hS;have M3:=M.o.call hS st3;have z:=M3.R.here.c2;have t:=M3.b3.cell 2;simp only[zA,aa_,ab_]at t;replace M3:=zy M3)
      |(go_at_call 96;apply(fp sb c _ M_).mono;rintro e w' ⟨rfl,rfl⟩))
     go_cut [] (λW=>∃r,SM w X br bz B s (j+1) false r mx ts us zs tv u (zA sb (-1)) W/\r=if 0<=plc sb (bt s j) then zF j (wrS [] ds wg) else wrS [] ds wg);case first=>
      by_cases hq:0<=plc sb c
      .go_wp2_with (go_at_call 21;apply(qa M3.o.R).mono;rintro e w5 ⟨rfl,hW,st5⟩);go_meet;case rel=>exact⟨_,M3.o.call hW st5,by rw[hc,i_ hq]⟩
      .have a:decide (0<=plc sb c)=false:=decide_eq_false hq;go_wp2;go_meet;case rel=>exact⟨_,M3,by rw[hc,n_ M_]⟩
     case rest=>
      obtain⟨r,M5,p⟩:=hcut;have q:=M5.b3.cell 2;have E:∀x,(wc.alloc x).cell? ⟨w.heap.size+1,2,none⟩=some (.string sb):=λx=>M5.b3.ce 2 x;have t:∀x,(wc.alloc x).frozen? ⟨w.heap.size+1,2,none⟩=false:=λx=>(M5.b3.alloc x).th 2;simp only[zA,aa_,ab_]at q;have d:=zy ((M5.alloc (.cells #[U_ c] 5)).put 2 (.string (sb++(⟨#[UInt8.ofNat c]⟩:BA))):SM w X br bz B s (j+1) false r mx ts us zs tv u (zA (sb++⟨#[UInt8.ofNat c]⟩) (-1)) ((wc.alloc (.cells #[U_ c] 5)).setCell ⟨w.heap.size+1,2,none⟩ (.string (sb++⟨#[UInt8.ofNat c]⟩))));replace p:=zy p;obtain⟨y,b⟩:=x_ (bt s (j+1));replace b:=zy b;replace hc:=zy hc;replace hsm:=zy hsm;by_cases f:y=44
      .have l:=zy (b.o.trans f);have I:j+1<s.size:=zp (by rw[l.o];decide);subst f;go_wp2_with (go_at_call 35;apply(zC d.o.R b).mono;rintro e J ⟨rfl,v⟩;have a:=d.o.si v;have q:=a.R.here.c1;have q:=a.R.here.th 1;replace a:=zy a);go_roundg (s.size+2-(j+2));case measure=>omega
       case rel=>exact XA _ (j+2) true hres D C hkb hsm p (by rw[hc.o];exact a.o.inc I) l_ (.inl ⟨rfl,l,rfl⟩)
      .have q:((y:Int)==44)=false:=x1_
       have l:=zy (show bt s (j+1)≠44 by rw[b.o];exact f);go_wp2_with (go_at_call 35;apply(zC d.o.R b).mono;rintro e J ⟨rfl,v⟩;have a:=zy (d.o.si v));go_roundg (s.size+2-(j+1));case measure=>omega
       case rel=>exact XA _ (j+1) false hres D C hkb hsm p (by rw[hc.o];exact a) l_ (.inr ⟨rfl,l,rfl⟩)
   |false=>
    rw[n_ D_]at hres;obtain⟨c0,hc⟩:=x_ (bt s j);replace hc:=zy hc;by_cases a:c0=33
    .have b:bt s j=33:=hc.o.trans a;subst a;have hjs:j<s.size:=zp M_;rw[oU,i_ b]at hres;cases hsm:zl (bt s (j+1)) with
     |false=>
      have hr:=zy (show xY s i=.error (j+1) by rw[hres,n_ yw_]);go_wp2_with (first
       |(go_at_call 35;apply(zC M.o.R hc).mono;rintro e w2 ⟨rfl,hw2⟩;have M2:=M.o.si hw2;have c12:=M2.R.here.c1;have f12:=M2.R.here.th 1;have c22:=M2.R.here.c2;replace M2:=zy M2)
       |(go_at_call 95;apply(jw (M2.o.inc hjs).R).mono;rintro e w3 ⟨rfl,hS,st3⟩;rw[n_ yw_];rw[n_ yw_]at hS;have M3:=(M2.o.inc hjs).call hS st3;have k2:=M3.b3.cell 2;have k3:=M3.b3.cell 3;have m3:=M3.b3.th 3;simp only[zA,aa_,ab_]at k2 k3;replace M3:=zy M3)
       |(go_at_call 98;apply(jK sb 0 _ M_).mono;rintro e w' ⟨rfl,hw'⟩;rw[hw'];have M4:SM w X br bz B s _ _ _ mx ts us zs tv u (zA sb (plc sb 0)) _:=M3.o.put 3 (Z_ (plc sb 0));have c24:=M4.R.here.c2;obtain⟨t0,t1,t2,t3,t4⟩:=M4.b3.f5;obtain⟨r0,r1,r2,r3,r4⟩:=M4.b2.f5;obtain⟨g0,g1,g2,g3,g4⟩:=M4.b2.t5;simp only[zA,zS,aa_,ab_]at t0 t1 t2 t3 t4 r0 r1 r2 r3 r4;replace M4:=zy M4))
      refine zU results63 M4.o.b2 (λW5 hF _=>?_);rw[Q_.o];exact vM M4 hF y5_
     |true=>
      rw[i_ hsm]at hres;obtain⟨cc,hcc⟩:=x_ (bt s (j+1));replace hcc:=zy hcc;have hmem:=zy (show 0<=plc sb cc↔cc∈ds.map Prod.fst by rw[kA,hkb.o]);by_cases h41:bt s (j+2)=41
      .exact cweR1_
      .have cc1:=Nat;exact cweR1_
    .have b:((c0:Int)==33)=false:=x1_
     rw[oU,n_ (by rw[hc.o];exact a)]at hres;by_cases h41:bt s j=41
     .exact cweR2_
     .have cc1:=Nat;exact cweR2_
  .obtain⟨k,a,M,hres⟩:=H;have c2:=M.R.here.c2;replace hres:=zy hres;replace M:=zy M;cases more;all_goals
    go_wp2_with (go_at_call 35;apply(ac M.o.R).mono;rintro e w3 ⟨rfl,a⟩;have M3:=M.o.si a;have z:=M3.R.here.c2;obtain⟨t0,t1,t2,t3,t4⟩:=M3.b3.f5;obtain⟨r0,r1,r2,r3,r4⟩:=M3.b2.f5;obtain⟨g0,g1,g2,g3,g4⟩:=M3.b2.t5;simp only[zA,zS,aa_,ab_]at t0 t1 t2 t3 t4 r0 r1 r2 r3 r4;replace M3:=zy M3);refine zU results63 M3.o.b2 (λW5 hF _=>?_);rw[Q_.o];exact vM M3 hF (by rw[hres.o];exact⟨rfl,rfl⟩)
def PB.wr:PB->Int->Int
 | .recd ds,m=>wrF [] ds m
 | .enum l o,m=>wrE l o m
 | .bytes _,m=>m
def PB.mx:PB->Int->Int
 | .recd ds,m=>kW ds m
 | .enum _ _,m=>m
 | .bytes _,m=>m
def PB.ts(b:Nat):PB->List TR
 | .recd ds=>zN b (ds.map PF.ty)
 | .enum _ _=>[]
 | .bytes _=>[]
def PB.us:PB->List (Nat×Nat)
 | .recd ds=>zX (ds.map PF.ty)
 | .enum _ _=>[]
 | .bytes _=>[]
def pg(so:Int)(fv:Ax)(sb:BA)(o n:Int):List Value:=[.int .u8 so,fv,.string sb,Z_ o,Z_ n]
def sg(s:BA)(b:Nat)(pb:PB)(so:Int)(cnt:Nat)(xs:Ay)(sb:BA)(o n:Int):Prop:=
 match pb with
 | .recd ds=>so=114/\cnt=ds.length/\xs=yC s b ds/\o = -1/\n=0
 | .enum l unk=>so=101/\cnt=0/\sb.data.toList.map UInt8.toNat=l.map Prod.fst/\o=(match unk with|none=>-1|some (c,_)=>plc sb c)/\n=0
 | .bytes k=>so=102/\cnt=0/\o = -1/\n=(k:Int)
def gL(w:Aw)(X:Az)(br bz B:Nat)(s:BA)(i:Nat)(wr mx:Int)(ts:Ap)(us:As)(zs:Ay)(tv u:Ax)(e:Ak)(w':Aw):Prop:=
 ∃so fv sb o n cnt xs tv' u',e=.returned (.agg (pg so fv sb o n).toArray)/\zT w w' br bz tv u tv' u'/\w'.ownsRow B 110 10 fv cnt xs/\(∀g,fv.ownBlock=some g->w.heap.size<=g/\tv'.ownBlock≠some g/\u'.ownBlock≠some g)/\
 match yG s i with
 | .ok (pb,j)=>sg s ts.length pb so cnt xs sb o n/\Rep w' (λg=>X g\/fv.ownBlock=some g) br bz B s j false (pb.wr wr) (pb.mx mx) (ts++pb.ts ts.length) (us++pb.us) zs tv' u'
 | .error k=>∃wr' mx' ts' us',Rep w' (λg=>X g\/fv.ownBlock=some g) br bz B s k true wr' mx' ts' us' zs tv' u'
def tU{s:BA}{i:Nat}(h:bt s i=114):yG s i=match yf s (i+1) with | .error k=>.error k | .ok (ds,j)=>.ok (.recd ds,j):=by
 unfold yG;rw[i_ h];rfl
def lG{s:BA}{i:Nat}(h:bt s i=101):yG s i=match xY s (i+1) with | .error k=>.error k | .ok ((l,o),j)=>.ok (.enum l o,j):=by
 unfold yG;rw[n_ M_,i_ h];rfl
def wO{s:BA}{i:Nat}(h:bt s i=102):yG s i=if 48<=bt s (i+1)/\bt s (i+1)<=57 then .ok (.bytes (bt s (i+1)-48),i+2) else .error (i+1):=by
 unfold yG;rw[n_ M_,n_ M_,i_ h]
def tM{s:BA}{i:Nat}(h1:bt s i≠114)(a:bt s i≠101)(b:bt s i≠102):yG s i=.error i:=by
 unfold yG;rw[n_ h1,n_ a,n_ b]
section
variable {w W W':Aw} {X:Az} {br bz B:Nat} {s:BA} {i:Nat} {wr mx:Int} {ts:Ap} {us:As} {zs:Ay} {tv u:Ax}
def pj(R:Rep w X br bz B s i false wr mx ts us zs tv u){j:Nat}{bad:Aq}(c:Rep W (λg=>X g\/g=w.heap.size) br bz B s j bad wr mx ts us zs tv u)(st:zT w W br bz tv u tv u)(a:Fr W W' (λg=>g=w.heap.size))(h:(bad=true/\yG s i=.error j)\/(∃k,bad=false/\yG s i=.ok (.bytes k,j)/\so=102/\o = -1/\n=(k:Int))):gL w X br bz B s i wr mx ts us zs tv u (.returned (.agg (pg so (L_) sb o n).toArray)) W':=by
 have _:=R.il;have b:=(c.o (a.mono (λ_ _ e=>.inr e))).fe (Y:=λg=>X g\/(Value.slice none 0 0).ownBlock=some g) (λg hg=>by
  rcases hg with e|e
  .exact .inl (.inl e)
  .simp[Value.ownBlock]at e)
 refine⟨so,_,sb,o,n,0,[],tv,u,rfl,st.o a (λg hg=>M_),World.ownsRow_nil _ _ _ _,λg hg=>by simp[Value.ownBlock]at hg,?_⟩;rcases h with⟨rfl,h⟩|⟨k,rfl,h,rfl,rfl,rfl⟩
 .rw[h];exact⟨_,_,_,_,b⟩
 .rw[h];refine⟨⟨rfl,rfl,rfl,rfl⟩,?_⟩;simpa[PB.wr,PB.mx,PB.ts,PB.us] using b
def WW{w1:Aw}{fv tv' u':Ax}(r:w.heap.size<w1.heap.size)(l:bt s i=114)(p:zT w w1 br bz tv u tv u)(st:zT w1 W br bz tv u tv' u')(own:W.ownsRow B 110 10 fv cnt xs)(av:∀g,fv.ownBlock=some g->w1.heap.size<=g/\tv'.ownBlock≠some g/\u'.ownBlock≠some g)(h:Fr W W' (λg=>g=w.heap.size))(hm:match yf s (i+1) with
  | .ok (ds,j)=>cnt=ds.length/\xs=yC s ts.length ds/\Rep W (λg=>(X g\/g=w.heap.size)\/fv.ownBlock=some g) br bz B s j false (wrF [] ds wr) (kW ds mx) (ts++zN ts.length (ds.map PF.ty)) (us++zX (ds.map PF.ty)) zs tv' u'
  | .error k=>∃f b c d,Rep W (λg=>(X g\/g=w.heap.size)\/fv.ownBlock=some g) br bz B s k true f b c d zs tv' u'):gL w X br bz B s i wr mx ts us zs tv u (.returned (.agg (pg 114 fv ⟨#[]⟩ (-1) 0).toArray)) W':=by
 refine⟨114,fv,_,-1,0,cnt,xs,tv',u',rfl,(p.trans st).o h (λg hg=>M_),zj own h (λg hg e=>o1_ ((av g hg).1)),λg hg=>⟨o1_ ((av g hg).1),(av g hg).2⟩,?_⟩;rw[tU l];have hX:∀{j:Nat} {bad:Bool} {f b:Int} {c:List TR} {d:List (Nat×Nat)},Rep W (λg=>(X g\/g=w.heap.size)\/fv.ownBlock=some g) br bz B s j bad f b c d zs tv' u'->Rep W' (λg=>X g\/fv.ownBlock=some g) br bz B s j bad f b c d zs tv' u':=λa=>
  (a.o (h.mono (λ_ _ e=>.inl (.inr e)))).fe (λg hg=>by
   rcases hg with e|e
   .exact .inl (.inl (.inl e))
   .exact .inl (.inr e))
 cases hp:yf s (i+1) with
 |error k=>
  rw[hp]at hm;obtain⟨_,_,_,_,a⟩:=hm;exact⟨_,_,_,_,hX a⟩
 |ok q=>
  obtain⟨ds,j⟩:=q;rw[hp]at hm;obtain⟨h1,m,a⟩:=hm;exact⟨⟨rfl,h1,m,rfl,rfl⟩,hX a⟩
def JD{w1:Aw}(h:bt s i=101)(p:zT w w1 br bz tv u tv u)(st:zT w1 W br bz tv u tv u)(f:Fr W W' (λg=>g=w.heap.size))(hm:match xY s (i+1) with
  | .ok ((l,d),j)=>sb.data.toList.map UInt8.toNat=l.map Prod.fst/\o=(match d with|none=>-1|some (c,_)=>plc sb c)/\Rep W (λg=>X g\/g=w.heap.size) br bz B s j false (wrE l d wr) mx ts us zs tv u
  | .error k=>∃b,Rep W (λg=>X g\/g=w.heap.size) br bz B s k true b mx ts us zs tv u):gL w X br bz B s i wr mx ts us zs tv u (.returned (.agg (pg 101 (L_) sb o 0).toArray)) W':=by
 refine⟨101,_,sb,o,0,0,[],tv,u,rfl,(p.trans st).o f (λg hg=>M_),World.ownsRow_nil _ _ _ _,λg hg=>by simp[Value.ownBlock]at hg,?_⟩;rw[lG h];have hX:∀{j:Nat} {bad:Bool} {b:Int},Rep W (λg=>X g\/g=w.heap.size) br bz B s j bad b mx ts us zs tv u->Rep W' (λg=>X g\/(Value.slice none 0 0).ownBlock=some g) br bz B s j bad b mx ts us zs tv u:=λa=>
  (a.o (f.mono (λ_ _ e=>.inr e))).fe (λg hg=>by
   rcases hg with e|e
   .exact .inl (.inl e)
   .simp[Value.ownBlock]at e)
 cases hp:xY s (i+1) with
 |error k=>
  rw[hp]at hm;obtain⟨_,a⟩:=hm;exact⟨_,_,_,_,hX a⟩
 |ok q=>
  obtain⟨⟨l,d⟩,j⟩:=q;rw[hp]at hm;obtain⟨h1,m,a⟩:=hm;refine⟨⟨rfl,rfl,h1,m,rfl⟩,?_⟩;simpa[PB.wr,PB.mx,PB.ts,PB.us] using hX a
end
def cwrX1_{p:Prop}(h:p:=by
 (first|(have:=cc1;have n9:(decide ((48:Int)<=(d:Int))&&decide ((d:Int)<=57))=false:=x1_)|(have n9:(decide ((48:Int)<=(d:Int))&&decide ((d:Int)<=57))=true:=x1_))
 (first|(have:=cc1;have hr:=zy (show yG s i=.error (i+1) by rw[wO hb.o,hd.o,n_ hdig]))|(obtain⟨i1,hi1⟩:=e_ (i+1);(have his1:i1<s.size:=by rw[hi1];exact zp (by rw[hd.o];omega));replace hi1:=zy hi1;have hr:=zy (show yG s i=.ok (.bytes (d-48),i+2) by rw[wO hb.o,hd.o,i_ hdig]);have hdd:H_ ((d:Int)-48=((d-48:Nat):Int)):=by show(d:Int)-48=((d-48:Nat):Int);omega))
 go_in;go_wp2_with (first
  |(go_at_call 35;apply(zC R1.o hc.o).mono;rintro e w2 ⟨rfl,hw2⟩;have R2:=R1.o.si hw2;have S2:=zy ((st1.o.si hw2));have B2:=zy (Blk.si b1.o hw2);have c1:=R2.here.c1;have f1:=R2.here.th 1;replace R2:=zy R2)
  |(go_at_call 35;apply(zC (R2.o.inc his).1 hd.o).mono;rintro e w4 ⟨rfl,hw4⟩;have R4:=(R2.o.inc his).1.si hw4;(first|(have:=cc1)|(rw[<- hi1.o]at R4));have S4:=(S2.o.trans (R2.o.inc his).2).si hw4;have B4:=Blk.si ((R2.o.inc his).2.fr.bl B2.o (R2.o.offS (.inr rfl))) hw4;have c14:=R4.here.c1;have f14:=R4.here.th 1;have f24:=R4.here.th 2;have c24:=R4.here.c2;(first|(have:=cc1;have B5:=R4.sp.2.fr.bl B4 (R4.offS (.inr rfl)))|(have B5:=(R4.inc his1).2.fr.bl B4 (R4.offS (.inr rfl))));obtain⟨r0,r1,r2,r3,r4⟩:=B5.f5;obtain⟨g0,g1,g2,g3,g4⟩:=B5.t5;simp only[zS,aa_,ab_]at r0 r1 r2 r3 r4;replace B5:=zy B5;replace R4:=zy R4;replace S4:=zy S4)
  |(go_at_call 34;apply(xf _ _ _ _).mono;rintro e w' ⟨rfl,hw'⟩;rw[hw',n9]))
 refine zU results37 B5.o (λW5 hF _=>?_);rw[Q_.o];(first|(have:=cc1;exact pj R R4.o.sp.1 (S4.o.trans R4.o.sp.2) hF (.inl ⟨rfl,hr.o⟩))|(exact pj R (R4.o.inc his1).1 (S4.o.trans (R4.o.inc his1).2) hF (.inr ⟨d-48,rfl,by rw[hi1.o];exact hr.o,rfl,rfl,hdd.o⟩)))):p:=h
def cwrX2_{p:Prop}(h:p:=by
 (first|(have:=cc1;have hb:=zy (hc.o.trans h101))|(have hb:=zy (hc.o.trans h114)));have his:i<s.size:=zp zj_;(first|(have:=cc1;subst h101)|(subst h114));go_in;go_wp2_with (first
  |(go_at_call 35;apply(zC R1.o hc.o).mono;rintro e w2 ⟨rfl,hw2⟩;have R2:=R1.o.si hw2;have S2:=zy ((st1.o.si hw2));have B2:=zy (Blk.si b1.o hw2);have c1:=R2.here.c1;have f1:=R2.here.th 1;have f2:=R2.here.th 2;have c2:=R2.here.c2;skip;replace R2:=zy R2)
  |((first|go_at_call 62|go_at_call 63);(first|(have:=cc1;apply(eR (R2.o.inc his).1).mono)|(apply(Za (R2.o.inc his).1).mono));(first|(have:=cc1;rintro e w3 ⟨sb,o,rfl,st3,hm3⟩)|(rintro e w3 ⟨fv,cnt,xs,tv',u',rfl,st3,own3,av3,hm3⟩));(first|(have:=cc1;simp only[zA])|(simp only[jJ]));have B3:=st3.fr.bl ((R2.o.inc his).2.fr.bl B2.o (R2.o.offS (.inr rfl))) ((R2.o.inc his).1.offS (.inr rfl));obtain⟨r0,r1,r2,r3,r4⟩:=B3.f5;obtain⟨g0,g1,g2,g3,g4⟩:=B3.t5;simp only[zS,aa_,ab_]at r0 r1 r2 r3 r4;(first|(have:=cc1)|(obtain⟨sa,sn,sc,rfl⟩:=yE own3));replace B3:=zy B3;replace st3:=zy st3;(first|(have:=cc1)|(replace own3:=zy own3;replace av3:=zy av3));replace hm3:=zy hm3))
 refine zU results37 B3.o (λW5 hF _=>?_);rw[Q_.o];(first|(have:=cc1;exact JD hb.o (S2.o.trans (R2.o.inc his).2) st3.o hF hm3.o)|(exact WW (by have:=Blk.lt B2.o;simp[World.setCell];omega) hb.o (S2.o.trans (R2.o.inc his).2) st3.o own3.o av3.o hF hm3.o))):p:=h
def rX{w:Aw}{X:Az}{br bz B:Nat}{s:BA}{i:Nat}{wg mx:Int}{ts:Ap}{us:As}{zs:Ay}{tv u:Ax}(R:Rep w X br bz B s i false wg mx ts us zs tv u):Calls prog 37 #[P_ br] w (gL w X br bz B s i wg mx ts us zs tv u):=by
 have b:=R.sl;have b:=R.il;have R1:Rep (w.alloc (.cells zS.toArray 62)) (λg=>X g\/g=w.heap.size) br bz B s i false wg mx ts us zs tv u:=(R.o ((A_ w X).alloc (.cells zS.toArray 62))).fe (λg hg=>by
  rcases hg with e|e
  .exact .inl e
  .exact .inr x1_)
 have st1:=zy (⟨(A_ w _).alloc _,.inl rfl,.inl rfl⟩:zT w (w.alloc (.cells zS.toArray 62)) br bz tv u tv u);have b1:=zy (B_ w zS.toArray 62);replace R1:=zy R1;obtain⟨c,hc⟩:=x_ (bt s i);replace hc:=zy hc;obtain⟨b,Q_⟩:=y_ (gL w X br bz B s i wg mx ts us zs tv u);rw[<- Q_.o];by_cases h114:c=114
 .exact cwrX2_
 .by_cases h101:c=101
  .have cc1:=Nat;exact cwrX2_
  .by_cases a:c=102
   .have hb:=zy (hc.o.trans a);have his:i<s.size:=zp zj_;subst a;obtain⟨d,hd⟩:=x_ (bt s (i+1));replace hd:=zy hd;by_cases hdig:48<=d/\d<=57
    .exact cwrX1_
    .have cc1:=Nat;exact cwrX1_
   .have hr:=zy (tM (by rw[hc.o];exact h114) (by rw[hc.o];exact h101) (by rw[hc.o];exact a));have a:((c:Int) != 114)=true:=x1_
    have a:((c:Int) != 101)=true:=x1_
    have n3:((c:Int) != 102)=true:=x1_
    go_in;go_wp2_with (go_at_call 35;apply(zC R1 hc).mono;rintro e w2 ⟨rfl,hw2⟩;have R2:=R1.o.si hw2;have S2:=(st1.o.si hw2);have B2:=Blk.si b1 hw2;have c1:=R2.here.c1;have f1:=R2.here.th 1;have f2:=R2.here.th 2;have c2:=R2.here.c2;have B3:=R2.sp.2.fr.bl B2 (R2.offS (.inr rfl));obtain⟨r0,r1,r2,r3,r4⟩:=B3.f5;obtain⟨g0,g1,g2,g3,g4⟩:=B3.t5;simp only[zS,aa_,ab_]at r0 r1 r2 r3 r4;replace B3:=zy B3;replace R2:=zy R2;replace S2:=zy S2;replace B2:=zy B2);refine zU results37 B3.o (λW5 hF _=>?_);rw[Q_.o];exact pj R R2.o.sp.1 (S2.o.trans R2.o.sp.2) hF (.inl ⟨rfl,hr⟩)
def qy(seen:Ao):List PD->Int->Int
 | [],m=>m
 |d::r,m=>qy (seen++[d.letter]) r (if d.letter∈seen then zF d.place (d.body.wr m) else d.body.wr m)
def qp(ds:Ar)(m:Int):Int:=ds.foldl (λm d=>d.body.mx m) m
def xI(b:Nat):List PD->List TR
 | []=>[]
 |d::r=>d.body.ts b++xI (b+(d.body.ts b).length) r
def jm:List PD->List (Nat×Nat)
 | []=>[]
 |d::r=>d.body.us++jm r
def nT(a:Ao)(ds:Ar)(d:PD)(m:Int):qy a (ds++[d]) m=if d.letter∈a++ds.map PD.letter then zF d.place (d.body.wr (qy a ds m)) else d.body.wr (qy a ds m):=by
 induction ds generalizing a m with
 |nil=>simp[qy]
 |cons x r ih=>rw[bk_,qy,qy,ih,bx_];rfl
def nA(ds:Ar)(d:PD)(m:Int):qp (ds++[d]) m=d.body.mx (qp ds m):=by simp[qp]
def nI(b:Nat)(ds:Ar)(d:PD):xI b (ds++[d])=xI b ds++d.body.ts (b+(xI b ds).length):=by
 induction ds generalizing b with
 |nil=>simp[xI]
 |cons x r ih=>simp only[bk_,xI,ih,bx_,ag_,bd_]
def nN(ds:Ar)(d:PD):jm (ds++[d])=jm ds++d.body.us:=by
 induction ds with
 |nil=>simp[jm]
 |cons x r ih=>simp[jm,ih]
def vh(b c:Nat):List PD->Option (PB×Nat)
 | []=>none
 |d::r=>if d.letter=c then some (d.body,b) else vh (b+(d.body.ts b).length) c r
def uH(b c:Nat)(ds:Ar)(d:PD):vh b c (ds++[d])=match vh b c ds with|some x=>some x|none=>if d.letter=c then some (d.body,b+(xI b ds).length) else none:=by
 induction ds generalizing b with
 |nil=>simp[vh,xI]
 |cons x r ih=>
  simp only[bk_,vh];by_cases h:x.letter=c
  .rw[i_ h,i_ h]
  .rw[n_ h,n_ h,ih];simp only[xI,ag_,bd_]
def uR(b c:Nat)(ds:Ar):vh b c ds=none↔c∉ds.map PD.letter:=by
 induction ds generalizing b with
 |nil=>simp[vh]
 |cons x r ih=>
  simp only[vh];by_cases h:x.letter=c
  .rw[i_ h];simp[h]
  .rw[n_ h,ih];simp[Ne.symm h]
def xC(W:Aw)(X:Az)(B:Nat)(s:BA)(zs:Ay)(ds:Ar):Prop:=
 zs.length=31/\∀k,k<6->∃(so:Int) (fv:Value) (sb:BA) (o n:Int) (cnt:Nat) (xs:List Value),(∀p,p<5->zs[5*k+p]?=(pg so fv sb o n)[p]?)/\W.ownsRow B 110 10 fv cnt xs/\(∀g,fv.ownBlock=some g->X g)/\
  match vh 0 (65+k) ds with
  |none=>so=0/\cnt=0
  |some (pb,b)=>sg s b pb so cnt xs sb o n
def sg.sort{s:BA}{b:Nat}{pb:PB}(h:sg s b pb so cnt xs sb o n):so≠0:=by
 cases pb with
 |recd ds=>have:=h.1;omega
 |enum l u=>have:=h.1;omega
 |bytes k=>have:=h.1;omega
def xC.step{W W':Aw}{X:Az}{br bz B:Nat}{s:BA}{zs:Ay}{j:Nat}{bad:Aq}{wr mx:Int}{ts:Ap}{us:As}{a:Ay}{tv u tv' u':Ax}(h:xC W X B s zs ds)(R:Rep W X br bz B s j bad wr mx ts us a tv u)(st:zT W W' br bz tv u tv' u'):xC W' X B s zs ds:=by
 refine⟨h.1,λk hk=>?_⟩;obtain⟨so,fv,sb,o,n,cnt,xs,h1,b,a,c⟩:=h.2 k hk;exact⟨so,fv,sb,o,n,cnt,xs,h1,zj b st.fr (λg hg=>R.offS (a g hg)),a,c⟩
def dX(zs:Ay)(o:Nat)(v0 v1 v2 v3 v4:Ax):List Value:=((((zs.set o v0).set (o+1) v1).set (o+2) v2).set (o+3) v3).set (o+4) v4
def Fy{zs:Ay}{o:Nat}(h:o+5<=zs.length)(a b c d e:Ax)(p:Nat)(hp:p<5):(dX zs o a b c d e)[o+p]?=[a,b,c,d,e][p]?:=by
 unfold dX
 match p,hp with
 | 0,_=>simp[b1_];omega
 | 1,_=>simp[b1_];omega
 | 2,_=>simp[b1_];omega
 | 3,_=>simp[b1_];omega
 | 4,_=>simp[b1_];omega
def Kk{zs:Ay}{o q:Nat}(a b c d e:Ax)(f:q<o\/o+5<=q):(dX zs o a b c d e)[q]?=zs[q]?:=by
 unfold dX;rw[bz_ M_,bz_ M_,bz_ M_,bz_ M_,bz_ M_]
def eE(zs:Ay)(o:Nat)(a b c d e:Ax):(dX zs o a b c d e).length=zs.length:=by simp[dX]
def xC.add{W:Aw}{X Y:Az}{B:Nat}{s:BA}{zs:Ay}{d:PD}{k:Nat}{fv:Ax}(h:xC W X B s zs ds)(hk:k<6)(hd:d.letter=65+k)(f:vh 0 (65+k) ds=none)(q:∀g,X g->Y g)(own:W.ownsRow B 110 10 fv cnt xs)(c:∀g,fv.ownBlock=some g->Y g)(a:sg s (xI 0 ds).length d.body so cnt xs sb o n):xC W Y B s (dX zs (5*k) (.int .u8 so) fv (.string sb) (Z_ o) (Z_ n)) (ds++[d]):=by
 refine⟨by rw[eE];exact h.1,λb r=>?_⟩;by_cases e:b=k
 .subst e;refine⟨so,fv,sb,o,n,cnt,xs,λp hp=>Fy (by rw[h.1];omega) _ _ _ _ _ p hp,own,c,?_⟩;rw[uH,f];simp only[hd,if_true,be_];exact a
 .obtain⟨z,f,y,v,t,c,xs',h1,l,m,a⟩:=h.2 b r;refine⟨z,f,y,v,t,c,xs',λp hp=>by rw[Kk _ _ _ _ _ M_];exact h1 p hp,l,λg hg=>q g (m g hg),?_⟩;rw[uH];cases hl:vh 0 (65+b) ds with
  |some x=>rw[hl]at a;exact a
  |none=>
   rw[hl]at a;rw[n_ M_];exact a
def xC.again{W:Aw}{X Y:Az}{B:Nat}{s:BA}{zs:Ay}{d:PD}{k:Nat}{x:PB×Nat}(h:xC W X B s zs ds)(hd:d.letter=65+k)(r:vh 0 (65+k) ds=some x)(p:∀g,X g->Y g):xC W Y B s zs (ds++[d]):=by
 refine⟨h.1,λb q=>?_⟩;obtain⟨z,f,y,v,t,c,xs',h1,l,m,a⟩:=h.2 b q;refine⟨z,f,y,v,t,c,xs',h1,l,λg hg=>p g (m g hg),?_⟩;rw[uH];cases hl:vh 0 (65+b) ds with
 |some x=>rw[hl]at a;exact a
 |none=>
  rw[hl]at a;have c:¬(d.letter=65+b):=λe=>by rw[hd]at e;obtain rfl:k=b:=M_;rw[r]at hl;cases hl
  rw[n_ c];exact a
def Rep.setZ{w:Aw}{X:Az}{br bz B:Nat}{s:BA}{i:Nat}{bad:Aq}{wr mx:Int}{ts:Ap}{us:As}{zs:Ay}{tv u:Ax}(R:Rep w X br bz B s i bad wr mx ts us zs tv u)(o:Nat)(v:Ax):Rep (w.setCell ⟨bz,o+1,none⟩ v) X br bz B s i bad wr mx ts us (zs.set o v) tv u/\zT w (w.setCell ⟨bz,o+1,none⟩ v) br bz tv u tv u:=by
 have hf:Fr w (w.setCell ⟨bz,o+1,none⟩ v) (λg=>g=bz):=(A_ w (λg=>g=bz)).setCell ⟨bz,o+1,none⟩ v (λ_=>rfl);have f:zT w (w.setCell ⟨bz,o+1,none⟩ v) br bz tv u tv u:=⟨hf.mono (λ_ _ e=>.inr (.inl e)),.inl rfl,.inl rfl⟩;have hz:Blk (w.setCell ⟨bz,o+1,none⟩ v) bz (tv::zs.set o v) 65:=G_ R.z (o+1) v;refine⟨⟨hf.bl R.here R.rz,hz,?_,zj R.uses hf (λg hg e=>qk R.uses R.zB (e▸hg)),R.apart,R.rB,R.zB,al_ R.hB hf.size,R.rz,R.il,R.sl,R.tl,R.ul,λg hg=>⟨bl_ (R.av g hg).1 hf.size,(R.av g hg).2⟩⟩,f⟩;obtain⟨xs,hx,hk⟩:=R.tys;refine⟨xs,zj hx hf (λg hg e=>qk hx R.zB (e▸hg)),λk t h=>?_⟩;obtain⟨sv,a,b,c,d⟩:=hk k t h;exact⟨sv,a,b,f.subs c R.rB R.zB,d⟩
def xC.root{W:Aw}{X:Az}{B:Nat}{s:BA}{zs:Ay}(h:xC W X B s zs ds)(v:Ax):xC W X B s (zs.set 30 v) ds:=by
 refine⟨by rw[br_];exact h.1,λk hk=>?_⟩;obtain⟨so,fv,sb,o,n,cnt,xs,h1,a,b,c⟩:=h.2 k hk;exact⟨so,fv,sb,o,n,cnt,xs,λp hp=>by rw[bz_ M_];exact h1 p hp,a,b,c⟩
def Rep.setDef{w:Aw}{X:Az}{br bz B:Nat}{s:BA}{i:Nat}{bad:Aq}{wr mx:Int}{ts:Ap}{us:As}{zs:Ay}{tv u:Ax}(R:Rep w X br bz B s i bad wr mx ts us zs tv u)(o:Nat)(a b c d e:Ax):Rep (((((w.setCell ⟨bz,o+1,none⟩ a).setCell ⟨bz,o+1+1,none⟩ b).setCell ⟨bz,o+2+1,none⟩ c).setCell ⟨bz,o+3+1,none⟩ d).setCell ⟨bz,o+4+1,none⟩ e) X br bz B s i bad wr mx ts us (dX zs o a b c d e) tv u/\
  zT w (((((w.setCell ⟨bz,o+1,none⟩ a).setCell ⟨bz,o+1+1,none⟩ b).setCell ⟨bz,o+2+1,none⟩ c).setCell ⟨bz,o+3+1,none⟩ d).setCell ⟨bz,o+4+1,none⟩ e) br bz tv u tv u:=by
 have h0:=R.setZ o a;have h1:=h0.1.setZ (o+1) b;have a:=h1.1.setZ (o+2) c;have b:=a.1.setZ (o+3) d;have c:=b.1.setZ (o+4) e;exact⟨c.1,(((h0.2.trans h1.2).trans a.2).trans b.2).trans c.2⟩
end Go.Proofs.YtokgeopihcopeaaGreatDoor
