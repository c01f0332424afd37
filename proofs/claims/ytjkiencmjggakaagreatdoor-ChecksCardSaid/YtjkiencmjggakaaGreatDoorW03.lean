import Derived.Test.YtjkiencmjggakaaGreatDoorW02
set_option maxHeartbeats 16000000
set_option maxRecDepth 100000
set_option linter.defProp false
set_option linter.unusedSimpArgs false
open Go.Proofs.Tryz
namespace Go.Proofs.YtjkiencmjggakaaGreatDoor
open Go.RowKit
variable {sb:BA}{o so n:Int}{ds:List PD}{cnt:Nat}{xs:List Value}
structure SM(w:World)(X:Nat->Prop)(br bz B:Nat)(s:BA)(j:Nat)(bad:Bool)(wg MX:Int)(TS:List TR)(US:List (Nat×Nat))(zs:List Value)(tv u:Value)(cs:List Value)(W:World):Prop where
 R:Rep W (λg=>X g\/g=w.heap.size\/g=w.heap.size+1) br bz B s j bad wg MX TS US zs tv u
 b2:Blk W w.heap.size zR 44
 b3:Blk W (w.heap.size+1) cs 44
 st:zC w W br bz tv u tv u
section
variable {w W W':World} {X:Nat->Prop} {br bz B:Nat} {s:BA} {j:Nat} {bad:Bool} {wg MX:Int} {TS:List TR} {US:List (Nat×Nat)} {zs:List Value} {tv u:Value} {cs:List Value}
def SM.call(M:SM w X br bz B s j bad wg MX TS US zs tv u cs W){j':Nat}{a:Bool}{b:Int}(c:Rep W' (λg=>X g\/g=w.heap.size\/g=w.heap.size+1) br bz B s j' a b MX TS US zs tv u)(st:zC W W' br bz tv u tv u):SM w X br bz B s j' a b MX TS US zs tv u cs W':=
 ⟨c,st.fr.bl M.b2 (M.R.offS (.inr (.inl rfl))),st.fr.bl M.b3 (M.R.offS (.inr (.inr rfl))),M.st.trans st⟩
def SM.si(M:SM w X br bz B s j bad wg MX TS US zs tv u cs W)(h:zq W W'):SM w X br bz B s j bad wg MX TS US zs tv u cs W':=M.call (M.R.si h) (zC.oS h)
def SM.inc(M:SM w X br bz B s j bad wg MX TS US zs tv u cs W)(h:j<s.size):SM w X br bz B s (j+1) bad wg MX TS US zs tv u cs (W.setCell ⟨br,1,none⟩ (z_ ((j:Int)+1))):=M.call (M.R.inc h).1 (M.R.inc h).2
def SM.alloc(M:SM w X br bz B s j bad wg MX TS US zs tv u cs W)(o:Obj):SM w X br bz B s j bad wg MX TS US zs tv u cs (W.alloc o):=M.call (M.R.alloc o).1 (M.R.alloc o).2
def SM.put(M:SM w X br bz B s j bad wg MX TS US zs tv u cs W)(o:Nat)(v:Value):SM w X br bz B s j bad wg MX TS US zs tv u (cs.set o v) (W.setCell ⟨w.heap.size+1,o,none⟩ v):=by
 have a:Fr W (W.setCell ⟨w.heap.size+1,o,none⟩ v) (λg=>g=w.heap.size+1):=(A_ W (λg=>g=w.heap.size+1)).setCell ⟨w.heap.size+1,o,none⟩ v (λ_=>rfl);exact⟨(M.R.o (a.mono (λ_ _ e=>.inr (.inr e)))).fe (λ_ h=>.inl h),a.bl M.b2 M_,M.b3.set o v,M.st.o a (λg hg=>M_)⟩
end
def za(sb:BA)(o:Int):List Value:=[.int .u8 101,L_,.string sb,z_ o,O_]
def wrS(seen:List Nat):List (Nat×Nat)->Int->Int
 | [],m=>m
 |f::r,m=>wrS (seen++[f.1]) r (if f.1∈seen then zX f.2 m else m)
def Vi(a:List Nat)(ds:List (Nat×Nat))(f:Nat×Nat)(m:Int):wrS a (ds++[f]) m=if f.1∈a++ds.map Prod.fst then zX f.2 (wrS a ds m) else wrS a ds m:=by
 induction ds generalizing a m with
 |nil=>simp[wrS]
 |cons d r ih=>rw[bi_,wrS,wrS,ih,by_];rfl
def wrE(l:List (Nat×Nat))(o:Option (Nat×Nat))(m:Int):Int:=
 match o with
 |none=>wrS [] l m
 |some (c,at_)=>if c∈l.map Prod.fst then wrS [] l m else zX at_ (wrS [] l m)
def cW(w:World)(X:Nat->Prop)(br bz B:Nat)(s:BA)(i:Nat)(wr mx:Int)(ts:List TR)(us:List (Nat×Nat))(zs:List Value)(tv u:Value)(e:Ending)(w':World):Prop:=
 ∃sb o,e=.returned (.agg (za sb o).toArray)/\zC w w' br bz tv u tv u/\
 match xz s i with
 | .ok ((l,unk),j)=>sb.data.toList.map UInt8.toNat=l.map Prod.fst/\o=(match unk with|none=>-1|some (c,_)=>plc sb c)/\Rep w' X br bz B s j false (wrE l unk wr) mx ts us zs tv u
 | .error k=>∃wr',Rep w' X br bz B s k true wr' mx ts us zs tv u
def Kv(R_:Except Nat ((List (Nat×Nat)×Option (Nat×Nat))×Nat))(w:World)(X:Nat->Prop)(br bz B:Nat)(s:BA)(i:Nat)(wr mx:Int)(ts:List TR)(us:List (Nat×Nat))(zs:List Value)(tv u:Value)(m:Nat)(mv:Value)(W:World):Prop:=
 ∃(sb:BA) (more:Bool),mv=.bool more/\sb.size<=300/\
  ((∃(ds:List (Nat×Nat)) (j:Nat),SM w X br bz B s j false (wrS [] ds wr) mx ts us zs tv u (za sb (-1)) W/\sb.data.toList.map UInt8.toNat=ds.map Prod.fst/\i+ds.length<=j/\s.size+2-j<=m/\
   R_=if more=true then wQ s ds (qe s j) else iA s ds j)\/
   (∃k wg',SM w X br bz B s k true wg' mx ts us zs tv u (za sb (-1)) W/\R_=.error k))
def Qm{w:World}{X:Nat->Prop}{br bz B:Nat}{s:BA}{i:Nat}{wg mx:Int}{ts:List TR}{us:List (Nat×Nat)}{zs:List Value}{tv u:Value}(R:Rep w X br bz B s i false wg mx ts us zs tv u):SM w X br bz B s i false wg mx ts us zs tv u (za ⟨#[]⟩ (-1)) ((w.alloc (.cells zR.toArray 44)).alloc (.cells (za ⟨#[]⟩ (-1)).toArray 44)):=by
 have h1:=R.o (((A_ w X).alloc (.cells zR.toArray 44)).alloc (.cells (za ⟨#[]⟩ (-1)).toArray 44));refine⟨h1.fe (λg hg=>?_),(B_ w _ _).alloc _,?_,⟨((A_ w _).alloc _).alloc _,.inl rfl,.inl rfl⟩⟩
 .rcases hg with hg|hg|hg
  .exact .inl hg
  .exact .inr (by simp;omega)
  .exact .inr (by simp;omega)
 .have:=B_ (w.alloc (.cells zR.toArray 44)) (za ⟨#[]⟩ (-1)).toArray 44;simpa using this
def vm{w W W':World}{X:Nat->Prop}{br bz B:Nat}{s:BA}{j:Nat}{bad:Bool}{wg:Int}{zs:List Value}{tv u:Value}{i:Nat}{wr mx:Int}{ts:List TR}{us:List (Nat×Nat)}(M:SM w X br bz B s j bad wg mx ts us zs tv u (za sb o) W)(b:Fr W W' (λg=>g=w.heap.size))(h:match xz s i with
  | .ok ((l,a),j')=>j=j'/\bad=false/\sb.data.toList.map UInt8.toNat=l.map Prod.fst/\o=(match a with|none=>-1|some (c,_)=>plc sb c)/\wg=wrE l a wr
  | .error k=>j=k/\bad=true):cW w X br bz B s i wr mx ts us zs tv u (.returned (.agg (za sb o).toArray)) W':=by
 have d:=(M.R.o (b.mono (λ_ _ e=>.inr (.inl e)))).fe (Y:=X) (λg hg=>.inl (.inl hg));refine⟨sb,o,rfl,M.st.o b (λg hg=>M_),?_⟩;cases hp:xz s i with
 |error k=>
  rw[hp]at h;obtain⟨rfl,rfl⟩:=h;exact⟨_,d⟩
 |ok q=>
  obtain⟨⟨l,a⟩,j'⟩:=q;rw[hp]at h;obtain⟨rfl,rfl,h1,a,rfl⟩:=h;exact⟨h1,a,d⟩
def Yz{b:Except Nat ((List (Nat×Nat)×Option (Nat×Nat))×Nat)}{w W:World}{X:Nat->Prop}{br bz B:Nat}{s:BA}{i j:Nat}{wg mx a:Int}{ts:List TR}{us:List (Nat×Nat)}{zs:List Value}{tv u:Value}{ds:List (Nat×Nat)}(n j':Nat)(more:Bool)(e:b=wQ s ds (qe s j))(hs:s.size<=300)(c:i+ds.length<=j)(c:sb.data.toList.map UInt8.toNat=ds.map Prod.fst)(d:zh (bt s j)=true)(g:a=if 0<=plc sb (bt s j) then zX j (wrS [] ds wg) else wrS [] ds wg)(M:SM w X br bz B s j' false a mx ts us zs tv u (za (sb++⟨#[UInt8.ofNat (bt s j)]⟩) (-1)) W)(hn:s.size+2-j'<=n)(hm:(more=true/\bt s (j+1)=44/\j'=j+2)\/(more=false/\bt s (j+1)≠44/\j'=j+1)):Kv b w X br bz B s i wg mx ts us zs tv u n (.bool more) W:=by
 have hl:=zc (xy d);have b:=tP c (eQ s j);have f:=congrArg List.length b;simp only[bo_,Array.length_toList,ai_,a6_,a7_]at f;have f:(sb++⟨#[UInt8.ofNat (bt s j)]⟩:BA).size=(sb++⟨#[UInt8.ofNat (bt s j)]⟩:BA).data.size:=rfl;have f:wrS [] (ds++[(bt s j,j)]) wg=a:=by
  rw[Vi,g];have hm:bt s j∈[]++ds.map Prod.fst↔0<=plc sb (bt s j):=by rw[kw,c];simp
  by_cases a:0<=plc sb (bt s j)
  .rw[i_ (hm.2 a),i_ a]
  .rw[n_ (λx=>a (hm.1 x)),n_ a]
 refine⟨sb++⟨#[UInt8.ofNat (bt s j)]⟩,more,rfl,M_,.inl ⟨ds++[(bt s j,j)],j',by rw[f];exact M,by rw[b,bj_];rfl,?_,hn,?_⟩⟩
 .rw[ai_,a6_,a7_];rcases hm with⟨_,_,rfl⟩|⟨_,_,rfl⟩<;>omega
 .rw[e,wJ,i_ d];rcases hm with⟨rfl,a,rfl⟩|⟨rfl,a,rfl⟩
  .rw[i_ a,i_ rfl]
  .rw[n_ a,n_ D_]
def sj{w:World}{X:Nat->Prop}{br bz B:Nat}{s:BA}{i:Nat}{wg mx:Int}{ts:List TR}{us:List (Nat×Nat)}{zs:List Value}{tv u:Value}(R:Rep w X br bz B s i false wg mx ts us zs tv u):Calls prog 61 #[P_ br] w (cW w X br bz B s i wg mx ts us zs tv u):=by
 have b5:=R.sl;have a:=R.il;have a:=zy (Qm R);obtain⟨b,Y⟩:=y_ (cW w X br bz B s i wg mx ts us zs tv u);rw[<- Y.o];go_in;go_wp2_with (go_at_call 37;apply(yY 40 a.o.R rfl D_).mono;rintro e w1 ⟨rfl,q,d⟩);have start:Kv (xz s i) w X br bz B s (i+1) wg mx ts us zs tv u (s.size+3) (.bool true) w1:=by
  refine⟨⟨#[]⟩,true,rfl,D_,?_⟩;rw[iz];by_cases b:bt s i=40
  .rw[i_ b]at q⊢;exact .inl ⟨[],i+1,a.o.call q d,rfl,by simp,M_,rfl⟩
  .rw[n_ b]at q⊢;exact .inr ⟨i,_,a.o.call q d,rfl⟩
 replace start:=zy start;go_loopg [4] (s.size+3) (λm a W=>Kv (xz s i) w X br bz B s (i+1) wg mx ts us zs tv u m a W);case atStart=>exact start
 case round=>
  obtain⟨sb,more,rfl,a,a|hC⟩:=hrel
  .obtain⟨ds,j,M,a0,Z,hm,p⟩:=a;have c2:=M.R.here.c2;have c1:=M.R.here.c1;have a:=M.b3.cell 2;simp only[za,aa_,ab_]at a;replace M:=zy M;replace a0:=zy a0;cases more with
   |true=>
    rw[i_ rfl]at p;cases r:zh (bt s j) with
    |false=>
     have hr:=zy (show xz s i=.error j by rw[p,wJ,n_ (by rw[r];decide)]);go_wp2_with (go_at_call 85;apply(vB M.o.R).mono;rintro e S ⟨rfl,t,Q⟩;rw[n_ (by rw[r];decide)];rw[n_ (by rw[r];decide)]at t;have b:=M.o.call t Q;have a9:=b.R.here.c2;have I:=b.b3.cell 0;have J:=b.b3.cell 1;have K:=b.b3.cell 2;have t3:=b.b3.cell 3;have t4:=b.b3.cell 4;have r0:=b.b2.cell 0;have r1:=b.b2.cell 1;have F:=b.b2.cell 2;have G:=b.b2.cell 3;have H:=b.b2.cell 4;obtain⟨g0,g1,g2,g3,g4⟩:=b.b2.t5;simp only[za,zR,aa_,ab_]at I J K t3 t4 r0 r1 F G H;replace b:=zy b);have L:=G_ b.o.b2 (.int .u8 101) (L_) (.string sb) (z_ (-1)) (O_);obtain⟨A,C,D,q3,E⟩:=L.d5;have z:=J_ S w.heap.size (.int .u8 101) (L_) (.string sb) (z_ (-1)) (O_);generalize (((((World.setCell S ⟨w.heap.size,0,none⟩ (.int .u8 101)).setCell ⟨w.heap.size,1,none⟩ (L_)).setCell ⟨w.heap.size,2,none⟩ (.string sb)).setCell ⟨w.heap.size,3,none⟩ (z_ (-1))).setCell ⟨w.heap.size,4,none⟩ (O_))=W5 at *;refine bodyPost_ret (v:=.agg (za sb (-1)).toArray) (by simp[results,results61,go_sem,A,C,D,q3,E,za]) rfl ?_;rw[Y.o];exact vm b z (by rw[hr.o];exact⟨rfl,rfl⟩)
    |true=>
     replace p:=zy p;have U:j<s.size:=zc (xy r);obtain⟨c,hc⟩:=x_ (bt s j);have l:=λ(W:World) (g:Nat) (c:Int) (h:W.heap.size=g)=>cw W g c h;go_upto_if 34 with(first
      |(go_at_call 85;apply(vB M.o.R).mono;rintro e S ⟨rfl,t,Q⟩;rw[i_ r,hc];rw[i_ r]at t;have b:=M.o.call t Q;have a9:=b.R.here.c2;have l:=b.b3.cell 2;simp only[za,aa_,ab_]at l;replace b:=zy b)
      |(go_at_call 86;apply(wH sb c _ M_).mono;rintro e w' ⟨rfl,rfl⟩))
     go_cut [] (λW=>∃d,SM w X br bz B s (j+1) false d mx ts us zs tv u (za sb (-1)) W/\d=if 0<=plc sb (bt s j) then zX j (wrS [] ds wg) else wrS [] ds wg);case first=>
      by_cases hq:0<=plc sb c
      .go_wp2_with (go_at_call 20;apply(jS b.o.R).mono;rintro e w5 ⟨rfl,hW,a5⟩);go_meet;case rel=>exact⟨_,b.o.call hW a5,by rw[hc,i_ hq]⟩
      .have l:decide (0<=plc sb c)=false:=decide_eq_false hq;go_wp2;go_meet;case rel=>exact⟨_,b,by rw[hc,n_ M_]⟩
     case rest=>
      obtain⟨d,y,O⟩:=hcut;have a:=y.b3.cell 2;have f:∀x,(wc.alloc x).cell? ⟨w.heap.size+1,2,none⟩=some (.string sb):=λx=>y.b3.ce 2 x;have f:∀x,(wc.alloc x).frozen? ⟨w.heap.size+1,2,none⟩=false:=λx=>(y.b3.alloc x).th 2;simp only[za,aa_,ab_]at a;have f:=zy ((y.alloc (.cells #[U_ c] 5)).put 2 (.string (sb++(⟨#[UInt8.ofNat c]⟩:BA))):SM w X br bz B s (j+1) false d mx ts us zs tv u (za (sb++⟨#[UInt8.ofNat c]⟩) (-1)) ((wc.alloc (.cells #[U_ c] 5)).setCell ⟨w.heap.size+1,2,none⟩ (.string (sb++⟨#[UInt8.ofNat c]⟩))));replace O:=zy O;obtain⟨V,d⟩:=x_ (bt s (j+1));replace d:=zy d;replace hc:=zy hc;replace r:=zy r;by_cases l:V=44
      .have N:=zy (d.o.trans l);have b7:j+1<s.size:=zc (by rw[N.o];decide);subst l;go_wp2_with (go_at_call 36;apply(zK f.o.R d).mono;rintro e w7 ⟨rfl,T⟩;have a:=f.o.si T;have b8:=a.R.here.c1;have b9:=a.R.here.th 1;replace a:=zy a);go_roundg (s.size+2-(j+2));case measure=>omega
       case rel=>exact Yz _ (j+2) true p b5 Z a0 r O (by rw[hc.o];exact a.o.inc b7) l_ (.inl ⟨rfl,N,rfl⟩)
      .have d2:((V:Int)==44)=false:=by simp;omega
       have N:=zy (show bt s (j+1)≠44 by rw[d.o];exact l);go_wp2_with (go_at_call 36;apply(zK f.o.R d).mono;rintro e w7 ⟨rfl,T⟩;have a:=zy (f.o.si T));go_roundg (s.size+2-(j+1));case measure=>omega
       case rel=>exact Yz _ (j+1) false p b5 Z a0 r O (by rw[hc.o];exact a) l_ (.inr ⟨rfl,N,rfl⟩)
   |false=>
    rw[n_ D_]at p;obtain⟨c0,hc⟩:=x_ (bt s j);replace hc:=zy hc;by_cases a7:c0=33
    .have a:bt s j=33:=hc.o.trans a7;subst a7;have U:j<s.size:=zc M_;rw[iA,i_ a]at p;cases r:zh (bt s (j+1)) with
     |false=>
      have hr:=zy (show xz s i=.error (j+1) by rw[p,n_ (by rw[r];decide)]);go_wp2_with (first
       |(go_at_call 36;apply(zK M.o.R hc).mono;rintro e w2 ⟨rfl,O⟩;have d:=M.o.si O;have a2:=d.R.here.c1;have a4:=d.R.here.th 1;replace d:=zy d)
       |(go_at_call 85;apply(vB (d.o.inc U).R).mono;rintro e S ⟨rfl,t,Q⟩;rw[n_ (by rw[r];decide)];rw[n_ (by rw[r];decide)]at t;have b:=(d.o.inc U).call t Q;have k2:=b.b3.cell 2;have k3:=b.b3.cell 3;have m3:=b.b3.th 3;simp only[za,aa_,ab_]at k2 k3;replace b:=zy b)
       |(go_at_call 27;apply(vC sb 0 _ M_).mono;rintro e w' ⟨rfl,Z⟩;rw[Z];have f:SM w X br bz B s _ _ _ mx ts us zs tv u (za sb (plc sb 0)) _:=b.o.put 3 (z_ (plc sb 0));have a6:=f.R.here.c2;have I:=f.b3.cell 0;have J:=f.b3.cell 1;have K:=f.b3.cell 2;have t3:=f.b3.cell 3;have t4:=f.b3.cell 4;have r0:=f.b2.cell 0;have r1:=f.b2.cell 1;have F:=f.b2.cell 2;have G:=f.b2.cell 3;have H:=f.b2.cell 4;obtain⟨g0,g1,g2,g3,g4⟩:=f.b2.t5;simp only[za,zR,aa_,ab_]at I J K t3 t4 r0 r1 F G H;replace f:=zy f))
      have L:=G_ f.o.b2 (.int .u8 101) (L_) (.string sb) (z_ (plc sb 0)) (O_);obtain⟨A,C,D,q3,E⟩:=L.d5;have z:=J_ (S.setCell ⟨w.heap.size+1,3,none⟩ (z_ (plc sb 0))) w.heap.size (.int .u8 101) (L_) (.string sb) (z_ (plc sb 0)) (O_);generalize (((((World.setCell (S.setCell ⟨w.heap.size+1,3,none⟩ (z_ (plc sb 0))) ⟨w.heap.size,0,none⟩ (.int .u8 101)).setCell ⟨w.heap.size,1,none⟩ (L_)).setCell ⟨w.heap.size,2,none⟩ (.string sb)).setCell ⟨w.heap.size,3,none⟩ (z_ (plc sb 0))).setCell ⟨w.heap.size,4,none⟩ (O_))=W5 at *;refine bodyPost_ret (v:=.agg (za sb (plc sb 0)).toArray) (by simp[results,results61,go_sem,A,C,D,q3,E,za]) rfl ?_;rw[Y.o];exact vm f z (by rw[hr.o];exact⟨rfl,rfl⟩)
     |true=>
      rw[i_ r]at p;obtain⟨l,a1⟩:=x_ (bt s (j+1));replace a1:=zy a1;have b4:=zy (show 0<=plc sb l↔l∈ds.map Prod.fst by rw[kw,a0.o]);by_cases T:bt s (j+2)=41
      .have hr:=zy (show xz s i=.ok ((ds,some (l,j+1)),j+3) by rw[p,i_ T,a1.o]);by_cases hq:0<=plc sb l
       .have a8:=zy (show wrS [] ds wg=wrE ds (some (l,j+1)) wg by unfold wrE;simp only;rw[i_ (b4.o.1 hq)]);go_wp2_with (first
         |(go_at_call 36;apply(zK M.o.R hc).mono;rintro e w2 ⟨rfl,O⟩;have d:=M.o.si O;have a2:=d.R.here.c1;have a4:=d.R.here.th 1;replace d:=zy d)
         |(go_at_call 85;apply(vB (d.o.inc U).R).mono;rintro e S ⟨rfl,t,Q⟩;rw[i_ r,a1.o];rw[i_ r]at t;have b:=(d.o.inc U).call t Q;have k2:=b.b3.cell 2;have k3:=b.b3.cell 3;have m3:=b.b3.th 3;simp only[za,aa_,ab_]at k2 k3;replace b:=zy b)
         |(go_at_call 27;apply(vC sb l _ M_).mono;rintro e w' ⟨rfl,Z⟩;rw[Z];have f:SM w X br bz B s _ _ _ mx ts us zs tv u (za sb (plc sb l)) _:=b.o.put 3 (z_ (plc sb l));have a6:=f.R.here.c2;replace f:=zy f)
         |(go_at_call 37;apply(yY 41 f.o.R rfl D_).mono;rintro e N ⟨rfl,q,V⟩;rw[i_ T]at q;have a:=f.o.call q V;have I:=a.b3.cell 0;have J:=a.b3.cell 1;have K:=a.b3.cell 2;have t3:=a.b3.cell 3;have t4:=a.b3.cell 4;have r0:=a.b2.cell 0;have r1:=a.b2.cell 1;have F:=a.b2.cell 2;have G:=a.b2.cell 3;have H:=a.b2.cell 4;obtain⟨g0,g1,g2,g3,g4⟩:=a.b2.t5;simp only[za,zR,aa_,ab_]at I J K t3 t4 r0 r1 F G H;replace a:=zy a))
        have L:=G_ a.o.b2 (.int .u8 101) (L_) (.string sb) (z_ (plc sb l)) (O_);obtain⟨A,C,D,q3,E⟩:=L.d5;have z:=J_ N w.heap.size (.int .u8 101) (L_) (.string sb) (z_ (plc sb l)) (O_);generalize (((((World.setCell N ⟨w.heap.size,0,none⟩ (.int .u8 101)).setCell ⟨w.heap.size,1,none⟩ (L_)).setCell ⟨w.heap.size,2,none⟩ (.string sb)).setCell ⟨w.heap.size,3,none⟩ (z_ (plc sb l))).setCell ⟨w.heap.size,4,none⟩ (O_))=W5 at *;refine bodyPost_ret (v:=.agg (za sb (plc sb l)).toArray) (by simp[results,results61,go_sem,A,C,D,q3,E,za]) rfl ?_;rw[Y.o];exact vm a z (by rw[hr.o];exact⟨rfl,rfl,a0,rfl,a8⟩)
       .have a8:=zy (show zX ((j+1:Nat):Int) (wrS [] ds wg)=wrE ds (some (l,j+1)) wg by unfold wrE;simp only;rw[n_ (λx=>hq (b4.o.2 x))]);go_wp2_with (first
         |(go_at_call 36;apply(zK M.o.R hc).mono;rintro e w2 ⟨rfl,O⟩;have d:=M.o.si O;have a2:=d.R.here.c1;have a4:=d.R.here.th 1;replace d:=zy d)
         |(go_at_call 85;apply(vB (d.o.inc U).R).mono;rintro e S ⟨rfl,t,Q⟩;rw[i_ r,a1.o];rw[i_ r]at t;have b:=(d.o.inc U).call t Q;have k2:=b.b3.cell 2;have k3:=b.b3.cell 3;have m3:=b.b3.th 3;simp only[za,aa_,ab_]at k2 k3;replace b:=zy b)
         |(go_at_call 27;apply(vC sb l _ M_).mono;rintro e w' ⟨rfl,Z⟩;rw[Z];have f:SM w X br bz B s _ _ _ mx ts us zs tv u (za sb (plc sb l)) _:=b.o.put 3 (z_ (plc sb l));have a6:=f.R.here.c2;replace f:=zy f)
         |(go_at_call 20;apply(jS f.o.R).mono;rintro e w5 ⟨rfl,hW,a5⟩;have y:=f.o.call hW a5;have b6:=y.R.here.c2;replace y:=zy y)
         |(go_at_call 37;apply(yY 41 y.o.R rfl D_).mono;rintro e N ⟨rfl,q,V⟩;rw[i_ T]at q;have a:=y.o.call q V;have I:=a.b3.cell 0;have J:=a.b3.cell 1;have K:=a.b3.cell 2;have t3:=a.b3.cell 3;have t4:=a.b3.cell 4;have r0:=a.b2.cell 0;have r1:=a.b2.cell 1;have F:=a.b2.cell 2;have G:=a.b2.cell 3;have H:=a.b2.cell 4;obtain⟨g0,g1,g2,g3,g4⟩:=a.b2.t5;simp only[za,zR,aa_,ab_]at I J K t3 t4 r0 r1 F G H;replace a:=zy a))
        have L:=G_ a.o.b2 (.int .u8 101) (L_) (.string sb) (z_ (plc sb l)) (O_);obtain⟨A,C,D,q3,E⟩:=L.d5;have z:=J_ N w.heap.size (.int .u8 101) (L_) (.string sb) (z_ (plc sb l)) (O_);generalize (((((World.setCell N ⟨w.heap.size,0,none⟩ (.int .u8 101)).setCell ⟨w.heap.size,1,none⟩ (L_)).setCell ⟨w.heap.size,2,none⟩ (.string sb)).setCell ⟨w.heap.size,3,none⟩ (z_ (plc sb l))).setCell ⟨w.heap.size,4,none⟩ (O_))=W5 at *;refine bodyPost_ret (v:=.agg (za sb (plc sb l)).toArray) (by simp[results,results61,go_sem,A,C,D,q3,E,za]) rfl ?_;rw[Y.o];exact vm a z (by rw[hr.o];exact⟨rfl,rfl,a0,rfl,a8⟩)
      .have hr:=zy (show xz s i=.error (j+2) by rw[p,n_ T]);by_cases hq:0<=plc sb l
       .go_wp2_with (first
         |(go_at_call 36;apply(zK M.o.R hc).mono;rintro e w2 ⟨rfl,O⟩;have d:=M.o.si O;have a2:=d.R.here.c1;have a4:=d.R.here.th 1;replace d:=zy d)
         |(go_at_call 85;apply(vB (d.o.inc U).R).mono;rintro e S ⟨rfl,t,Q⟩;rw[i_ r,a1.o];rw[i_ r]at t;have b:=(d.o.inc U).call t Q;have k2:=b.b3.cell 2;have k3:=b.b3.cell 3;have m3:=b.b3.th 3;simp only[za,aa_,ab_]at k2 k3;replace b:=zy b)
         |(go_at_call 27;apply(vC sb l _ M_).mono;rintro e w' ⟨rfl,Z⟩;rw[Z];have f:SM w X br bz B s _ _ _ mx ts us zs tv u (za sb (plc sb l)) _:=b.o.put 3 (z_ (plc sb l));have a6:=f.R.here.c2;replace f:=zy f)
         |(go_at_call 37;apply(yY 41 f.o.R rfl D_).mono;rintro e N ⟨rfl,q,V⟩;rw[n_ T]at q;have a:=f.o.call q V;have I:=a.b3.cell 0;have J:=a.b3.cell 1;have K:=a.b3.cell 2;have t3:=a.b3.cell 3;have t4:=a.b3.cell 4;have r0:=a.b2.cell 0;have r1:=a.b2.cell 1;have F:=a.b2.cell 2;have G:=a.b2.cell 3;have H:=a.b2.cell 4;obtain⟨g0,g1,g2,g3,g4⟩:=a.b2.t5;simp only[za,zR,aa_,ab_]at I J K t3 t4 r0 r1 F G H;replace a:=zy a))
        have L:=G_ a.o.b2 (.int .u8 101) (L_) (.string sb) (z_ (plc sb l)) (O_);obtain⟨A,C,D,q3,E⟩:=L.d5;have z:=J_ N w.heap.size (.int .u8 101) (L_) (.string sb) (z_ (plc sb l)) (O_);generalize (((((World.setCell N ⟨w.heap.size,0,none⟩ (.int .u8 101)).setCell ⟨w.heap.size,1,none⟩ (L_)).setCell ⟨w.heap.size,2,none⟩ (.string sb)).setCell ⟨w.heap.size,3,none⟩ (z_ (plc sb l))).setCell ⟨w.heap.size,4,none⟩ (O_))=W5 at *;refine bodyPost_ret (v:=.agg (za sb (plc sb l)).toArray) (by simp[results,results61,go_sem,A,C,D,q3,E,za]) rfl ?_;rw[Y.o];exact vm a z (by rw[hr.o];exact⟨rfl,rfl⟩)
       .go_wp2_with (first
         |(go_at_call 36;apply(zK M.o.R hc).mono;rintro e w2 ⟨rfl,O⟩;have d:=M.o.si O;have a2:=d.R.here.c1;have a4:=d.R.here.th 1;replace d:=zy d)
         |(go_at_call 85;apply(vB (d.o.inc U).R).mono;rintro e S ⟨rfl,t,Q⟩;rw[i_ r,a1.o];rw[i_ r]at t;have b:=(d.o.inc U).call t Q;have k2:=b.b3.cell 2;have k3:=b.b3.cell 3;have m3:=b.b3.th 3;simp only[za,aa_,ab_]at k2 k3;replace b:=zy b)
         |(go_at_call 27;apply(vC sb l _ M_).mono;rintro e w' ⟨rfl,Z⟩;rw[Z];have f:SM w X br bz B s _ _ _ mx ts us zs tv u (za sb (plc sb l)) _:=b.o.put 3 (z_ (plc sb l));have a6:=f.R.here.c2;replace f:=zy f)
         |(go_at_call 20;apply(jS f.o.R).mono;rintro e w5 ⟨rfl,hW,a5⟩;have y:=f.o.call hW a5;have b6:=y.R.here.c2;replace y:=zy y)
         |(go_at_call 37;apply(yY 41 y.o.R rfl D_).mono;rintro e N ⟨rfl,q,V⟩;rw[n_ T]at q;have a:=y.o.call q V;have I:=a.b3.cell 0;have J:=a.b3.cell 1;have K:=a.b3.cell 2;have t3:=a.b3.cell 3;have t4:=a.b3.cell 4;have r0:=a.b2.cell 0;have r1:=a.b2.cell 1;have F:=a.b2.cell 2;have G:=a.b2.cell 3;have H:=a.b2.cell 4;obtain⟨g0,g1,g2,g3,g4⟩:=a.b2.t5;simp only[za,zR,aa_,ab_]at I J K t3 t4 r0 r1 F G H;replace a:=zy a))
        have L:=G_ a.o.b2 (.int .u8 101) (L_) (.string sb) (z_ (plc sb l)) (O_);obtain⟨A,C,D,q3,E⟩:=L.d5;have z:=J_ N w.heap.size (.int .u8 101) (L_) (.string sb) (z_ (plc sb l)) (O_);generalize (((((World.setCell N ⟨w.heap.size,0,none⟩ (.int .u8 101)).setCell ⟨w.heap.size,1,none⟩ (L_)).setCell ⟨w.heap.size,2,none⟩ (.string sb)).setCell ⟨w.heap.size,3,none⟩ (z_ (plc sb l))).setCell ⟨w.heap.size,4,none⟩ (O_))=W5 at *;refine bodyPost_ret (v:=.agg (za sb (plc sb l)).toArray) (by simp[results,results61,go_sem,A,C,D,q3,E,za]) rfl ?_;rw[Y.o];exact vm a z (by rw[hr.o];exact⟨rfl,rfl⟩)
    .have f:((c0:Int)==33)=false:=by simp;omega
     rw[iA,n_ (by rw[hc.o];exact a7)]at p;by_cases T:bt s j=41
     .have hr:=zy (show xz s i=.ok ((ds,none),j+1) by rw[p,i_ T]);go_wp2_with (first
       |(go_at_call 36;apply(zK M.o.R hc).mono;rintro e w2 ⟨rfl,O⟩;have d:=M.o.si O;have a3:=d.R.here.c2;replace d:=zy d)
       |(go_at_call 37;apply(yY 41 d.o.R rfl D_).mono;rintro e N ⟨rfl,q,V⟩;rw[i_ T]at q;have a:=d.o.call q V;have I:=a.b3.cell 0;have J:=a.b3.cell 1;have K:=a.b3.cell 2;have t3:=a.b3.cell 3;have t4:=a.b3.cell 4;have r0:=a.b2.cell 0;have r1:=a.b2.cell 1;have F:=a.b2.cell 2;have G:=a.b2.cell 3;have H:=a.b2.cell 4;obtain⟨g0,g1,g2,g3,g4⟩:=a.b2.t5;simp only[za,zR,aa_,ab_]at I J K t3 t4 r0 r1 F G H;replace a:=zy a))
      have L:=G_ a.o.b2 (.int .u8 101) (L_) (.string sb) (z_ (-1)) (O_);obtain⟨A,C,D,q3,E⟩:=L.d5;have z:=J_ N w.heap.size (.int .u8 101) (L_) (.string sb) (z_ (-1)) (O_);generalize (((((World.setCell N ⟨w.heap.size,0,none⟩ (.int .u8 101)).setCell ⟨w.heap.size,1,none⟩ (L_)).setCell ⟨w.heap.size,2,none⟩ (.string sb)).setCell ⟨w.heap.size,3,none⟩ (z_ (-1))).setCell ⟨w.heap.size,4,none⟩ (O_))=W5 at *;refine bodyPost_ret (v:=.agg (za sb (-1)).toArray) (by simp[results,results61,go_sem,A,C,D,q3,E,za]) rfl ?_;rw[Y.o];exact vm a z (by rw[hr.o];exact⟨rfl,rfl,a0,rfl,rfl⟩)
     .have hr:=zy (show xz s i=.error j by rw[p,n_ T]);go_wp2_with (first
       |(go_at_call 36;apply(zK M.o.R hc).mono;rintro e w2 ⟨rfl,O⟩;have d:=M.o.si O;have a3:=d.R.here.c2;replace d:=zy d)
       |(go_at_call 37;apply(yY 41 d.o.R rfl D_).mono;rintro e N ⟨rfl,q,V⟩;rw[n_ T]at q;have a:=d.o.call q V;have I:=a.b3.cell 0;have J:=a.b3.cell 1;have K:=a.b3.cell 2;have t3:=a.b3.cell 3;have t4:=a.b3.cell 4;have r0:=a.b2.cell 0;have r1:=a.b2.cell 1;have F:=a.b2.cell 2;have G:=a.b2.cell 3;have H:=a.b2.cell 4;obtain⟨g0,g1,g2,g3,g4⟩:=a.b2.t5;simp only[za,zR,aa_,ab_]at I J K t3 t4 r0 r1 F G H;replace a:=zy a))
      have L:=G_ a.o.b2 (.int .u8 101) (L_) (.string sb) (z_ (-1)) (O_);obtain⟨A,C,D,q3,E⟩:=L.d5;have z:=J_ N w.heap.size (.int .u8 101) (L_) (.string sb) (z_ (-1)) (O_);generalize (((((World.setCell N ⟨w.heap.size,0,none⟩ (.int .u8 101)).setCell ⟨w.heap.size,1,none⟩ (L_)).setCell ⟨w.heap.size,2,none⟩ (.string sb)).setCell ⟨w.heap.size,3,none⟩ (z_ (-1))).setCell ⟨w.heap.size,4,none⟩ (O_))=W5 at *;refine bodyPost_ret (v:=.agg (za sb (-1)).toArray) (by simp[results,results61,go_sem,A,C,D,q3,E,za]) rfl ?_;rw[Y.o];exact vm a z (by rw[hr.o];exact⟨rfl,rfl⟩)
  .obtain⟨k,a,M,p⟩:=hC;have c2:=M.R.here.c2;replace p:=zy p;replace M:=zy M;cases more;all_goals
    go_wp2_with (go_at_call 36;apply(sU M.o.R).mono;rintro e S ⟨rfl,a⟩;have b:=M.o.si a;have a9:=b.R.here.c2;have I:=b.b3.cell 0;have J:=b.b3.cell 1;have K:=b.b3.cell 2;have t3:=b.b3.cell 3;have t4:=b.b3.cell 4;have r0:=b.b2.cell 0;have r1:=b.b2.cell 1;have F:=b.b2.cell 2;have G:=b.b2.cell 3;have H:=b.b2.cell 4;obtain⟨g0,g1,g2,g3,g4⟩:=b.b2.t5;simp only[za,zR,aa_,ab_]at I J K t3 t4 r0 r1 F G H;replace b:=zy b);have L:=G_ b.o.b2 (.int .u8 101) (L_) (.string sb) (z_ (-1)) (O_);obtain⟨A,C,D,q3,E⟩:=L.d5;have z:=J_ S w.heap.size (.int .u8 101) (L_) (.string sb) (z_ (-1)) (O_);generalize (((((World.setCell S ⟨w.heap.size,0,none⟩ (.int .u8 101)).setCell ⟨w.heap.size,1,none⟩ (L_)).setCell ⟨w.heap.size,2,none⟩ (.string sb)).setCell ⟨w.heap.size,3,none⟩ (z_ (-1))).setCell ⟨w.heap.size,4,none⟩ (O_))=W5 at *;refine bodyPost_ret (v:=.agg (za sb (-1)).toArray) (by simp[results,results61,go_sem,A,C,D,q3,E,za]) rfl ?_;rw[Y.o];exact vm b z (by rw[p.o];exact⟨rfl,rfl⟩)
def PB.wr:PB->Int->Int
 | .recd ds,m=>wrF [] ds m
 | .enum l o,m=>wrE l o m
 | .bytes _,m=>m
def PB.mx:PB->Int->Int
 | .recd ds,m=>qM ds m
 | .enum _ _,m=>m
 | .bytes _,m=>m
def PB.ts(b:Nat):PB->List TR
 | .recd ds=>zJ b (ds.map PF.ty)
 | .enum _ _=>[]
 | .bytes _=>[]
def PB.us:PB->List (Nat×Nat)
 | .recd ds=>zY (ds.map PF.ty)
 | .enum _ _=>[]
 | .bytes _=>[]
def vz(so:Int)(fv:Value)(sb:BA)(o n:Int):List Value:=[.int .u8 so,fv,.string sb,z_ o,z_ n]
def dy(s:BA)(b:Nat)(pb:PB)(so:Int)(cnt:Nat)(xs:List Value)(sb:BA)(o n:Int):Prop:=
 match pb with
 | .recd ds=>so=114/\cnt=ds.length/\xs=yo s b ds/\o = -1/\n=0
 | .enum l unk=>so=101/\cnt=0/\sb.data.toList.map UInt8.toNat=l.map Prod.fst/\o=(match unk with|none=>-1|some (c,_)=>plc sb c)/\n=0
 | .bytes k=>so=102/\cnt=0/\o = -1/\n=(k:Int)
def wW(w:World)(X:Nat->Prop)(br bz B:Nat)(s:BA)(i:Nat)(wr mx:Int)(ts:List TR)(us:List (Nat×Nat))(zs:List Value)(tv u:Value)(e:Ending)(w':World):Prop:=
 ∃so fv sb o n cnt xs tv' u',e=.returned (.agg (vz so fv sb o n).toArray)/\zC w w' br bz tv u tv' u'/\w'.ownsRow B 113 10 fv cnt xs/\(∀g,fv.ownBlock=some g->w.heap.size<=g/\tv'.ownBlock≠some g/\u'.ownBlock≠some g)/\
 match yZ s i with
 | .ok (pb,j)=>dy s ts.length pb so cnt xs sb o n/\Rep w' (λg=>X g\/fv.ownBlock=some g) br bz B s j false (pb.wr wr) (pb.mx mx) (ts++pb.ts ts.length) (us++pb.us) zs tv' u'
 | .error k=>∃wr' mx' ts' us',Rep w' (λg=>X g\/fv.ownBlock=some g) br bz B s k true wr' mx' ts' us' zs tv' u'
def lH{s:BA}{i:Nat}(h:bt s i=114):yZ s i=match yp s (i+1) with | .error k=>.error k | .ok (ds,j)=>.ok (.recd ds,j):=by
 unfold yZ;rw[i_ h];rfl
def mp{s:BA}{i:Nat}(h:bt s i=101):yZ s i=match xz s (i+1) with | .error k=>.error k | .ok ((l,o),j)=>.ok (.enum l o,j):=by
 unfold yZ;rw[n_ M_,i_ h];rfl
def ww{s:BA}{i:Nat}(h:bt s i=102):yZ s i=if 48<=bt s (i+1)/\bt s (i+1)<=57 then .ok (.bytes (bt s (i+1)-48),i+2) else .error (i+1):=by
 unfold yZ;rw[n_ M_,n_ M_,i_ h]
def lR{s:BA}{i:Nat}(h1:bt s i≠114)(a:bt s i≠101)(b:bt s i≠102):yZ s i=.error i:=by
 unfold yZ;rw[n_ h1,n_ a,n_ b]
section
variable {w W W':World} {X:Nat->Prop} {br bz B:Nat} {s:BA} {i:Nat} {wr mx:Int} {ts:List TR} {us:List (Nat×Nat)} {zs:List Value} {tv u:Value}
def gP(R:Rep w X br bz B s i false wr mx ts us zs tv u){j:Nat}{bad:Bool}(c:Rep W (λg=>X g\/g=w.heap.size) br bz B s j bad wr mx ts us zs tv u)(st:zC w W br bz tv u tv u)(a:Fr W W' (λg=>g=w.heap.size))(h:(bad=true/\yZ s i=.error j)\/(∃k,bad=false/\yZ s i=.ok (.bytes k,j)/\so=102/\o = -1/\n=(k:Int))):wW w X br bz B s i wr mx ts us zs tv u (.returned (.agg (vz so (L_) sb o n).toArray)) W':=by
 have _:=R.il;have b:=(c.o (a.mono (λ_ _ e=>.inr e))).fe (Y:=λg=>X g\/(Value.slice none 0 0).ownBlock=some g) (λg hg=>by
  rcases hg with e|e
  .exact .inl (.inl e)
  .simp[Value.ownBlock]at e)
 refine⟨so,_,sb,o,n,0,[],tv,u,rfl,st.o a (λg hg=>M_),World.ownsRow_nil _ _ _ _,λg hg=>by simp[Value.ownBlock]at hg,?_⟩;rcases h with⟨rfl,h⟩|⟨k,rfl,h,rfl,rfl,rfl⟩
 .rw[h];exact⟨_,_,_,_,b⟩
 .rw[h];refine⟨⟨rfl,rfl,rfl,rfl⟩,?_⟩;simpa[PB.wr,PB.mx,PB.ts,PB.us] using b
def Qt{w1:World}{fv tv' u':Value}(a:w.heap.size<w1.heap.size)(h:bt s i=114)(l:zC w w1 br bz tv u tv u)(st:zC w1 W br bz tv u tv' u')(own:W.ownsRow B 113 10 fv cnt xs)(av:∀g,fv.ownBlock=some g->w1.heap.size<=g/\tv'.ownBlock≠some g/\u'.ownBlock≠some g)(f:Fr W W' (λg=>g=w.heap.size))(hm:match yp s (i+1) with
  | .ok (ds,j)=>cnt=ds.length/\xs=yo s ts.length ds/\Rep W (λg=>(X g\/g=w.heap.size)\/fv.ownBlock=some g) br bz B s j false (wrF [] ds wr) (qM ds mx) (ts++zJ ts.length (ds.map PF.ty)) (us++zY (ds.map PF.ty)) zs tv' u'
  | .error k=>∃d a b c,Rep W (λg=>(X g\/g=w.heap.size)\/fv.ownBlock=some g) br bz B s k true d a b c zs tv' u'):wW w X br bz B s i wr mx ts us zs tv u (.returned (.agg (vz 114 fv ⟨#[]⟩ (-1) 0).toArray)) W':=by
 refine⟨114,fv,_,-1,0,cnt,xs,tv',u',rfl,(l.trans st).o f (λg hg=>M_),zj own f (λg hg e=>by have:=(av g hg).1;omega),λg hg=>⟨by have:=(av g hg).1;omega,(av g hg).2⟩,?_⟩;rw[lH h];have hX:∀{j:Nat} {bad:Bool} {d a:Int} {b:List TR} {c:List (Nat×Nat)},Rep W (λg=>(X g\/g=w.heap.size)\/fv.ownBlock=some g) br bz B s j bad d a b c zs tv' u'->Rep W' (λg=>X g\/fv.ownBlock=some g) br bz B s j bad d a b c zs tv' u':=λa=>
  (a.o (f.mono (λ_ _ e=>.inl (.inr e)))).fe (λg hg=>by
   rcases hg with e|e
   .exact .inl (.inl (.inl e))
   .exact .inl (.inr e))
 cases hp:yp s (i+1) with
 |error k=>
  rw[hp]at hm;obtain⟨_,_,_,_,a⟩:=hm;exact⟨_,_,_,_,hX a⟩
 |ok q=>
  obtain⟨ds,j⟩:=q;rw[hp]at hm;obtain⟨h1,b,a⟩:=hm;exact⟨⟨rfl,h1,b,rfl,rfl⟩,hX a⟩
def XR{w1:World}(f:bt s i=101)(h:zC w w1 br bz tv u tv u)(st:zC w1 W br bz tv u tv u)(d:Fr W W' (λg=>g=w.heap.size))(hm:match xz s (i+1) with
  | .ok ((l,b),j)=>sb.data.toList.map UInt8.toNat=l.map Prod.fst/\o=(match b with|none=>-1|some (c,_)=>plc sb c)/\Rep W (λg=>X g\/g=w.heap.size) br bz B s j false (wrE l b wr) mx ts us zs tv u
  | .error k=>∃a,Rep W (λg=>X g\/g=w.heap.size) br bz B s k true a mx ts us zs tv u):wW w X br bz B s i wr mx ts us zs tv u (.returned (.agg (vz 101 (L_) sb o 0).toArray)) W':=by
 refine⟨101,_,sb,o,0,0,[],tv,u,rfl,(h.trans st).o d (λg hg=>M_),World.ownsRow_nil _ _ _ _,λg hg=>by simp[Value.ownBlock]at hg,?_⟩;rw[mp f];have hX:∀{j:Nat} {bad:Bool} {a:Int},Rep W (λg=>X g\/g=w.heap.size) br bz B s j bad a mx ts us zs tv u->Rep W' (λg=>X g\/(Value.slice none 0 0).ownBlock=some g) br bz B s j bad a mx ts us zs tv u:=λa=>
  (a.o (d.mono (λ_ _ e=>.inr e))).fe (λg hg=>by
   rcases hg with e|e
   .exact .inl (.inl e)
   .simp[Value.ownBlock]at e)
 cases hp:xz s (i+1) with
 |error k=>
  rw[hp]at hm;obtain⟨_,a⟩:=hm;exact⟨_,_,_,_,hX a⟩
 |ok q=>
  obtain⟨⟨l,b⟩,j⟩:=q;rw[hp]at hm;obtain⟨h1,b,a⟩:=hm;refine⟨⟨rfl,rfl,h1,b,rfl⟩,?_⟩;simpa[PB.wr,PB.mx,PB.ts,PB.us] using hX a
end
def cz{w:World}{X:Nat->Prop}{br bz B:Nat}{s:BA}{i:Nat}{wg mx:Int}{ts:List TR}{us:List (Nat×Nat)}{zs:List Value}{tv u:Value}(R:Rep w X br bz B s i false wg mx ts us zs tv u):Calls prog 38 #[P_ br] w (wW w X br bz B s i wg mx ts us zs tv u):=by
 have a:=R.sl;have q:Rep (w.alloc (.cells zR.toArray 44)) (λg=>X g\/g=w.heap.size) br bz B s i false wg mx ts us zs tv u:=(R.o ((A_ w X).alloc (.cells zR.toArray 44))).fe (λg hg=>by
  rcases hg with e|e
  .exact .inl e
  .exact .inr (by simp;omega))
 have K:=zy (⟨(A_ w _).alloc _,.inl rfl,.inl rfl⟩:zC w (w.alloc (.cells zR.toArray 44)) br bz tv u tv u);have b1:=zy (B_ w zR.toArray 44);replace q:=zy q;obtain⟨c,hc⟩:=x_ (bt s i);replace hc:=zy hc;obtain⟨a,H⟩:=y_ (wW w X br bz B s i wg mx ts us zs tv u);rw[<- H.o];by_cases a0:c=114
 .have hb:=zy (hc.o.trans a0);have m:i<s.size:=zc (by rw[hb.o];decide);subst a0;go_in;go_wp2_with (first
   |(go_at_call 36;apply(zK q hc).mono;rintro e I ⟨rfl,l⟩;have a:=q.o.si l;have r:=zy ((K.o.si l));have p:=zy (Blk.si b1 l);have c1:=a.here.c1;have N:=a.here.th 1;skip;replace a:=zy a)
   |(go_at_call 60;apply(eA (a.o.inc m).1).mono;rintro e F ⟨fv,cnt,xs,tv',u',rfl,f,G,V,h⟩;simp only[xr];have b:=f.fr.bl ((a.o.inc m).2.fr.bl p (a.o.offS (.inr rfl))) ((a.o.inc m).1.offS (.inr rfl));have r0:=b.cell 0;have r1:=b.cell 1;have C:=b.cell 2;have D:=b.cell 3;have E:=b.cell 4;obtain⟨O,Q,S,T,U⟩:=b.t5;simp only[zR,aa_,ab_]at r0 r1 C D E;obtain⟨J,sn,M,rfl⟩:=yG G;replace b:=zy b;replace f:=zy f;replace G:=zy G;replace V:=zy V;replace h:=zy h))
  have L:=G_ b (.int .u8 114) (.slice J sn M) (.string ⟨#[]⟩) (z_ (-1)) (O_);obtain⟨x,y,z,q3,A⟩:=L.d5;have t:=J_ F w.heap.size (.int .u8 114) (.slice J sn M) (.string ⟨#[]⟩) (z_ (-1)) (O_);generalize (((((World.setCell F ⟨w.heap.size,0,none⟩ (.int .u8 114)).setCell ⟨w.heap.size,1,none⟩ (.slice J sn M)).setCell ⟨w.heap.size,2,none⟩ (.string ⟨#[]⟩)).setCell ⟨w.heap.size,3,none⟩ (z_ (-1))).setCell ⟨w.heap.size,4,none⟩ (O_))=W5 at *;refine bodyPost_ret (v:=.agg (vz 114 (.slice J sn M) ⟨#[]⟩ (-1) 0).toArray) (by simp[results,results38,go_sem,x,y,z,q3,A,vz]) rfl ?_;rw[H.o];exact Qt (by have:=Blk.lt p;simp[World.setCell];omega) hb (r.o.trans (a.o.inc m).2) f G V t h
 .by_cases Y:c=101
  .have hb:=zy (hc.o.trans Y);have m:i<s.size:=zc (by rw[hb.o];decide);subst Y;go_in;go_wp2_with (first
    |(go_at_call 36;apply(zK q hc).mono;rintro e I ⟨rfl,l⟩;have a:=q.o.si l;have r:=zy ((K.o.si l));have p:=zy (Blk.si b1 l);have c1:=a.here.c1;have N:=a.here.th 1;skip;replace a:=zy a)
    |(go_at_call 61;apply(sj (a.o.inc m).1).mono;rintro e F ⟨sb,o,rfl,f,h⟩;simp only[za];have b:=f.fr.bl ((a.o.inc m).2.fr.bl p (a.o.offS (.inr rfl))) ((a.o.inc m).1.offS (.inr rfl));have r0:=b.cell 0;have r1:=b.cell 1;have C:=b.cell 2;have D:=b.cell 3;have E:=b.cell 4;obtain⟨O,Q,S,T,U⟩:=b.t5;simp only[zR,aa_,ab_]at r0 r1 C D E;replace b:=zy b;replace f:=zy f;replace h:=zy h))
   have L:=G_ b (.int .u8 101) (L_) (.string sb) (z_ o) (O_);obtain⟨x,y,z,q3,A⟩:=L.d5;have t:=J_ F w.heap.size (.int .u8 101) (L_) (.string sb) (z_ o) (O_);generalize (((((World.setCell F ⟨w.heap.size,0,none⟩ (.int .u8 101)).setCell ⟨w.heap.size,1,none⟩ (L_)).setCell ⟨w.heap.size,2,none⟩ (.string sb)).setCell ⟨w.heap.size,3,none⟩ (z_ o)).setCell ⟨w.heap.size,4,none⟩ (O_))=W5 at *;refine bodyPost_ret (v:=.agg (vz 101 (L_) sb o 0).toArray) (by simp[results,results38,go_sem,x,y,z,q3,A,vz]) rfl ?_;rw[H.o];exact XR hb (r.o.trans (a.o.inc m).2) f t h
  .by_cases Z:c=102
   .have hb:=zy (hc.o.trans Z);have m:i<s.size:=zc (by rw[hb.o];decide);subst Z;obtain⟨d,hd⟩:=x_ (bt s (i+1));replace hd:=zy hd;by_cases a3:48<=d/\d<=57
    .have n9:(decide ((48:Int)<=(d:Int))&&decide ((d:Int)<=57))=true:=by simp;omega
     obtain⟨i1,J⟩:=e_ (i+1);have a1:i1<s.size:=by rw[J];exact zc (by rw[hd.o];omega)
     replace J:=zy J;have hr:=zy (show yZ s i=.ok (.bytes (d-48),i+2) by rw[ww hb.o,hd.o,i_ a3]);have a8:H_ ((d:Int)-48=((d-48:Nat):Int)):=by show(d:Int)-48=((d-48:Nat):Int);omega
     go_in;go_wp2_with (first
      |(go_at_call 36;apply(zK q hc).mono;rintro e I ⟨rfl,l⟩;have a:=q.o.si l;have r:=zy ((K.o.si l));have p:=zy (Blk.si b1 l);have c1:=a.here.c1;have N:=a.here.th 1;replace a:=zy a)
      |(go_at_call 36;apply(zK (a.o.inc m).1 hd).mono;rintro e M ⟨rfl,G⟩;have f:=(a.o.inc m).1.si G;rw[<- J.o]at f;have F:=(r.o.trans (a.o.inc m).2).si G;have V:=Blk.si ((a.o.inc m).2.fr.bl p (a.o.offS (.inr rfl))) G;have a4:=f.here.c1;have a6:=f.here.th 1;have h:=(f.inc a1).2.fr.bl V (f.offS (.inr rfl));have r0:=h.cell 0;have r1:=h.cell 1;have C:=h.cell 2;have D:=h.cell 3;have E:=h.cell 4;obtain⟨O,Q,S,T,U⟩:=h.t5;simp only[zR,aa_,ab_]at r0 r1 C D E;replace h:=zy h;replace f:=zy f;replace F:=zy F)
      |(go_at_call 35;apply(ya _ _ _ _).mono;rintro e w' ⟨rfl,a2⟩;rw[a2,n9]))
     have L:=G_ h (.int .u8 102) (L_) (.string ⟨#[]⟩) (z_ (-1)) (z_ ((d:Int)-48));obtain⟨x,y,z,q3,A⟩:=L.d5;have t:=J_ (M.setCell ⟨br,1,none⟩ (z_ ((i1:Int)+1))) w.heap.size (.int .u8 102) (L_) (.string ⟨#[]⟩) (z_ (-1)) (z_ ((d:Int)-48));generalize (((((World.setCell (M.setCell ⟨br,1,none⟩ (z_ ((i1:Int)+1))) ⟨w.heap.size,0,none⟩ (.int .u8 102)).setCell ⟨w.heap.size,1,none⟩ (L_)).setCell ⟨w.heap.size,2,none⟩ (.string ⟨#[]⟩)).setCell ⟨w.heap.size,3,none⟩ (z_ (-1))).setCell ⟨w.heap.size,4,none⟩ (z_ ((d:Int)-48)))=W5 at *;refine bodyPost_ret (v:=.agg (vz 102 (L_) ⟨#[]⟩ (-1) ((d:Int)-48)).toArray) (by simp[results,results38,go_sem,x,y,z,q3,A,vz]) rfl ?_;rw[H.o];exact gP R (f.o.inc a1).1 (F.o.trans (f.o.inc a1).2) t (.inr ⟨d-48,rfl,by rw[J.o];exact hr,rfl,rfl,a8⟩)
    .have n9:(decide ((48:Int)<=(d:Int))&&decide ((d:Int)<=57))=false:=by simp;omega
     have hr:=zy (show yZ s i=.error (i+1) by rw[ww hb.o,hd.o,n_ a3]);go_in;go_wp2_with (first
      |(go_at_call 36;apply(zK q hc).mono;rintro e I ⟨rfl,l⟩;have a:=q.o.si l;have r:=zy ((K.o.si l));have p:=zy (Blk.si b1 l);have c1:=a.here.c1;have N:=a.here.th 1;replace a:=zy a)
      |(go_at_call 36;apply(zK (a.o.inc m).1 hd).mono;rintro e M ⟨rfl,G⟩;have f:=(a.o.inc m).1.si G;have F:=(r.o.trans (a.o.inc m).2).si G;have V:=Blk.si ((a.o.inc m).2.fr.bl p (a.o.offS (.inr rfl))) G;have a7:=f.here.th 2;have a5:=f.here.c2;have h:=f.sp.2.fr.bl V (f.offS (.inr rfl));have r0:=h.cell 0;have r1:=h.cell 1;have C:=h.cell 2;have D:=h.cell 3;have E:=h.cell 4;obtain⟨O,Q,S,T,U⟩:=h.t5;simp only[zR,aa_,ab_]at r0 r1 C D E;replace h:=zy h;replace f:=zy f;replace F:=zy F)
      |(go_at_call 35;apply(ya _ _ _ _).mono;rintro e w' ⟨rfl,a2⟩;rw[a2,n9]))
     have L:=G_ h (.int .u8 0) (L_) (.string ⟨#[]⟩) (O_) (O_);obtain⟨x,y,z,q3,A⟩:=L.d5;have t:=J_ (M.setCell ⟨br,2,none⟩ (.bool true)) w.heap.size (.int .u8 0) (L_) (.string ⟨#[]⟩) (O_) (O_);generalize (((((World.setCell (M.setCell ⟨br,2,none⟩ (.bool true)) ⟨w.heap.size,0,none⟩ (.int .u8 0)).setCell ⟨w.heap.size,1,none⟩ (L_)).setCell ⟨w.heap.size,2,none⟩ (.string ⟨#[]⟩)).setCell ⟨w.heap.size,3,none⟩ (O_)).setCell ⟨w.heap.size,4,none⟩ (O_))=W5 at *;refine bodyPost_ret (v:=.agg (vz 0 (L_) ⟨#[]⟩ 0 0).toArray) (by simp[results,results38,go_sem,x,y,z,q3,A,vz]) rfl ?_;rw[H.o];exact gP R f.o.sp.1 (F.o.trans f.o.sp.2) t (.inl ⟨rfl,hr⟩)
   .have hr:=zy (lR (by rw[hc.o];exact a0) (by rw[hc.o];exact Y) (by rw[hc.o];exact Z));have f:((c:Int) != 114)=true:=by simp;omega
    have f:((c:Int) != 101)=true:=by simp;omega
    have n3:((c:Int) != 102)=true:=by simp;omega
    go_in;go_wp2_with (go_at_call 36;apply(zK q hc).mono;rintro e I ⟨rfl,l⟩;have a:=q.o.si l;have r:=(K.o.si l);have p:=Blk.si b1 l;have f2:=a.here.th 2;have c2:=a.here.c2;have b:=a.sp.2.fr.bl p (a.offS (.inr rfl));have r0:=b.cell 0;have r1:=b.cell 1;have C:=b.cell 2;have D:=b.cell 3;have E:=b.cell 4;obtain⟨O,Q,S,T,U⟩:=b.t5;simp only[zR,aa_,ab_]at r0 r1 C D E;replace b:=zy b;replace a:=zy a;replace r:=zy r);have L:=G_ b (.int .u8 0) (L_) (.string ⟨#[]⟩) (O_) (O_);obtain⟨x,y,z,q3,A⟩:=L.d5;have t:=J_ (I.setCell ⟨br,2,none⟩ (.bool true)) w.heap.size (.int .u8 0) (L_) (.string ⟨#[]⟩) (O_) (O_);generalize (((((World.setCell (I.setCell ⟨br,2,none⟩ (.bool true)) ⟨w.heap.size,0,none⟩ (.int .u8 0)).setCell ⟨w.heap.size,1,none⟩ (L_)).setCell ⟨w.heap.size,2,none⟩ (.string ⟨#[]⟩)).setCell ⟨w.heap.size,3,none⟩ (O_)).setCell ⟨w.heap.size,4,none⟩ (O_))=W5 at *;refine bodyPost_ret (v:=.agg (vz 0 (L_) ⟨#[]⟩ 0 0).toArray) (by simp[results,results38,go_sem,x,y,z,q3,A,vz]) rfl ?_;rw[H.o];exact gP R a.o.sp.1 (r.o.trans a.o.sp.2) t (.inl ⟨rfl,hr⟩)
def jK(seen:List Nat):List PD->Int->Int
 | [],m=>m
 |d::r,m=>jK (seen++[d.letter]) r (if d.letter∈seen then zX d.place (d.body.wr m) else d.body.wr m)
def jP(ds:List PD)(m:Int):Int:=ds.foldl (λm d=>d.body.mx m) m
def yS(b:Nat):List PD->List TR
 | []=>[]
 |d::r=>d.body.ts b++yS (b+(d.body.ts b).length) r
def vS:List PD->List (Nat×Nat)
 | []=>[]
 |d::r=>d.body.us++vS r
def rR(a:List Nat)(ds:List PD)(d:PD)(m:Int):jK a (ds++[d]) m=if d.letter∈a++ds.map PD.letter then zX d.place (d.body.wr (jK a ds m)) else d.body.wr (jK a ds m):=by
 induction ds generalizing a m with
 |nil=>simp[jK]
 |cons x r ih=>rw[bi_,jK,jK,ih,by_];rfl
def rI(ds:List PD)(d:PD)(m:Int):jP (ds++[d]) m=d.body.mx (jP ds m):=by simp[jP]
def rS(b:Nat)(ds:List PD)(d:PD):yS b (ds++[d])=yS b ds++d.body.ts (b+(yS b ds).length):=by
 induction ds generalizing b with
 |nil=>simp[yS]
 |cons x r ih=>simp only[bi_,yS,ih,by_,ai_,br_]
def rD(ds:List PD)(d:PD):vS (ds++[d])=vS ds++d.body.us:=by
 induction ds with
 |nil=>simp[vS]
 |cons x r ih=>simp[vS,ih]
def xR(b c:Nat):List PD->Option (PB×Nat)
 | []=>none
 |d::r=>if d.letter=c then some (d.body,b) else xR (b+(d.body.ts b).length) c r
def pM(b c:Nat)(ds:List PD)(d:PD):xR b c (ds++[d])=match xR b c ds with|some x=>some x|none=>if d.letter=c then some (d.body,b+(yS b ds).length) else none:=by
 induction ds generalizing b with
 |nil=>simp[xR,yS]
 |cons x r ih=>
  simp only[bi_,xR];by_cases h:x.letter=c
  .rw[i_ h,i_ h]
  .rw[n_ h,n_ h,ih];simp only[yS,ai_,br_]
def pC(b c:Nat)(ds:List PD):xR b c ds=none↔c∉ds.map PD.letter:=by
 induction ds generalizing b with
 |nil=>simp[xR]
 |cons x r ih=>
  simp only[xR];by_cases h:x.letter=c
  .rw[i_ h];simp[h]
  .rw[n_ h,ih];simp[Ne.symm h]
def xe(W:World)(X:Nat->Prop)(B:Nat)(s:BA)(zs:List Value)(ds:List PD):Prop:=
 zs.length=31/\∀k,k<6->∃(so:Int) (fv:Value) (sb:BA) (o n:Int) (cnt:Nat) (xs:List Value),(∀p,p<5->zs[5*k+p]?=(vz so fv sb o n)[p]?)/\W.ownsRow B 113 10 fv cnt xs/\(∀g,fv.ownBlock=some g->X g)/\
  match xR 0 (65+k) ds with
  |none=>so=0/\cnt=0
  |some (pb,b)=>dy s b pb so cnt xs sb o n
def dy.sort{s:BA}{b:Nat}{pb:PB}(h:dy s b pb so cnt xs sb o n):so≠0:=by
 cases pb with
 |recd ds=>have:=h.1;omega
 |enum l u=>have:=h.1;omega
 |bytes k=>have:=h.1;omega
def xe.step{W W':World}{X:Nat->Prop}{br bz B:Nat}{s:BA}{zs:List Value}{j:Nat}{bad:Bool}{wr mx:Int}{ts:List TR}{us:List (Nat×Nat)}{a:List Value}{tv u tv' u':Value}(h:xe W X B s zs ds)(R:Rep W X br bz B s j bad wr mx ts us a tv u)(st:zC W W' br bz tv u tv' u'):xe W' X B s zs ds:=by
 refine⟨h.1,λk hk=>?_⟩;obtain⟨so,fv,sb,o,n,cnt,xs,h1,b,a,c⟩:=h.2 k hk;exact⟨so,fv,sb,o,n,cnt,xs,h1,zj b st.fr (λg hg=>R.offS (a g hg)),a,c⟩
def cH(zs:List Value)(o:Nat)(v0 v1 v2 v3 v4:Value):List Value:=((((zs.set o v0).set (o+1) v1).set (o+2) v2).set (o+3) v3).set (o+4) v4
def Kn{zs:List Value}{o:Nat}(h:o+5<=zs.length)(a b c d e:Value)(p:Nat)(hp:p<5):(cH zs o a b c d e)[o+p]?=[a,b,c,d,e][p]?:=by
 unfold cH
 match p,hp with
 | 0,_=>simp[bg_];omega
 | 1,_=>simp[bg_];omega
 | 2,_=>simp[bg_];omega
 | 3,_=>simp[bg_];omega
 | 4,_=>simp[bg_];omega
def VE{zs:List Value}{o q:Nat}(a b c d e:Value)(f:q<o\/o+5<=q):(cH zs o a b c d e)[q]?=zs[q]?:=by
 unfold cH;rw[bq_ M_,bq_ M_,bq_ M_,bq_ M_,bq_ M_]
def se(zs:List Value)(o:Nat)(a b c d e:Value):(cH zs o a b c d e).length=zs.length:=by simp[cH]
def xe.add{W:World}{X Y:Nat->Prop}{B:Nat}{s:BA}{zs:List Value}{d:PD}{k:Nat}{fv:Value}(h:xe W X B s zs ds)(hk:k<6)(hd:d.letter=65+k)(f:xR 0 (65+k) ds=none)(q:∀g,X g->Y g)(own:W.ownsRow B 113 10 fv cnt xs)(c:∀g,fv.ownBlock=some g->Y g)(a:dy s (yS 0 ds).length d.body so cnt xs sb o n):xe W Y B s (cH zs (5*k) (.int .u8 so) fv (.string sb) (z_ o) (z_ n)) (ds++[d]):=by
 refine⟨by rw[se];exact h.1,λb r=>?_⟩;by_cases e:b=k
 .subst e;refine⟨so,fv,sb,o,n,cnt,xs,λp hp=>Kn (by rw[h.1];omega) _ _ _ _ _ p hp,own,c,?_⟩;rw[pM,f];simp only[hd,if_true,bn_];exact a
 .obtain⟨z,f,y,v,t,c,xs',h1,l,m,a⟩:=h.2 b r;refine⟨z,f,y,v,t,c,xs',λp hp=>by rw[VE _ _ _ _ _ M_];exact h1 p hp,l,λg hg=>q g (m g hg),?_⟩;rw[pM];cases hl:xR 0 (65+b) ds with
  |some x=>rw[hl]at a;exact a
  |none=>
   rw[hl]at a;rw[n_ M_];exact a
def xe.again{W:World}{X Y:Nat->Prop}{B:Nat}{s:BA}{zs:List Value}{d:PD}{k:Nat}{x:PB×Nat}(h:xe W X B s zs ds)(hd:d.letter=65+k)(r:xR 0 (65+k) ds=some x)(p:∀g,X g->Y g):xe W Y B s zs (ds++[d]):=by
 refine⟨h.1,λb q=>?_⟩;obtain⟨z,f,y,v,t,c,xs',h1,l,m,a⟩:=h.2 b q;refine⟨z,f,y,v,t,c,xs',h1,l,λg hg=>p g (m g hg),?_⟩;rw[pM];cases hl:xR 0 (65+b) ds with
 |some x=>rw[hl]at a;exact a
 |none=>
  rw[hl]at a;have c:¬(d.letter=65+b):=λe=>by rw[hd]at e;obtain rfl:k=b:=M_;rw[r]at hl;cases hl
  rw[n_ c];exact a
def Rep.setZ{w:World}{X:Nat->Prop}{br bz B:Nat}{s:BA}{i:Nat}{bad:Bool}{wr mx:Int}{ts:List TR}{us:List (Nat×Nat)}{zs:List Value}{tv u:Value}(R:Rep w X br bz B s i bad wr mx ts us zs tv u)(o:Nat)(v:Value):Rep (w.setCell ⟨bz,o+1,none⟩ v) X br bz B s i bad wr mx ts us (zs.set o v) tv u/\zC w (w.setCell ⟨bz,o+1,none⟩ v) br bz tv u tv u:=by
 have hf:Fr w (w.setCell ⟨bz,o+1,none⟩ v) (λg=>g=bz):=(A_ w (λg=>g=bz)).setCell ⟨bz,o+1,none⟩ v (λ_=>rfl);have f:zC w (w.setCell ⟨bz,o+1,none⟩ v) br bz tv u tv u:=⟨hf.mono (λ_ _ e=>.inr (.inl e)),.inl rfl,.inl rfl⟩;have hz:Blk (w.setCell ⟨bz,o+1,none⟩ v) bz (tv::zs.set o v) 47:=T_ R.z (o+1) v;refine⟨⟨hf.bl R.here R.rz,hz,?_,zj R.uses hf (λg hg e=>jF R.uses R.zB (e▸hg)),R.apart,R.rB,R.zB,ak_ R.hB hf.size,R.rz,R.il,R.sl,R.tl,R.ul,λg hg=>⟨bb_ (R.av g hg).1 hf.size,(R.av g hg).2⟩⟩,f⟩;obtain⟨xs,hx,hk⟩:=R.tys;refine⟨xs,zj hx hf (λg hg e=>jF hx R.zB (e▸hg)),λk t h=>?_⟩;obtain⟨sv,a,b,c,d⟩:=hk k t h;exact⟨sv,a,b,f.subs c R.rB R.zB,d⟩
def xe.root{W:World}{X:Nat->Prop}{B:Nat}{s:BA}{zs:List Value}(h:xe W X B s zs ds)(v:Value):xe W X B s (zs.set 30 v) ds:=by
 refine⟨by rw[bh_];exact h.1,λk hk=>?_⟩;obtain⟨so,fv,sb,o,n,cnt,xs,h1,a,b,c⟩:=h.2 k hk;exact⟨so,fv,sb,o,n,cnt,xs,λp hp=>by rw[bq_ M_];exact h1 p hp,a,b,c⟩
def Rep.setDef{w:World}{X:Nat->Prop}{br bz B:Nat}{s:BA}{i:Nat}{bad:Bool}{wr mx:Int}{ts:List TR}{us:List (Nat×Nat)}{zs:List Value}{tv u:Value}(R:Rep w X br bz B s i bad wr mx ts us zs tv u)(o:Nat)(a b c d e:Value):Rep (((((w.setCell ⟨bz,o+1,none⟩ a).setCell ⟨bz,o+1+1,none⟩ b).setCell ⟨bz,o+2+1,none⟩ c).setCell ⟨bz,o+3+1,none⟩ d).setCell ⟨bz,o+4+1,none⟩ e) X br bz B s i bad wr mx ts us (cH zs o a b c d e) tv u/\
  zC w (((((w.setCell ⟨bz,o+1,none⟩ a).setCell ⟨bz,o+1+1,none⟩ b).setCell ⟨bz,o+2+1,none⟩ c).setCell ⟨bz,o+3+1,none⟩ d).setCell ⟨bz,o+4+1,none⟩ e) br bz tv u tv u:=by
 have h0:=R.setZ o a;have h1:=h0.1.setZ (o+1) b;have a:=h1.1.setZ (o+2) c;have b:=a.1.setZ (o+3) d;have c:=b.1.setZ (o+4) e;exact⟨c.1,(((h0.2.trans h1.2).trans a.2).trans b.2).trans c.2⟩
end Go.Proofs.YtjkiencmjggakaaGreatDoor
