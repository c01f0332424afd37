import Derived.Test.YtiifagiebikmdaaGreatDoorW39
import Derived.Test.YtiifagiebikmdaaGreatDoorW28
import Derived.Test.YtiifagiebikmdaaGreatDoorW23
import Derived.Test.YtiifagiebikmdaaGreatDoorW17
import Derived.Test.YtiifagiebikmdaaGreatDoorW27
import Derived.Test.YtiifagiebikmdaaGreatDoorW18
import Derived.Test.YtiifagiebikmdaaGreatDoorA00
set_option maxHeartbeats 16000000
set_option maxRecDepth 100000
set_option linter.unusedSimpArgs false
open Go.Proofs.Tryz
namespace Go.Proofs.YtiifagiebikmdaaGreatDoor
open Go.RowKit
variable {pt:Int}{c:Nat}
section
variable {w0 w:World} {P:Nat->Prop} {ss:BA} {ds:List PD} {sv rv:Value} {xs:List Value} {s:BA} {E:WErr} {br i n:Nat}
theorem zn6 {l:List PT}{p f:Nat}{J:Value}{X:Nat->Value}(hI:xr_ w0) (M:YC w0 P ss ds sv rv xs s E br i n w) (hn:n<=300) (hl:l.length<=4000) (ho:w.ownsRow 0 83 1 J l.length ((List.range l.length).map X)) (hP:∀ g,J.ownBlock=some g->P g) (Q:∀ i t,l[i]?=some t->TyV w P t (X i)) (N:∀ t∈l,∀ j,j<=s.size->DatY w0 P ss ds sv rv xs s E br f t j n) :
 Calls prog 130 #[.pointer (some ⟨br,0,none⟩),.agg #[.int .i64 pt,J]] w (yv_ (zc_ ds) (.alts p l) w sv rv s E br (v5_ (rdB s (zc_ ds) f) s l i n)):=by
 refine hq_ λ b5 b=>?_;have b7:=M.lt;have a3:=M.brP;obtain⟨fa,K,rfl⟩:=zo_ ho;have A:Fr w (w.alloc (.cells #[.int .i64 pt,.slice fa l.length K] 220)) (λ _=>False):=(Fr.refl w _).alloc _;have B:=M.new A;have I:=Blk.new w #[.int .i64 pt,.slice fa l.length K] 220;have r:=ze6 hl B.R B.hs B.il B.err;have d0:=M.hs;unfold v5_ at b
 cases hb:bNum s 0 ((l.length:Int)-1) i with
 | none=>
  rw[hb] at r b;replace r:=q_ r;replace A:=q_ A;clear M B I hb ho Q N hP
  go_in
  go_wp2_with (go_at_call 157;refine r.o.mono ?_;rintro e w1 ⟨h,rfl,j,U,h1⟩;replace h:=q_ h;replace h1:=q_ h1)
  try go_ret
  rw[b.o];exact ybad ((A.o.mono v_).trans h.o u_) ⟨j,n,h1.o,U⟩
 | some q=>
  obtain⟨v,j⟩:=q;have hg:=y2_ hb;obtain⟨k,rfl⟩:∃ m:Nat,v=(m:Int):=⟨v.toNat,by omega⟩;rw[hb] at r b;simp only[bm_] at b
  have V:k<l.length:=by omega
  have a2:k<=4000:=by omega
  have b9:(k:Int)<(l.length:Int):=by omega
  have hd:l[k]?=some l[k]:=an_ V;have W:l[k]∈l:=a0_ V;rw[hd] at b;have a5:H_ (xl_ (zc_ ds) (.alts p l) k 0=l[k]):=q_ (by simp[xl_,bd_,hd]);generalize l[k]=t at hd W b a5;simp only at b;have O:=Q k t hd;obtain⟨T,x,Z⟩:=O.iface;obtain⟨g,b6,a9⟩:=zh_ ho (by omega);cases a9;have S:H_ (∀ w1,Fr w w1 (· = br)->w1.cell? ⟨g,k,none⟩=some (.iface T x)/\TyV w1 P t (.iface T x)):=q_ (λ w1 y=>⟨by rw[zp_ (za_ ho y (λ g' hg e=>a3 (e▸hP g' hg))) rfl (k:=k) (x:=X k) (by simp[V]),Z],Z▸O.fr y (λ g' hg e=>a3 (e▸hg))⟩);have H:=q_ (λ w1 (h1:RwAt w1 br sv rv s j n) (y:Fr w w1 (· = br))=>N t W j (by omega) w1 _ (M.call h1 y (by omega)) hn (S.o w1 y).2);have hB:=q_ (λ w1 (y:Fr (w.alloc (.cells #[.int .i64 pt,.slice (some ⟨g,0,none⟩) l.length K] 220)) w1 (· = br))=>y.blk I (by omega));replace r:=q_ r;replace A:=q_ A;have hG:=q_ (λ w1 (h1:RwAt w1 br sv rv s j n) (y:Fr w w1 (· = br))=>M.call h1 y (by omega));clear M B hb ho Q N hP O Z W hd I
  cases a4:rdB s (zc_ ds) f t j n with
  | error e0=>
   rw[a4] at b H
   go_in
   go_wp2_with (first
    |(go_at_call 157;refine r.o.mono ?_;rintro e w1 ⟨h,rfl,U,h1⟩;have a:=(A.o.mono (T:=λ g=>g=br) v_).trans h u_;have c1:=(S.o w1 a).1;have b1:=(hB.o w1 h).c1;have L:=q_ (H.o w1 h1 a);have hM:=q_ (hG.o w1 h1 a);replace a:=q_ a;clear h h1)
    |(go_at_call 66;refine L.o.mono ?_;rintro e w2 ⟨v2,a6,rfl,z,Y,D,u⟩;subst Y;obtain⟨eT,ex,rfl⟩:=D.iface;have a8:=(hM.o.call u.choose_spec.choose_spec.1 z u.choose_spec.choose_spec.2).G;have hz:=q_ z.size;replace D:=q_ D;replace z:=q_ z;replace u:=q_ u)
    |(go_at_call 158;refine(zed (n:=k) hI a8 a2).mono ?_;rintro e w3 a0;have a7:=q_ (λ v (he:e=.returned v)=>D.o.wrap a0 (by have:=hz.o;omega) he);obtain⟨g3,d1,rfl,b8,a1,F⟩:=a0;replace F:=q_ F;replace a1:=q_ a1))
   try go_ret
   rw[b.o];refine⟨_,_,rfl,(a.o.trans z.o u_).trans (F.o.mono v_) u_,rfl,(a7.o _ rfl).less (by have:=a.o.size;omega),?_⟩;obtain⟨j2,m2,h1,h2⟩:=u.o;exact⟨j2,m2,F.o.blk h1 id,h2⟩
  | ok q=>
   obtain⟨d,j2,m2⟩:=q;rw[a4] at b H
   go_in
   go_wp2_with (first
    |(go_at_call 157;refine r.o.mono ?_;rintro e w1 ⟨h,rfl,U,h1⟩;have a:=(A.o.mono (T:=λ g=>g=br) v_).trans h u_;have c1:=(S.o w1 a).1;have b1:=(hB.o w1 h).c1;have L:=q_ (H.o w1 h1 a);replace a:=q_ a;clear h h1)
    |(go_at_call 66;refine L.o.mono ?_;rintro e w2 ⟨v2,a6,rfl,z,Y,C,u,b4⟩;subst Y;obtain⟨dT,dx,rfl⟩:=C.iface;replace C:=q_ C;replace z:=q_ z;replace u:=q_ u))
   try go_ret
   rw[b.o];have hz:=a.o.size;refine yok (.branch k a2 ?_) (a.o.trans z.o u_) u.o b4;rw[a5.o];exact C.o.mono (λ g _ hg=>by omega)
theorem zlh {l:List (Nat×Nat)}{t:PT}{B:Value}{dd:Option Addr}(M:YC w0 P ss ds sv rv xs s E br i n w) (hl:l.length<=300) (O:∀ q∈l,zi_ q.1=true) (ho:w.ownsRow 0 146 2 B l.length (yp_ l)) (hP:∀ g,B.ownBlock=some g->P g) (I:∀ k,symL (zc_ ds) t k=(l.map Prod.fst).getD k 0) :
 Calls prog 132 #[.pointer (some ⟨br,0,none⟩),.agg #[.int .i64 pt,B,.pointer dd]] w (yv_ (zc_ ds) t w sv rv s E br (match bNum s 0 ((l.length:Int)-1) i with|none=>.error 6|some (q,j)=>.ok (.mk 101 q noB [] [],j,n))):=by
 refine hq_ λ a0 x=>?_;have a2:=M.lt;have Y:=M.brP;obtain⟨K,C,rfl⟩:=zo_ ho;have A:Fr w (w.alloc (.cells #[.int .i64 pt,.slice K l.length C,.pointer dd] 216)) (λ _=>False):=(Fr.refl w _).alloc _;have h:=M.new A;have z:=Blk.new w #[.int .i64 pt,.slice K l.length C,.pointer dd] 216;have b:=ze6 (m:=l.length) (by omega) h.R h.hs h.il h.err;have a5:=M.hs
 cases hb:bNum s 0 ((l.length:Int)-1) i with
 | none=>
  rw[hb] at b x;replace b:=q_ b;replace A:=q_ A;clear M h z hb ho hP I
  go_in
  go_wp2_with (go_at_call 157;refine b.o.mono ?_;rintro e w1 ⟨d,rfl,j,F,h1⟩;replace d:=q_ d;replace h1:=q_ h1)
  try go_ret
  rw[x.o];exact ybad ((A.o.mono v_).trans d.o u_) ⟨j,n,h1.o,F⟩
 | some q=>
  obtain⟨v,j⟩:=q;have hg:=y2_ hb;obtain⟨k,rfl⟩:∃ m:Nat,v=(m:Int):=⟨v.toNat,by omega⟩;rw[hb] at b x
  have N:k<l.length:=by omega
  have X:k<=4000:=by omega
  have a4:(k:Int)<(l.length:Int):=by omega
  have hd:l[k]?=some l[k]:=an_ N;have H:l[k]∈l:=a0_ N
  have r:symL (zc_ ds) t k=l[k].1:=by rw[I k];simp[bd_,hd]
  generalize l[k]=c at hd H r;obtain⟨y,cp⟩:=c;have L:=O _ H;obtain⟨kk,G,a3⟩:=zb5 L;simp only at r G
  have U:y<256:=by omega
  obtain⟨g,a1,W⟩:=zh_ ho (by omega);cases W;have V:H_ (∀ w1,Fr w w1 (· = br)->w1.cell? ⟨g,k*2+1,none⟩=some (.int .u8 (y:Int))):=q_ (λ w1 D=>zp_ (za_ ho D (λ g' hg e=>Y (e▸hP g' hg))) rfl (vw_ hd).2);have hB:=q_ (λ w1 (D:Fr (w.alloc (.cells #[.int .i64 pt,.slice (some ⟨g,0,none⟩) l.length C,.pointer dd] 216)) w1 (· = br))=>D.blk z (by omega));replace b:=q_ b;replace A:=q_ A;replace r:=q_ r;replace G:=q_ G;clear M h hb ho hP H hd z I O L
  go_in
  go_wp2_with (go_at_call 157;refine b.o.mono ?_;rintro e w1 ⟨d,rfl,F,h1⟩;have u:=(A.o.mono (T:=λ g=>g=br) v_).trans d u_;have c1:=(V.o w1 u);have b1:=(hB.o w1 d).c1;replace u:=q_ u;replace h1:=q_ h1;clear d)
  try go_ret
  rw[x.o];refine yok (.flat (.sym k y X) (λ n' Z e=>?_)) u.o h1.o F
  injection e with _ e
  injection e with e
  have J:=congrArg (λ a=>a.toList) e;simp only[List.cons.injEq,Value.int.injEq,true_and,and_true] at J;obtain⟨e3,e4⟩:=J
  have Q:y=Z:=by omega
  have S:k=n':=by omega
  subst Q;subst S;exact⟨r.o,U⟩
theorem zn8 {k:Nat}{t:PT}(M:YC w0 P ss ds sv rv xs s E br i n w) (hk:k<=9) :
 Calls prog 133 #[.pointer (some ⟨br,0,none⟩),.agg #[.int .i64 pt,.int .i64 (k:Int)]] w (yv_ (zc_ ds) t w sv rv s E br (match vt_ s i k with|none=>.error 6|some (tx,j)=>.ok (.mk 102 0 tx [] [],j,n))):=by
 refine hq_ λ r g=>?_;have A:Fr w (w.alloc (.cells #[.int .i64 pt,.int .i64 (k:Int)] 233)) (λ _=>False):=(Fr.refl w _).alloc _;have d:=M.new A;have a:=zd8 (m:=k) d.R d.hs d.il (by omega) d.err;have u:=M.hs;have l:=M.il;clear M d;replace A:=q_ A
 cases hb:vt_ s i k with
 | none=>
  rw[hb] at a g;replace a:=q_ a;clear hb
  go_in
  go_wp2_with (go_at_call 159;refine a.o.mono ?_;rintro e w1 ⟨b,rfl,j,h,h1⟩;replace b:=q_ b;replace h1:=q_ h1)
  try go_ret
  rw[g.o];exact ybad ((A.o.mono v_).trans b.o u_) ⟨j,n,h1.o,h⟩
 | some q=>
  obtain⟨tx,j⟩:=q;have hg:=zbx l hb;rw[hb] at a g;replace a:=q_ a;clear hb
  go_in
  go_wp2_with (go_at_call 159;refine a.o.mono ?_;rintro e w1 ⟨b,rfl,h,h1⟩;replace b:=q_ b;replace h1:=q_ h1)
  try go_ret
  rw[g.o];exact yok (DaV.plain (.bytes tx (by omega)) (by decide)) ((A.o.mono v_).trans b.o u_) h1.o h
end
open Go.RowKit
def zzj (R_:Except Nat (List DT×Nat×Nat)) (R:PT->Nat->Nat->Except Nat (DT×Nat×Nat)) (fs:List PF) (n:Nat) (w0:World) (P:Nat->Prop) (ss:BA) (ds:List PD) (sv rv:Value) (xs:List Value) (s:BA) (E:WErr) (br:Nat) (cx:List Value) (ct:TypeId) (t:PT) (w:World) (q:Nat) (v6 v14:Value) (W:World):Prop:=
 ∃ (l:List DT) (j nn:Nat),v14=.int .i64 (l.length:Int)/\l.length<=fs.length/\n<=nn/\nn<=300/\302<=q+l.length/\H_ (YL w0 P ss ds sv rv xs s E br j nn cx ct t w v6 l W)/\R_=zej l (yu_ R ((fs.map PF.ty).drop l.length) j nn)
section
variable {w0 w:World} {P:Nat->Prop} {ss:BA} {ds:List PD} {sv rv:Value} {xs:List Value} {s:BA} {E:WErr} {br i n:Nat}
def recI:Except Nat (List DT×Nat×Nat)->Except Nat (DT×Nat×Nat)
 | .error e=>.error e
 | .ok (l,j,m)=>.ok (.mk 114 0 noB [] l,j,m)
theorem zli {fs:List PF}{t:PT}{f:Nat}{fv:Value}{zs:List Value}(M:YC w0 P ss ds sv rv xs s E br i n w) (hn:n<=300) (I:j8_ w P ss fs fv zs) (a7:∀ g∈fs,zi_ g.letter=true) (h8:fs.length<=300) (a8:∀ k g,fs[k]?=some g->xl_ (zc_ ds) t 0 k=g.ty) (hR:∀ g∈fs,∀ j nn,n<=nn->nn<=300->j<=s.size->DatY w0 P ss ds sv rv xs s E br f g.ty j nn) :
 Calls prog 131 #[.pointer (some ⟨br,0,none⟩),.agg #[.int .i64 pt,fv]] w (yv_ (zc_ ds) t w sv rv s E br (recI (yu_ (rdB s (zc_ ds) f) (fs.map PF.ty) i n))):=by
 refine hq_ λ g8 Z=>?_;have i0:=M.hs;have e7:=M.lt;have f8:=M.brP;obtain⟨C,D,rfl⟩:=zo_ I.row;have A:Fr w (w.alloc (.cells #[.int .i64 pt,.slice C fs.length D] 211)) (λ _=>False):=(Fr.refl w _).alloc _;have M0:=M.new A;have U:=Blk.new w #[.int .i64 pt,.slice C fs.length D] 211;obtain⟨R_,J⟩:∃ g6,g6=yu_ (rdB s (zc_ ds) f) (fs.map PF.ty) i n:=⟨_,rfl⟩;rw[<- J] at Z;have d9:H_ (zzj R_ (rdB s (zc_ ds) f) fs n w0 P ss ds sv rv xs s E br [.int .i64 pt,.slice C fs.length D] 211 t w 302 (.slice none 0 0) (.int .i64 0) (w.alloc (.cells #[.int .i64 pt,.slice C fs.length D] 211))):=q_ ⟨[],i,n,rfl,by simp,l_,hn,by simp,q_ ⟨M0,A.mono v_,U,by simp,e7,RowT.nil _ _ _ _ _⟩,by rw[zhf,J];rfl⟩;replace J:=q_ J;replace hR:=q_ hR;replace I:=q_ I;replace a7:=q_ a7;replace a8:=q_ a8;have b7:=U.c1;clear M M0 A U
 go_in
 go_wp2_with fail
 go_loopg [6,8,9,10,14] 302 (λ q v6 v8 v9 i2 g7 W=>zzj R_ (rdB s (zc_ ds) f) fs n w0 P ss ds sv rv xs s E br [.int .i64 pt,.slice C fs.length D] 211 t w q v6 g7 W)
 case atStart=>exact d9.o
 case round=>
  clear d9 b7;obtain⟨l,j,nn,rfl,h7,f9,a4,hq,b,m⟩:=hrel;obtain⟨Y,y,K⟩:=b.o.row;obtain⟨la,lc,rfl⟩:=zo_ y
  by_cases d1:l.length=fs.length
  ·have f6:¬ (l.length:Int)<(fs.length:Int):=by omega
   have hr:=q_ (show R_=.ok (l,j,nn) by rw[m,List.drop_of_length_le (by simp;omega)];simp[yu_,zej]);have b5:=q_ b.o.row;clear m y K d1
   go_wp2_with fail
   try go_ret
   rw[Z.o,hr.o];refine yok ?_ b.o.fr b.o.M.R b.o.M.il;exact b5.o.dat (λ g _ hg=>by omega) (λ g e=>by have:=b5.o;obtain⟨_,a,_⟩:=this;have:=(a.lt g e).1;show w.heap.size<=g;omega) (.inr ⟨rfl,rfl⟩)
  ·have f6:(l.length:Int)<(fs.length:Int):=by omega
   have a2:l.length<fs.length:=by omega
   have hd:fs[l.length]?=some fs[l.length]:=an_ a2;have F:fs[l.length]∈fs:=a0_ a2
   have b9:(fs.map PF.ty).drop l.length=fs[l.length].ty::(fs.map PF.ty).drop (l.length+1):=by
    rw[a7_ (by simpa using a2),List.getElem_map]
   rw[b9,zgj] at m;generalize fs[l.length]=g0 at hd F m;have a1:=I.o.fr b.o.fr (λ g hg e=>f8 (e▸hg));obtain⟨gz,g9,e8⟩:=zh_ a1.row (by omega);cases e8;obtain⟨T,x,d0,c0,c1,c2,c3,hT,e3⟩:=a1.cells hd;obtain⟨lt,a3⟩:∃ l,g0.letter=l:=⟨_,rfl⟩;obtain⟨b4,d7⟩:∃ q,g0.place=q:=⟨_,rfl⟩
   have f5:zi_ lt=true:=by rw[<- a3];exact a7.o _ F
   rw[a3] at c1;rw[d7] at c0;have g4:=q_ (a8.o _ _ hd);have r:=(Fr.refl wr (λ _=>False)).alloc (.cells #[.int .i64 (b4:Int),.int .u8 (lt:Int),.iface T x,.pointer d0] 149);have V:=Blk.new wr #[.int .i64 (b4:Int),.int .u8 (lt:Int),.iface T x,.pointer d0] 149
   have N:(wr.alloc (.cells #[.int .i64 (b4:Int),.int .u8 (lt:Int),.iface T x,.pointer d0] 149)).heap.size=wr.heap.size+1:=by simp
   have z:=b.o.call (r.blk b.o.M.R id) (r.mono v_) b.o.M.il;have u:=hR.o _ F j nn f9 a4 b.o.M.il _ _ z.M a4 (hT.fr r u_);have h5:=b.o.bB;have h9:=b.o.lt
   have h4:l.length<=300:=by omega
   replace N:=q_ N;replace V:=q_ V;replace z:=q_ z;clear hT e3 a1 a3 d7 b9 d1
   cases a6:rdB s (zc_ ds) f g0.ty j nn with
   | error e0=>
    rw[a6] at m u;have hr:=q_ m;replace u:=q_ u;replace r:=q_ r;clear y K m hd F
    go_wp2_with (first
     |(go_at_call 66;refine u.o.mono ?_;rintro e w1 ⟨v1,e1,rfl,h,a9,H,B⟩;subst a9;obtain⟨eT,ex,rfl⟩:=H.iface;have n1:=(h.blk V.o (by omega)).c1;have hz:=q_ h.size;replace H:=q_ H;replace h:=q_ h;replace B:=q_ B)
     |(go_at_call 152;refine(zfy f5).mono ?_;rintro e w2 b6;have e4:=q_ (λ v (he:e=.returned v)=>H.o.wrap b6 (by have:=hz.o;omega) he);obtain⟨g2,i1,rfl,h6,b8,L⟩:=b6;replace L:=q_ L;replace b8:=q_ b8))
    try go_ret
    rw[Z.o,hr.o];refine⟨_,_,rfl,(z.o.fr.trans h.o u_).trans (L.o.mono v_) u_,rfl,(e4.o _ rfl).less (by have:=z.o.fr.size;omega),?_⟩;obtain⟨O,S,h1,h2⟩:=B.o;exact⟨O,S,L.o.blk h1 id,h2⟩
   | ok q=>
    obtain⟨d,O,S⟩:=q;rw[a6] at m u;have e9:=j0_ s (zc_ ds) f g0.ty j nn d O S b.o.M.il a4 a6;have g1:=q_ m;replace u:=q_ u;have e5:=q_ (λ i d (e:l[i]?=some d)=>(K i d e).fr r u_);have d8:=q_ (za_ y r u_);replace y:=q_ y;replace r:=q_ r;obtain⟨ti,f0,f1,f2,f3⟩:=info_parts zez;clear m K hd F
    go_wp2_with (first
     |(go_at_call 66;refine u.o.mono ?_;rintro e w1 ⟨v1,e1,rfl,h,a9,a0,B,f4⟩;subst a9;obtain⟨dT,dx,rfl⟩:=a0.iface;have G:=z.o.call B h f4;have b7:=G.bB;have g3:=q_ (za_ d8.o h (λ g hg e=>by have:=d8.o.lt g hg;omega));have e2:=q_ (a0.mono (Q:=λ g=>w.heap.size+1<=g/\(Value.slice la l.length lc).ownBlock≠some g) (λ g _ hg=>⟨by have:=N.o;omega,λ e=>by have:=y.o.lt g e;have:=N.o;omega⟩));have e6:=q_ (λ i d (e:l[i]?=some d)=>(e5.o i d e).fr h (λ g hg e=>by have:=hg.1;omega));replace G:=q_ G;clear a0 B h)
     |(at_builtin;go_must (refine wpList_append_own_at _ rfl _ _ 163 rfl (w.heap.size+1) 89 ti _ 1 16 zu9 f0 f1 f2 f3 rfl (by decide) (.slice la l.length lc) l.length ((List.range l.length).flatMap λ i=>[Y i]) rfl ?hown _ 1 1 [.iface dT dx] rfl rfl (z7_ _ #[.iface dT dx] _ _ ?nn) ?one ?b1 ?b2 ?b3 ?_)
       case hown=>exact World.ownsRow.alloc g3.o _
       case nn=>simp
       case one=>simp[Value.oneCell']
       case b1=>unfold maxLen;omega
       case b2=>omega
       case b3=>simp;omega
       intro v5 w5 a5 d2 f7 d6
       have X:=G.o.item e6.o (by rw[g4.o];exact e2.o) d2 a5 d6
       obtain⟨g5,h3,rfl⟩:=zh_ a5 (by omega)
       clear d2 d6 f7 a5
       replace X:=q_ X))
    go_roundg (302-(l.length+1))
    case measure=>omega
    case rel=>
     refine⟨l++[d],O,S,by simp,by simp;omega,by omega,e9.2.2.2,by simp;omega,X,?_⟩;rw[g1.o,ah_,am_]
end
open Go.RowKit
def bodB (s:BA) (env:Nat->Option PB) (f:Nat) (t:PT) (i n:Nat):Except Nat (DT×Nat×Nat):=
 match t with
 | .leaf c _=>j6_ (rdB s env f) s env c i n
 | .wrap c _ t=>zce (rdB s env f t) s c i n
 | .alts _ ts=>v5_ (rdB s env f) s ts i n
theorem ztq (s:BA) (env:Nat->Option PB) (f:Nat) (t:PT) (i n:Nat):rdB s env (f+1) t i n=if 300<=n then .error 7 else bodB s env f t i (n+1):=by
 cases t<;>(rw[rdB];rfl)
theorem zxp (s:BA) (i:Nat):bNum s (-9223372036854775808) 9223372036854775807 i=bL s i:=by
 unfold bNum
 cases h:bL s i with
 | none=>rfl
 | some q=>
  obtain⟨z,j⟩:=q;have:=zf8 h;simp only;rw[if_pos ⟨this.2.2.1,this.2.2.2⟩]
def BodY (w0:World) (P:Nat->Prop) (ss:BA) (ds:List PD) (sv rv:Value) (xs:List Value) (s:BA) (E:WErr) (br f:Nat) (t:PT) (i n:Nat):Prop:=
 ∀ (w:World) (v:Value),YC w0 P ss ds sv rv xs s E br i n w->n<=300->TyV w P t v->
  Calls prog 91 #[.pointer (some ⟨br,0,none⟩),v] w (yv_ (zc_ ds) t w sv rv s E br (bodB s (zc_ ds) f t i n))
def DefY (w0:World) (P:Nat->Prop) (ss:BA) (ds:List PD) (sv rv:Value) (xs:List Value) (s:BA) (E:WErr) (br f c p:Nat) (b:PB) (i n:Nat):Prop:=
 ∀ (w:World) (v:Value),YC w0 P ss ds sv rv xs s E br i n w->n<=300->vn_ w P ss b v->
  Calls prog 91 #[.pointer (some ⟨br,0,none⟩),v] w (yv_ (zc_ ds) (.leaf c p) w sv rv s E br (xa_ (rdB s (zc_ ds) f) s b i n))
section
variable {w0:World} {P:Nat->Prop} {ss:BA} {ds:List PD} {sv rv:Value} {xs:List Value} {s:BA} {E:WErr} {br i n:Nat} {f p:Nat}
theorem zxk:BodY w0 P ss ds sv rv xs s E br f (.leaf 110 p) i n:=by
 intro w v M hn d
 obtain rfl:v=.iface 198 (.agg #[.int .i64 (p:Int)]):=by
  cases d with
  | base _ _ h=>rfl
  | name _ _ h=>exact absurd h (by decide)
 refine hq_ λ e a=>?_;unfold bodB at a;simp only at a;unfold j6_ at a;have A:Fr w (w.alloc (.cells #[.int .i64 (p:Int)] 198)) (λ _=>False):=(Fr.refl w _).alloc _;have b:=M.new A;rw[if_pos rfl] at a;replace b:=q_ b;replace A:=q_ A;clear M d;have g:=zaw
 go_in
 go_wp2_with fail
 try go_ret
 rw[a.o];exact yok (DaV.plain .nothing (by decide)) (A.o.mono v_) b.o.R b.o.il
theorem zxi:BodY w0 P ss ds sv rv xs s E br f (.leaf 116 p) i n:=by
 intro w v M hn g
 obtain rfl:v=.iface 199 (.agg #[.int .i64 (p:Int)]):=by
  cases g with
  | base _ _ h=>rfl
  | name _ _ h=>exact absurd h (by decide)
 refine hq_ λ q a=>?_;unfold bodB at a;simp only at a;unfold j6_ at a;have A:Fr w (w.alloc (.cells #[.int .i64 (p:Int)] 199)) (λ _=>False):=(Fr.refl w _).alloc _;have d:=M.new A;rw[if_neg (by decide),if_pos rfl] at a;have k:=q_ (zn7 (env:=zc_ ds) (t:=.leaf 116 p) d);replace A:=q_ A;clear M d g;have r:=zm_ 199 (by decide);have u:=zcf
 go_in
 go_wp2_with (go_at_call 125;refine k.o.mono ?_;intro e x l;obtain⟨m,j,rfl,b⟩:=l;replace b:=q_ b)
 try go_ret
 rw[a.o];exact yv_.pre A.o ⟨m,j,rfl,b.o⟩
theorem zxm:BodY w0 P ss ds sv rv xs s E br f (.leaf 105 p) i n:=by
 intro w v M hn g
 obtain rfl:v=.iface 200 (.agg #[.int .i64 (p:Int)]):=by
  cases g with
  | base _ _ h=>rfl
  | name _ _ h=>exact absurd h (by decide)
 refine hq_ λ q a=>?_;unfold bodB at a;simp only at a;unfold j6_ at a;have A:Fr w (w.alloc (.cells #[.int .i64 (p:Int)] 200)) (λ _=>False):=(Fr.refl w _).alloc _;have d:=M.new A;rw[if_neg (by decide),if_neg (by decide),if_pos rfl] at a;have k:=q_ (zd7 (env:=zc_ ds) (t:=.leaf 105 p) (c:=105) (lo:=-2147483648) (up:=2147483647) (.inl rfl) d);replace A:=q_ A;clear M d g;have r:=zm_ 200 (by decide);have u:=zy_ 200 (by decide);have x:=zgc
 go_in
 go_wp2_with (go_at_call 126;refine k.o.mono ?_;intro e y l;obtain⟨m,j,rfl,b⟩:=l;replace b:=q_ b)
 try go_ret
 rw[a.o];exact yv_.pre A.o ⟨m,j,rfl,b.o⟩
theorem zxl:BodY w0 P ss ds sv rv xs s E br f (.leaf 108 p) i n:=by
 intro w v M hn j
 obtain rfl:v=.iface 201 (.agg #[.int .i64 (p:Int)]):=by
  cases j with
  | base _ _ h=>rfl
  | name _ _ h=>exact absurd h (by decide)
 refine hq_ λ q a=>?_;unfold bodB at a;simp only at a;unfold j6_ at a;have A:Fr w (w.alloc (.cells #[.int .i64 (p:Int)] 201)) (λ _=>False):=(Fr.refl w _).alloc _;have g:=M.new A;rw[if_neg (by decide),if_neg (by decide),if_neg (by decide),if_pos rfl] at a;have b:=zd7 (env:=zc_ ds) (t:=.leaf 108 p) (c:=108) (lo:=-9223372036854775808) (up:=9223372036854775807) (.inr rfl) g;rw[zxp] at b;replace b:=q_ b;replace A:=q_ A;clear M g j;have r:=zm_ 201 (by decide);have u:=zy_ 201 (by decide);have x:=yn_ 201 (by decide);have y:=zd1
 go_in
 go_wp2_with (go_at_call 126;refine b.o.mono ?_;intro e z l;obtain⟨m,k,rfl,d⟩:=l;replace d:=q_ d)
 try go_ret
 rw[a.o];exact yv_.pre A.o ⟨m,k,rfl,d.o⟩
theorem zxj:BodY w0 P ss ds sv rv xs s E br f (.leaf 115 p) i n:=by
 intro w v M hn g
 obtain rfl:v=.iface 202 (.agg #[.int .i64 (p:Int)]):=by
  cases g with
  | base _ _ h=>rfl
  | name _ _ h=>exact absurd h (by decide)
 refine hq_ λ q a=>?_;unfold bodB at a;simp only at a;unfold j6_ at a;have A:Fr w (w.alloc (.cells #[.int .i64 (p:Int)] 202)) (λ _=>False):=(Fr.refl w _).alloc _;have d:=M.new A;rw[if_neg (by decide),if_neg (by decide),if_neg (by decide),if_neg (by decide),if_pos rfl] at a;have k:=q_ (zp0 (env:=zc_ ds) (t:=.leaf 115 p) d);replace A:=q_ A;clear M d g;have r:=zm_ 202 (by decide);have u:=zy_ 202 (by decide);have x:=yn_ 202 (by decide);have y:=yk_ 202 (by decide);have z:=zd0
 go_in
 go_wp2_with (go_at_call 127;refine k.o.mono ?_;intro e B l;obtain⟨m,j,rfl,b⟩:=l;replace b:=q_ b)
 try go_ret
 rw[a.o];exact yv_.pre A.o ⟨m,j,rfl,b.o⟩
theorem zy4 {t:PT}(r:xr_ w0) (x:∀ j nn,n<=nn->nn<=300->j<=s.size->DatY w0 P ss ds sv rv xs s E br f t j nn):BodY w0 P ss ds sv rv xs s E br f (.wrap 91 p t) i n:=by
 intro w v M hn k
 obtain⟨a,l,rfl⟩:∃ a,TyV w P t a/\v=.iface 205 (.agg #[.int .i64 (p:Int),a]):=by
  cases k with
  | wrap _ _ h=>exact⟨_,h,rfl⟩
 obtain⟨y,z,rfl⟩:=l.iface;refine hq_ λ B b=>?_;unfold bodB at b;simp only at b;clear k;have A:Fr w (w.alloc (.cells #[.int .i64 (p:Int),.iface y z] 205)) (λ _=>False):=(Fr.refl w _).alloc _;have g:=M.new A;have q:=q_ (zp1 (p:=p) (pt:=(p:Int)) r g hn (l.fr A u_) x);replace A:=q_ A;clear g M;have C:=zm_ 205 (by decide);have D:=zy_ 205 (by decide);have F:=yn_ 205 (by decide);have G:=yk_ 205 (by decide);have H:=yx_ 205 (by decide);have I:=zag
 go_in
 go_wp2_with (go_at_call 128;refine q.o.mono ?_;intro e J u;obtain⟨a,m,rfl,d⟩:=u;replace d:=q_ d)
 try go_ret
 rw[b.o];exact yv_.pre A.o ⟨a,m,rfl,d.o⟩
theorem zxh {t:PT}(r:xs_ w0) (x:∀ j nn,n<=nn->nn<=300->j<=s.size->DatY w0 P ss ds sv rv xs s E br f t j nn):BodY w0 P ss ds sv rv xs s E br f (.wrap 123 p t) i n:=by
 intro w v M hn k
 obtain⟨a,l,rfl⟩:∃ a,TyV w P t a/\v=.iface 206 (.agg #[.int .i64 (p:Int),a]):=by
  cases k with
  | wrap _ _ h=>exact⟨_,h,rfl⟩
 obtain⟨y,z,rfl⟩:=l.iface;refine hq_ λ B b=>?_;unfold bodB at b;simp only at b;clear k;have A:Fr w (w.alloc (.cells #[.int .i64 (p:Int),.iface y z] 206)) (λ _=>False):=(Fr.refl w _).alloc _;have g:=M.new A;have q:=q_ (zs5 (p:=p) (pt:=(p:Int)) r g hn (l.fr A u_) x);replace A:=q_ A;clear g M;have C:=zm_ 206 (by decide);have D:=zy_ 206 (by decide);have F:=yn_ 206 (by decide);have G:=yk_ 206 (by decide);have H:=yx_ 206 (by decide);have I:=yg_ 206 (by decide);have J:=zbj
 go_in
 go_wp2_with (go_at_call 129;refine q.o.mono ?_;intro e K u;obtain⟨a,m,rfl,d⟩:=u;replace d:=q_ d)
 try go_ret
 rw[b.o];exact yv_.pre A.o ⟨a,m,rfl,d.o⟩
theorem zy5 {l:List PT}(B:xr_ w0) (hl:l.length<=4000) (m:∀ t∈l,∀ j,j<=s.size->DatY w0 P ss ds sv rv xs s E br f t j n):BodY w0 P ss ds sv rv xs s E br f (.alts p l) i n:=by
 intro w v M hn q
 obtain⟨X,a,ho,hP,r,rfl⟩:∃ (X:Nat->Value) (a:Value),w.ownsRow 0 83 1 a l.length ((List.range l.length).map X)/\(∀ g,a.ownBlock=some g->P g)/\(∀ i t,l[i]?=some t->TyV w P t (X i))/\v=.iface 220 (.agg #[.int .i64 (p:Int),a]):=by
  cases q with
  | alts _ X ho hP h=>exact⟨X,_,ho,hP,h,rfl⟩
 obtain⟨u,x,rfl⟩:=zo_ ho;refine hq_ λ F b=>?_;unfold bodB at b;simp only at b;clear q;have A:Fr w (w.alloc (.cells #[.int .i64 (p:Int),.slice u l.length x] 220)) (λ _=>False):=(Fr.refl w _).alloc _;have k:=M.new A;have z:=q_ (zn6 (p:=p) (pt:=(p:Int)) B k hn hl (za_ ho A u_) hP (λ i t e=>(r i t e).fr A u_) m);replace A:=q_ A;clear k M ho r m hP;have G:=zm_ 220 (by decide);have H:=zy_ 220 (by decide);have I:=yn_ 220 (by decide);have J:=yk_ 220 (by decide);have K:=yx_ 220 (by decide);have L:=yg_ 220 (by decide);have N:=xh_ 220 (by decide);have O:=jq_
 go_in
 go_wp2_with (go_at_call 130;refine z.o.mono ?_;intro e Q C;obtain⟨D,y,rfl,d⟩:=C;replace d:=q_ d)
 try go_ret
 rw[b.o];exact yv_.pre A.o ⟨D,y,rfl,d.o⟩
theorem zur {fs:List PF}(hb:zc_ ds c=some (.recd fs)) (B:∀ g∈fs,zi_ g.letter=true) (H:fs.length<=300) (x:∀ g∈fs,∀ j nn,n<=nn->nn<=300->j<=s.size->DatY w0 P ss ds sv rv xs s E br f g.ty j nn):DefY w0 P ss ds sv rv xs s E br f c p (.recd fs) i n:=by
 intro w v M hn y
 obtain⟨C,a,zs,ho,hP,h,rfl⟩:∃ (p:Nat) (a:Value) (zs:List Value),w.ownsRow 0 149 4 a fs.length zs/\(∀ g,a.ownBlock=some g->P g)/\vu_ w P ss fs zs/\v=.iface 211 (.agg #[.int .i64 (p:Int),a]):=by
  cases y with
  | recd p ho hP h=>exact⟨p,_,_,ho,hP,h,rfl⟩
 obtain⟨r,u,rfl⟩:=zo_ ho;refine hq_ λ J m=>?_
 have z:xa_ (rdB s (zc_ ds) f) s (.recd fs) i n=recI (yu_ (rdB s (zc_ ds) f) (fs.map PF.ty) i n):=by
  unfold xa_;simp only
  cases yu_ (rdB s (zc_ ds) f) (fs.map PF.ty) i n with
  | error e=>rfl
  | ok q=>rfl
 rw[z] at m;clear y z;have A:Fr w (w.alloc (.cells #[.int .i64 (C:Int),.slice r fs.length u] 211)) (λ _=>False):=(Fr.refl w _).alloc _;have l:=M.new A;have d:j8_ w P ss fs (.slice r fs.length u) zs:=⟨ho,hP,h⟩;have F:=q_ (zli (t:=.leaf c p) (pt:=(C:Int)) l hn (d.fr A u_) B H (λ k g e=>by simp[xl_,hb,bd_,e]) x);replace A:=q_ A;clear l M ho h d B x hb;have K:=zm_ 211 (by decide);have L:=zy_ 211 (by decide);have N:=yn_ 211 (by decide);have O:=yk_ 211 (by decide);have Q:=yx_ 211 (by decide);have R:=yg_ 211 (by decide);have S:=xh_ 211 (by decide);have T:=y0_ 211 (by decide);have U:=jr_ 211 (by decide);have V:=j1_
 go_in
 go_wp2_with (go_at_call 131;refine F.o.mono ?_;intro e W G;obtain⟨I,D,rfl,b⟩:=G;replace b:=q_ b)
 try go_ret
 rw[m.o];exact yv_.pre A.o ⟨I,D,rfl,b.o⟩
theorem zus {l:List (Nat×Nat)}{o:Option (Nat×Nat)}(hb:zc_ ds c=some (.enum l o)) (x:∀ q∈l,zi_ q.1=true) (G:l.length<=300):DefY w0 P ss ds sv rv xs s E br f c p (.enum l o) i n:=by
 intro w v M hn r
 obtain⟨y,a,u,ho,hP,hu,rfl⟩:∃ (p:Nat) (a u:Value),w.ownsRow 0 146 2 a l.length (yp_ l)/\(∀ g,a.ownBlock=some g->P g)/\UnkV w P o u/\v=.iface 216 (.agg #[.int .i64 (p:Int),a,u]):=by
  cases r with
  | enum p ho hP h=>exact⟨p,_,_,ho,hP,h,rfl⟩
 obtain⟨B,C,rfl⟩:=zo_ ho
 obtain⟨dd,rfl⟩:∃ d,u=.pointer d:=by
  unfold UnkV at hu;split at hu
  ·exact⟨_,hu⟩
  ·obtain⟨g',_,e,_⟩:=hu;exact⟨_,e⟩
 refine hq_ λ I b=>?_;unfold xa_ at b;simp only at b;clear r hu;have A:Fr w (w.alloc (.cells #[.int .i64 (y:Int),.slice B l.length C,.pointer dd] 216)) (λ _=>False):=(Fr.refl w _).alloc _;have m:=M.new A;have D:=q_ (zlh (t:=.leaf c p) (pt:=(y:Int)) (dd:=dd) m G x (za_ ho A u_) hP (λ k=>by simp[symL,hb]));replace A:=q_ A;clear m M ho x hb;have J:=zm_ 216 (by decide);have K:=zy_ 216 (by decide);have N:=yn_ 216 (by decide);have O:=yk_ 216 (by decide);have Q:=yx_ 216 (by decide);have R:=yg_ 216 (by decide);have S:=xh_ 216 (by decide);have T:=y0_ 216 (by decide);have U:=jr_ 216 (by decide);have V:=x2_ 216 (by decide);have L:=zd2
 go_in
 go_wp2_with (go_at_call 132;refine D.o.mono ?_;intro e W F;obtain⟨H,z,rfl,j⟩:=F;replace j:=q_ j)
 try go_ret
 rw[b.o];exact yv_.pre A.o ⟨H,z,rfl,j.o⟩
theorem zsc {k:Nat}(hk:k<=9):DefY w0 P ss ds sv rv xs s E br f c p (.bytes k) i n:=by
 intro w v M hn g
 obtain⟨h,rfl⟩:∃ p:Nat,v=.iface 233 (.agg #[.int .i64 (p:Int),.int .i64 (k:Int)]):=by
  cases g with
  | bytes p n=>exact⟨p,rfl⟩
 refine hq_ λ r a=>?_;unfold xa_ at a;simp only at a;clear g;have A:Fr w (w.alloc (.cells #[.int .i64 (h:Int),.int .i64 (k:Int)] 233)) (λ _=>False):=(Fr.refl w _).alloc _;have d:=M.new A;have l:=q_ (zn8 (t:=.leaf c p) (pt:=(h:Int)) d hk);replace A:=q_ A;clear d M;have u:=zm_ 233 (by decide);have x:=zy_ 233 (by decide);have B:=yn_ 233 (by decide);have C:=yk_ 233 (by decide);have D:=yx_ 233 (by decide);have F:=yg_ 233 (by decide);have G:=xh_ 233 (by decide);have H:=y0_ 233 (by decide);have I:=jr_ 233 (by decide);have J:=x2_ 233 (by decide);have y:=zgd 233 (by decide);have z:=zge
 go_in
 go_wp2_with (go_at_call 133;refine l.o.mono ?_;intro e K m;obtain⟨q,j,rfl,b⟩:=m;replace b:=q_ b)
 try go_ret
 rw[a.o];exact yv_.pre A.o ⟨q,j,rfl,b.o⟩
theorem zu0 (hc:z5_ c=true){b:PB}(hb:zc_ ds c=some b) (Y:DefY w0 P ss ds sv rv xs s E br f c p b i n):BodY w0 P ss ds sv rv xs s E br f (.leaf c p) i n:=by
 intro w v M hn J
 have b5:65<=c/\c<=70:=by simpa[z5_] using hc
 obtain rfl:v=.iface 209 (.agg #[.int .i64 (p:Int),.int .u8 (c:Int)]):=by
  cases J with
  | base _ _ h=>
   simp only[yc_,ax_,beq_iff_eq] at h;omega
  | name _ _ h=>rfl
 have N:bodB s (zc_ ds) f (.leaf c p) i n=xa_ (rdB s (zc_ ds) f) s b i n:=by
  unfold bodB;simp only;unfold j6_;rw[if_neg (by omega),if_neg (by omega),if_neg (by omega),if_neg (by omega),if_neg (by omega),hb]
 rw[N];obtain⟨X,I⟩:∃ Z,Z=xa_ (rdB s (zc_ ds) f) s b i n:=⟨_,rfl⟩;rw[<- I];refine hq_ λ a9 V=>?_;have A:Fr w (w.alloc (.cells #[.int .i64 (p:Int),.int .u8 (c:Int)] 209)) (λ _=>False):=(Fr.refl w _).alloc _;have g:=M.new A;have k:=Blk.new w #[.int .i64 (p:Int),.int .u8 (c:Int)] 209;have b4:=M.lt;have L:=q_ (And.intro g (And.intro k A));clear N J M g k A;have a0:=zm_ 209 (by decide);have a1:=zy_ 209 (by decide);have a2:=yn_ 209 (by decide);have a3:=yk_ 209 (by decide);have a4:=yx_ 209 (by decide);have a5:=yg_ 209 (by decide);have a6:=xh_ 209 (by decide);have a7:=y0_ 209 (by decide)
 have a8:=zby
 go_in
 go_wp2_with fail
 obtain⟨g,k,A⟩:=L.o;have z:=g.still (zd_.drew _);have u0:=g.R.c0;have O:=g.R.c1;have u2:=k.c1;have H:=zap (rv:=rv) c z.D;refine z9_ (λ W=>W.cell? ⟨br,0,none⟩=some sv/\W.cell? ⟨br,1,none⟩=some rv/\W.cell? ⟨w.heap.size,1,none⟩=some (.int .u8 (c:Int))) (by kernel_rfl) ?_;refine tA_ 0 rfl (by kernel_rfl) (λ _ _ _ h=>h) (by rintro W ⟨h1,d,a⟩;go_simp<;>rfl) ?_;refine tA_ 1 rfl (by kernel_rfl) (λ _ _ _ h=>h) (by rintro W ⟨h1,d,a⟩;go_simp<;>rfl) ?_;refine tA_ 2 rfl (by kernel_rfl) (λ _ _ _ h=>h) (by rintro W ⟨h1,d,a⟩;go_simp<;>rfl) ?_;refine tA_ 3 rfl (by kernel_rfl) (λ _ _ _ h=>h) (by rintro W ⟨h1,d,a⟩;go_simp<;>rfl) ?_;refine tA_ 4 rfl (by kernel_rfl) (λ _ _ _ h=>h) (by rintro W ⟨h1,d,a⟩;go_simp<;>rfl) ?_;refine tA_ 5 rfl (by kernel_rfl) (λ _ _ _ h=>h) (by rintro W ⟨h1,d,a⟩;go_simp<;>rfl) ?_;refine tA_ 6 rfl (by kernel_rfl) (λ _ _ _ h=>h) (by rintro W ⟨h1,d,a⟩;go_simp<;>rfl) ?_;refine zu_ 7 rfl (by kernel_rfl) ⟨u0,O,u2⟩ (λ K l=>?_);go_simp;refine H.mono ?_;rintro e w2 ⟨v2,rfl,r,F⟩;refine l _ _ ?_;clear l K;rw[hb] at F;have x:=z.new r;have B:=Y w2 v2 x hn F;have C:=r.blk (((Fr.refl _ (λ _=>False)).still (zd_.drew (w.alloc (.cells #[.int .i64 (p:Int),.int .u8 (c:Int)] 209)))).blk k id) id;have S:=x.R.c0;have T:=x.R.c1;have U:=C.c1;rw[<- I] at B;refine zu_ 8 rfl (by kernel_rfl) ⟨S,T,U⟩ (λ K l=>?_);go_simp;refine B.mono ?_;rintro e w3 ⟨Q,G,rfl,y,u⟩;refine l _ _ ?_;clear l K
 obtain⟨j3,m3,a⟩:∃ j m,RwAt w3 br sv rv s j m:=by
  cases X with
  | error e=>exact⟨_,_,u.2.2.choose_spec.choose_spec.1⟩
  | ok q=>exact⟨_,_,u.2.2.1⟩
 have y0:=a.c0;have y1:=a.c1;have y2:=(y.blk C (by omega)).c1;replace u:=q_ u;replace y:=q_ y;replace r:=q_ r;replace A:=q_ A;clear H B g z x k C F L u0 O u2 S T U a;refine tA_ 9 rfl (by kernel_rfl) (λ _ _ _ h=>h) (by rintro W ⟨h1,d,a⟩;go_simp<;>rfl) ?_;refine tA_ 10 rfl (by kernel_rfl) (λ _ _ _ h=>h) (by rintro W ⟨h1,d,a⟩;go_simp<;>rfl) ?_;refine tA_ 11 rfl (by kernel_rfl) (λ _ _ _ h=>h) (by rintro W ⟨h1,d,a⟩;go_simp<;>rfl) ?_;refine tA_ 12 rfl (by kernel_rfl) (λ _ _ _ h=>h) (by rintro W ⟨h1,d,a⟩;go_simp<;>rfl) ?_;refine z8_ (by kernel_rfl) ⟨y0,y1,y2⟩ ?_ _
 go_wp2_with fail
 refine bodyPost_ret (v:=.tuple #[Q,G]) (by simp[results,results91,go_sem]) rfl ?_;rw[V.o];exact yv_.pre (A.o.trans (((Fr.refl _ (λ _=>False)).still (zd_.drew _)).trans r.o u_) u_) ⟨Q,G,rfl,y.o,u.o⟩
end
open Go.RowKit
theorem yv_.pre2 {env:Nat->Option PB}{t:PT}{w w1 w':World}{sv rv:Value}{s:BA}{E:WErr}{br:Nat}{b:Except Nat (DT×Nat×Nat)}{e:Ending}(k:Fr w w1 (· = br)) (h:yv_ env t w1 sv rv s E br b e w'):yv_ env t w sv rv s E br b e w':=by
 obtain⟨v,l,he,o,a⟩:=h;have r:=k.size;refine⟨v,l,he,k.trans o u_,?_⟩
 cases b with
 | error e0=>exact⟨a.1,a.2.1.less r,a.2.2⟩
 | ok q=>
  obtain⟨d,j,m⟩:=q;exact⟨a.1,a.2.1.mono (λ g _ hg=>by omega),a.2.2⟩
section
variable {w0:World} {P:Nat->Prop} {ss:BA} {ds:List PD} {sv rv:Value} {xs:List Value} {s:BA} {E:WErr} {br i n:Nat} {f p:Nat} {t:PT}
theorem zw7 (j:n<300->BodY w0 P ss ds sv rv xs s E br f t i (n+1)):DatY w0 P ss ds sv rv xs s E br (f+1) t i n:=by
 intro w v M hn d;refine hq_ λ y b=>?_;rw[ztq] at b;have c4:=M.R.c4;have z:=M.R.thaw 4;obtain⟨C,D,rfl⟩:=d.iface
 by_cases q:n=300
 ·subst q;rw[if_pos l_] at b;have hB:=M.big;have l:=q_ M;clear M d j
  go_in
  go_wp2_with fail
  go_quiet (fail)
  go_wp2_with fail
  try go_ret
  rw[b.o];exact⟨_,_,rfl,(Fr.refl w _).still (zd_.drewN _ _),rfl,.base,i,300,l.o.R.still (zd_.drewN _ _),l.o.il⟩
 ·rw[if_neg (by omega)] at b
  have B:((n:Int)==300)=false:=by simp;omega
  have a:Fr w (w.setCell ⟨br,4,none⟩ (.int .i64 ((n:Int)+1))) (· = br):=(Fr.refl w (· = br)).setCell _ _ (λ _=>rfl);have k:=M.call M.R.node a M.il;have r:=q_ (j (by omega) _ _ k (by omega) (d.fr a (λ g hg e=>M.brP (e▸hg))));replace a:=q_ a
  have A:(n:Int)<=300:=by omega
  clear M k d j
  go_in
  go_wp2_with (go_at_call 91;refine r.o.mono ?_;intro e F u;obtain⟨x,m,rfl,h⟩:=u;replace h:=q_ h)
  try go_ret
  rw[b.o];exact yv_.pre2 a.o ⟨x,m,rfl,h.o⟩
theorem zzs (r:j4_ ds) (x:fewE (zc_ ds)) (q:xr_ w0) (v:xs_ w0):∀ (f:Nat) (t:PT) (i n:Nat),okT (zc_ ds) t->fewT t->n<=300->301<=f+n->DatY w0 P ss ds sv rv xs s E br f t i n:=by
 intro f
 induction f with
 | zero=>intro t i n _ _ h1 m;omega
 | succ f ih=>
  intro t i n a b hn C;refine zw7 (λ D=>?_);have next:∀ u,okT (zc_ ds) u->fewT u->∀ j nn,n+1<=nn->nn<=300->j<=s.size->DatY w0 P ss ds sv rv xs s E br f u j nn:=λ u hu A j nn h1 m B=>ih u j nn hu A m (by omega)
  cases t with
  | leaf c p=>
   unfold okT at a
   rcases a with hb|⟨z,pb,he⟩
   ·simp only[yc_,ax_,beq_iff_eq] at hb
    rcases hb with(((rfl|rfl)|rfl)|rfl)|rfl
    ·exact zxk
    ·exact zxi
    ·exact zxm
    ·exact zxl
    ·exact zxj
   ·obtain⟨d,e⟩:=r c pb he;refine zu0 z he ?_
    cases pb with
    | recd fs=>exact zur he d.2.1 d.1 (λ g hg=>next g.ty (e g hg) ((x c fs he).2 g hg))
    | enum l o=>exact zus he d.2.1 d.1
    | bytes k=>exact zsc e
  | wrap c p t=>
   unfold okT at a;unfold fewT at b
   rcases a.1 with rfl|rfl
   ·exact zy4 q (next t a.2 b)
   ·exact zxh v (next t a.2 b)
  | alts p l=>
   unfold okT at a;unfold fewT at b;exact zy5 q (by have:=b.1;omega) (λ t h j y=>next t (zfo a.2 t h).2 (zik b.2 t h) j (n+1) l_ (by omega) y)
end
def zsz (env:Nat->Option PB) (t:PT) (w:World) (E:WErr) (res:Except Nat (DT×Nat×Nat)) (e:Ending) (w':World):Prop:=
 ∃ (v:Value) (k:Nat) (ev:Value),e=.returned (.tuple #[v,.int .i64 (k:Int),ev])/\Fr w w' (λ _=>False)/\
 match res with
 | .ok (d,j,_)=>ev=.nilIface/\k=j/\DaV env w' (λ g=>w.heap.size<=g) d t v
 | .error e0=>v=.nilIface/\k=0/\ErrD w' w.heap.size (E.t e0) (E.x e0) ev
theorem zn9 {w:World}{sa:Option Addr}{sn sc:Nat}{rT:TypeId}{rx:Value}{s:BA}{lt:TypeId}{lx:Value}(a:ErrV 9 w lt lx) (hs:4000<s.size) :
 Calls prog 36 #[.agg #[.slice sa sn sc,.iface rT rx],.string s] w λ e w'=>e=.returned (.tuple #[.nilIface,.int .i64 0,.iface lt lx])/\Fr w w' (λ _=>False):=by
 refine hq_ λ d b=>?_;have A:Fr w (w.alloc (.cells #[.slice sa sn sc,.iface rT rx] 85)) (λ _=>False):=(Fr.refl w _).alloc _;have he:=a.fr A (λ f=>f);unfold ErrV at he
 have g:(4000:Int)<(s.size:Int):=by omega
 replace A:=q_ A;clear a
 go_in
 go_wp2_with fail
 go_quiet (fail)
 go_wp2_with fail
 refine bodyPost_ret (v:=.tuple #[.nilIface,.int .i64 0,.iface lt lx]) (by simp[results,results36,go_sem]) rfl ?_;rw[b.o];exact⟨rfl,A.o.still (zd_.drewN _ _)⟩
theorem zp3 {w0 w:World}{P:Nat->Prop}{ss:BA}{ds:List PD}{sv:Value}{rT:TypeId}{rx:Value}{xs:List Value}{s:BA}{E:WErr}{t:PT}(D:DRow w P ss ds sv xs) (G:TyV w P t (.iface rT rx)) (F:xd_ w0 w) (hk:w0.heap.size<=w.heap.size) (O:∀ g,P g->g<w.heap.size) (E1:ErrV 4 w0 E.dt E.dx) (E2:ErrV 5 w0 E.bt E.bx) (hs:s.size<=4000) (U:okT (zc_ ds) t) (T:fewT t) (S:j4_ ds) (R:fewE (zc_ ds)) (N:xr_ w0) (Q:xs_ w0) :
 Calls prog 36 #[.agg #[sv,.iface rT rx],.string s] w (zsz (zc_ ds) t w E (rdB s (zc_ ds) 301 t 0 0)):=by
 refine hq_ λ W u=>?_;obtain⟨a,b,rfl⟩:=zo_ D.row;have A:Fr w ((w.alloc (.cells #[.slice a ds.length b,.iface rT rx] 85)).alloc (.cells #[.slice a ds.length b,.iface rT rx,.string s,.int .i64 0,.int .i64 0] 126)) (λ _=>False):=((Fr.refl w _).alloc _).alloc _
 have I:(w.alloc (.cells #[.slice a ds.length b,.iface rT rx] 85)).heap.size=w.heap.size+1:=by simp
 have z:=Blk.new (w.alloc (.cells #[.slice a ds.length b,.iface rT rx] 85)) #[.slice a ds.length b,.iface rT rx,.string s,.int .i64 0,.int .i64 0] 126;rw[I] at z
 have C:YC w0 P ss ds (.slice a ds.length b) (.iface rT rx) xs s E (w.heap.size+1) 0 0 ((w.alloc (.cells #[.slice a ds.length b,.iface rT rx] 85)).alloc (.cells #[.slice a ds.length b,.iface rT rx,.string s,.int .i64 0,.int .i64 0] 126)):=
  ⟨z,D.fr A u_,F.fr A hk (λ g f=>f.elim),E1,E2,λ g hg=>by have:=O g hg;omega,by omega,by omega,ak_ _⟩
 have h:=zzs S R N Q 301 t 0 0 U T (by omega) (by omega) _ _ C (by omega) (G.fr A u_)
 have Y:¬ (4000:Int)<(s.size:Int):=by omega
 have H:=q_ (by simp:((w.alloc (.cells #[.slice a ds.length b,.iface rT rx] 85)).alloc (.cells #[.slice a ds.length b,.iface rT rx,.string s,.int .i64 0,.int .i64 0] 126)).heap.size=w.heap.size+2);replace A:=q_ A;clear C z I D G F
 cases r:rdB s (zc_ ds) 301 t 0 0 with
 | error e0=>
  rw[r] at h u;replace h:=q_ h;replace r:=q_ r
  go_in
  go_wp2_with (go_at_call 66;refine h.o.mono ?_;rintro e w1 ⟨V,L,rfl,k,B,y,l⟩;subst B;obtain⟨K,M,rfl⟩:=y.iface;replace k:=q_ k;replace y:=q_ y;replace l:=q_ l)
  refine bodyPost_ret (v:=.tuple #[.nilIface,.int .i64 0,.iface K M]) (by simp[results,results36,go_sem]) rfl ?_;rw[u.o];exact⟨_,0,_,rfl,A.o.trans k.o (λ g hg e=>by omega),rfl,rfl,y.o.less (by have:=H.o;omega)⟩
 | ok q=>
  obtain⟨d,j,m⟩:=q;rw[r] at h u;replace h:=q_ h;replace r:=q_ r
  go_in
  go_wp2_with (go_at_call 66;refine h.o.mono ?_;rintro e w1 ⟨V,L,rfl,k,B,x,l,X⟩;subst B;obtain⟨J,dx,rfl⟩:=x.iface;have c3:=l.c3;replace k:=q_ k;replace x:=q_ x;replace l:=q_ l)
  go_quiet (fail)
  go_wp2_with fail
  refine bodyPost_ret (v:=.tuple #[.iface J dx,.int .i64 (j:Int),.nilIface]) (by simp[results,results36,go_sem]) rfl ?_;rw[u.o];exact⟨_,j,_,rfl,(A.o.trans k.o (λ g hg e=>by omega)).still (zd_.drewN _ _),rfl,rfl,(x.o.mono (λ g _ hg=>by have:=H.o;omega)).fr ((Fr.refl _ (λ _=>False)).still (zd_.drewN _ _)) u_⟩
end Go.Proofs.YtiifagiebikmdaaGreatDoor
