import Derived.Test.YtiifagiebikmdaaGreatDoorW35
import Derived.Test.YtiifagiebikmdaaGreatDoorW09
import Derived.Test.YtiifagiebikmdaaGreatDoorW11
import Derived.Test.YtiifagiebikmdaaGreatDoorW36
import Derived.Test.YtiifagiebikmdaaGreatDoorA00
set_option maxHeartbeats 16000000
set_option maxRecDepth 100000
set_option linter.unusedSimpArgs false
open Go.Proofs.Tryz
namespace Go.Proofs.YtiifagiebikmdaaGreatDoor
open Go.RowKit
variable {p n:Nat}{vk vs:Value}
section
variable {w:World} {P Pd:Nat->Prop} {bz k:Nat} {ts:List TR} {env:Nat->Option PB}
theorem zzu {m0:Nat}(ih:WtOK env m0){l:List PT}{u:PT}{d:DT}(hm:1+ndT d<=m0+1) (hb:1+ndT d<=100000) (a1:l[n]?=some u) (a9:FitT env d u) (hu:okT env u) (Z:ZAt w P bz ts env) (hk:isT ts k (.alts p l)) (X:DVal w Pd (.mk 40 (n:Int) noB [] [d]) (zb_ 40 (n:Int) noB vk vs)) (G:okD (.mk 40 (n:Int) noB [] [d])) :
 Calls prog 13 #[.pointer (some ⟨bz,0,none⟩),.agg (zb_ 40 (n:Int) noB vk vs).toArray,.int .i64 (k:Int)] w λ e w'=>e=.returned (.string (txT env (.mk 40 (n:Int) noB [] [d]) (.alts p l)))/\Fr w w' (λ _=>False):=by
 obtain⟨K,c1,rfl,d7⟩:=X.keys;obtain⟨a2,c2,rfl,d0⟩:=X.sub;unfold isT at hk;obtain⟨B,d2,b4⟩:=hk;obtain⟨H,a0,b5⟩:=zic b4 n u a1;obtain⟨g,m,e1,sv,z0,e3,z1,z2,ho,d8⟩:=Z.type d2;simp only[af_] at z1;have e7:n<B.length:=(as_.1 a0).1;obtain⟨A,cs,rfl⟩:=zh_ ho (by simp only;omega);have zj:=zp_ ho rfl (k:=n) (x:=.int .i64 (H:Int)) (by simp only[bk_,a0];rfl);have e5:=zk_ z0;have e6:=zk_ z1
 have e4:(k:Int)<(m:Int):=by omega
 have e8:(n:Int)<(B.length:Int):=by omega
 refine hq_ λ e0 J=>?_
 have b9:xl_ env (.alts p l) n 0=u:=by simp[xl_,bd_,a1]
 rw[zg2,b9] at J;obtain⟨c,Q,R,S,e9,f0,rfl,a6,⟨x1,w1,a4,rfl⟩,⟨x2,w2,a5,rfl⟩,T,U,V,d3,d4⟩:=d0 0 d rfl;simp only[Nat.zero_mul,br_] at T U V d3 d4;obtain⟨z,E⟩:∃ z,z=(w.alloc (.cells (zb_ 40 (n:Int) noB (.slice K 0 c1) (.slice (some ⟨c,0,none⟩) 1 c2)).toArray 37)).alloc (.cells #[.int .u8 40,.slice (some ⟨A,0,none⟩) B.length cs] 77):=⟨_,rfl⟩;have C:Fr w z (λ _=>False):=E▸((Fr.refl w _).alloc _).alloc _;have B0:Blk z w.heap.size (zb_ 40 (n:Int) noB (.slice K 0 c1) (.slice (some ⟨c,0,none⟩) 1 c2)) 37:=E▸(Blk.new w _ _).alloc _
 have T0:Blk z (w.heap.size+1) [.int .u8 40,.slice (some ⟨A,0,none⟩) B.length cs] 77:=by
  have:=Blk.new (w.alloc (.cells (zb_ 40 (n:Int) noB (.slice K 0 c1) (.slice (some ⟨c,0,none⟩) 1 c2)).toArray 37)) #[.int .u8 40,.slice (some ⟨A,0,none⟩) B.length cs] 77;rw[show(w.alloc (.cells (zb_ 40 (n:Int) noB (.slice K 0 c1) (.slice (some ⟨c,0,none⟩) 1 c2)).toArray 37)).heap.size=w.heap.size+1 by simp] at this;rw[E];exact this
 unfold okD at G;have b7:=G.1.1;have b8:=G.1.2.1;have a3:okD d:=zfq G.2.2.2.2.2 d (by simp);have d1:=zbp env d u a3;have d9:=zbi b7 b8
 have I:∀ (W:World),Fr z W (λ _=>False)->(W.cell? ⟨w.heap.size,4,none⟩=some (.slice (some ⟨c,0,none⟩) 1 c2)/\W.cell? ⟨c,0,none⟩=some (.int .u8 (Q:Int))/\W.cell? ⟨c,1,none⟩=some (.int .i64 R)/\W.cell? ⟨c,2,none⟩=some (.string S)/\W.cell? ⟨c,3,none⟩=some (.slice x1 w1 a4)/\W.cell? ⟨c,4,none⟩=some (.slice x2 w2 a5)/\W.cell? ⟨w.heap.size+1,1,none⟩=some (.slice (some ⟨A,0,none⟩) B.length cs)/\W.cell? ⟨w.heap.size,1,none⟩=some (.int .i64 (n:Int))/\W.cell? ⟨A,n,none⟩=some (.int .i64 (H:Int))):=λ W D=>by
  have hF:=C.trans D u_;have F:∀ (b o:Nat) (v:Value),w.cell? ⟨b,o,none⟩=some v->W.cell? ⟨b,o,none⟩=some v:=λ b o v h=>(World.cell?_of_block (a:=⟨b,o,none⟩) (hF.block b (World.block_lt_of_cell? w ⟨b,o,none⟩ h) id)).trans h;have hB:=D.blk B0 id;have hT:=D.blk T0 id;exact⟨hB.cell 4,F _ _ _ T,F _ _ _ U,F _ _ _ V,F _ _ _ d3,F _ _ _ d4,hT.cell 1,hB.cell 1,F _ _ _ zj⟩
 have L:∀ W,Fr z W (λ _=>False)->Calls prog 13 #[.pointer (some ⟨bz,0,none⟩),.agg (zb_ Q R S (.slice x1 w1 a4) (.slice x2 w2 a5)).toArray,.int .i64 (H:Int)] W λ e w'=>e=.returned (.string (txT env d u))/\Fr W w' (λ _=>False):=λ W D=>ih d (by omega) (by omega) a3 u a9 hu W P Pd bz ts H ((Z.fr C u_).fr D u_) b5 Q R S _ _ ((a6.fr C u_).fr D u_);obtain⟨bd,Y⟩:∃ b,b=txT env d u:=⟨_,rfl⟩;obtain⟨dd,M⟩:∃ b,b=decB (n:Int):=⟨_,rfl⟩;rw[<- Y] at J L d1;rw[<- M] at J d9
 have e2:bd.size<=900000000:=by omega
 have d6:=I z (Fr.refl _ _);replace I:=q_ I;replace L:=q_ L;replace E:=q_ E;replace Y:=q_ Y;replace M:=q_ M;replace C:=q_ C;clear d7 d0 Z X ho d8 d2 b4 a0 b5 a1 a9 a6 G a3 ih B0 T0 d1 T U V d3 d4 zj b9;simp only[zb_,af_,aq_,ao_,br_]
 go_in
 go_wp2_with (go_at_call 27;refine(zcd b7 b8).mono ?_;rintro e w3 ⟨rfl,a8⟩;rw[<- M.o];have N:=q_ (E.o▸a8:Fr z w3 (λ _=>False));clear a8)
 refine z9_ (λ W=>(W.cell? ⟨w.heap.size,4,none⟩=some (.slice (some ⟨c,0,none⟩) 1 c2)/\W.cell? ⟨c,0,none⟩=some (.int .u8 (Q:Int))/\W.cell? ⟨c,1,none⟩=some (.int .i64 R)/\W.cell? ⟨c,2,none⟩=some (.string S)/\W.cell? ⟨c,3,none⟩=some (.slice x1 w1 a4)/\W.cell? ⟨c,4,none⟩=some (.slice x2 w2 a5)/\W.cell? ⟨w.heap.size+1,1,none⟩=some (.slice (some ⟨A,0,none⟩) B.length cs)/\W.cell? ⟨w.heap.size,1,none⟩=some (.int .i64 (n:Int))/\W.cell? ⟨A,n,none⟩=some (.int .i64 (H:Int)))) (by kernel_rfl) ?_;refine tA_ 0 rfl (by kernel_rfl) (λ _ _ _ h=>h) (by rintro W ⟨h1,f,i,j,q,r,s,t,y⟩;go_simp<;>rfl) ?_;refine tA_ 1 rfl (by kernel_rfl) (λ _ _ _ h=>h) (by rintro W ⟨h1,f,i,j,q,r,s,t,y⟩;go_simp<;>rfl) ?_;refine tA_ 2 rfl (by kernel_rfl) (λ _ _ _ h=>h) (by rintro W ⟨h1,f,i,j,q,r,s,t,y⟩;go_simp<;>rfl) ?_;refine tA_ 3 rfl (by kernel_rfl) (λ _ _ _ h=>h) (by rintro W ⟨h1,f,i,j,q,r,s,t,y⟩;go_simp<;>rfl) ?_;refine tA_ 4 rfl (by kernel_rfl) (λ _ _ _ h=>h) (by rintro W ⟨h1,f,i,j,q,r,s,t,y⟩;go_simp<;>rfl) ?_;refine tA_ 5 rfl (by kernel_rfl) (λ _ _ _ h=>h) (by rintro W ⟨h1,f,i,j,q,r,s,t,y⟩;go_simp<;>rfl) ?_;refine tA_ 6 rfl (by kernel_rfl) (λ _ _ _ h=>h) (by rintro W ⟨h1,f,i,j,q,r,s,t,y⟩;go_simp<;>rfl) ?_;refine tA_ 7 rfl (by kernel_rfl) (λ _ _ _ h=>h) (by rintro W ⟨h1,f,i,j,q,r,s,t,y⟩;go_simp<;>rfl) ?_;refine tA_ 8 rfl (by kernel_rfl) (λ _ _ _ h=>h) (by rintro W ⟨h1,f,i,j,q,r,s,t,y⟩;go_simp<;>rfl) ?_;refine tA_ 9 rfl (by kernel_rfl) (λ _ _ _ h=>h) (by rintro W ⟨h1,f,i,j,q,r,s,t,y⟩;go_simp<;>rfl) ?_;refine tA_ 10 rfl (by kernel_rfl) (λ _ _ _ h=>h) (by rintro W ⟨h1,f,i,j,q,r,s,t,y⟩;go_simp<;>rfl) ?_;refine zu_ 11 rfl (by kernel_rfl) (I.o _ N.o.drew) (λ K1 a7=>?_);go_simp;refine(L.o _ N.o.drew).mono ?_;rintro e w5 ⟨rfl,O⟩;refine a7 _ _ ?_;clear a7 K1;have b6:=I.o _ (N.o.drew.trans O u_);replace O:=q_ O;refine tA_ 12 rfl (by kernel_rfl) (λ _ _ _ h=>h) (by rintro W ⟨h1,f,i,j,q,r,s,t,y⟩;go_simp<;>rfl) ?_;refine z8_ (by kernel_rfl) b6 ?_ _;clear b6 d6
 go_wp2_with fail
 try go_ret
 rw[J.o];exact⟨by simp only[az_];rfl,(C.o.trans N.o u_).drew.trans O.o u_⟩
end
open Go.RowKit
theorem zv1 {sb:BA}{l:List (Nat×Nat)}(h:sb.data.toList.map UInt8.toNat=l.map Prod.fst)(hn:n<l.length):n+1<=sb.size/\sb.extract n (n+1)=bts [(l.map Prod.fst).getD n 0]:=by
 have c:sb.size=l.length:=by
  have:=congrArg List.length h
  simpa using this
 have hg:sb.data.toList.getD n 0=UInt8.ofNat ((l.map Prod.fst).getD n 0):=by
  rw[<- h];simp only[bd_,bk_]
  have a:n<sb.data.toList.length:=by simpa using(show n<sb.size by omega)
  rw[an_ a]
  simp
 refine⟨by omega,?_⟩
 apply ByteArray.ext
 apply Array.toList_inj.1
 rw[ByteArray.data_extract,Array.toList_extract]
 have a:n<sb.data.toList.length:=by simpa using(show n<sb.size by omega)
 have e:(sb.data.toList.take (n+1)).drop n=[sb.data.toList.getD n 0]:=by
  rw[bi_,an_ a,List.drop_append_of_le_length (by simp;omega),bd_,an_ a]
  simp
 simp only[List.extract_eq_take_drop,List.drop_take] at *;have b:(bts [(l.map Prod.fst).getD n 0]).data.toList=[UInt8.ofNat ((l.map Prod.fst).getD n 0)]:=rfl;rw[b,<- hg]
 simpa using e
section
variable {w:World} {P Pd:Nat->Prop} {bz k:Nat} {ts:List TR} {env:Nat->Option PB}
theorem zya {c:Nat}{l:List (Nat×Nat)}{o:Option (Nat×Nat)}(he:env c=some (.enum l o)) (hc:z5_ c=true) (a4:n<l.length) (b6:l.length<=300) (Z:ZAt w P bz ts env) (hk:isT ts k (.leaf c p)) (R:DVal w Pd (.mk 101 (n:Int) noB [] []) (zb_ 101 (n:Int) noB vk vs)) :
 Calls prog 13 #[.pointer (some ⟨bz,0,none⟩),.agg (zb_ 101 (n:Int) noB vk vs).toArray,.int .i64 (k:Int)] w λ e w'=>e=.returned (.string (txT env (.mk 101 (n:Int) noB [] []) (.leaf c p)))/\Fr w w' (λ _=>False):=by
 have a2:65<=c/\c<=70:=by simpa[z5_] using hc
 obtain⟨q,J⟩:∃ q,c=65+q:=⟨c-65,by omega⟩
 have X:q<6:=by omega
 have f:=za4 q c J X
 have b9:(q:Int)<6:=by omega
 obtain⟨x,c1,rfl,a3⟩:=R.keys;obtain⟨y,c2,rfl,a6⟩:=R.sub;unfold isT at hk;obtain⟨g,m,a8,sv,z0,a9,z1,z2,ho,a5⟩:=Z.type hk;obtain⟨K,sn,L,rfl⟩:=zn_ ho;simp only at z1;have b5:=zk_ z0;have b7:=zk_ z1
 have b4:(k:Int)<(m:Int):=by omega
 refine hq_ λ a7 T=>?_;obtain⟨so,fv,sb,F,G,hN,y0,y1,y2,y3,y4⟩:=Z.named X (by rw[<- J];exact he);obtain⟨⟨z,B,A,rfl⟩,_,rfl,a0⟩:=hN;obtain⟨d0,Y⟩:=zv1 a0 a4
 have V:txT env (.mk 101 (n:Int) noB [] []) (.leaf c p)=sb.extract n (n+1):=by
  conv=>lhs;unfold txT
  rw[if_neg (by decide),if_neg (by decide),if_neg (by decide),if_neg (by decide),if_neg (by decide),if_pos rfl,bm_,Y]
  congr 2
  simp[symL,he]
 rw[V] at T;obtain⟨d,u⟩:∃ d,d=(w.alloc (.cells (zb_ 101 (n:Int) noB (.slice x 0 c1) (.slice y 0 c2)).toArray 37)).alloc (.cells #[.int .u8 (c:Int),.slice K sn L] 77):=⟨_,rfl⟩;have H:Fr w d (λ _=>False):=u▸((Fr.refl w _).alloc _).alloc _;have S:Blk d w.heap.size (zb_ 101 (n:Int) noB (.slice x 0 c1) (.slice y 0 c2)) 37:=u▸(Blk.new w _ _).alloc _
 have U:Blk d (w.heap.size+1) [.int .u8 (c:Int),.slice K sn L] 77:=by
  have:=Blk.new (w.alloc (.cells (zb_ 101 (n:Int) noB (.slice x 0 c1) (.slice y 0 c2)).toArray 37)) #[.int .u8 (c:Int),.slice K sn L] 77;rw[show(w.alloc (.cells (zb_ 101 (n:Int) noB (.slice x 0 c1) (.slice y 0 c2)).toArray 37)).heap.size=w.heap.size+1 by simp] at this;rw[u];exact this
 have E:∀ (W:World),Fr d W (λ _=>False)->(W.cell? ⟨w.heap.size+1,0,none⟩=some (.int .u8 (c:Int))/\W.cell? ⟨bz,1+q*5,none⟩=some (.int .u8 101)/\W.cell? ⟨bz,1+q*5+1,none⟩=some (.slice z B A)/\W.cell? ⟨bz,1+q*5+2,none⟩=some (.string sb)/\W.cell? ⟨bz,1+q*5+3,none⟩=some (.int .i64 F)/\W.cell? ⟨bz,1+q*5+4,none⟩=some (.int .i64 G)):=λ W I=>by
  have hF:=H.trans I u_;have D:∀ (b o:Nat) (v:Value),w.cell? ⟨b,o,none⟩=some v->W.cell? ⟨b,o,none⟩=some v:=λ b o v h=>(World.cell?_of_block (a:=⟨b,o,none⟩) (hF.block b (World.block_lt_of_cell? w ⟨b,o,none⟩ h) id)).trans h;have hT:=I.blk U id;exact⟨hT.cell 0,D _ _ _ y0,D _ _ _ y1,D _ _ _ y2,D _ _ _ y3,D _ _ _ y4⟩
 have Q:∀ (W:World),Fr d W (λ _=>False)->W.cell? ⟨w.heap.size,1,none⟩=some (.int .i64 (n:Int)):=λ W I=>(I.blk S id).cell 1
 have a1:d.heap.size=w.heap.size+2:=by rw[u];simp
 have b8:(n:Int)<=300:=by omega
 have d1:(n:Int)+1<=(sb.size:Int):=by omega
 replace E:=q_ E;replace Q:=q_ Q;replace H:=q_ H;replace J:=q_ J;replace u:=q_ u;clear a3 a6 Z R ho a5 hk a0 Y V U S y0 y1 y2 y3 y4 he hc a2;simp only[zb_,af_,ao_]
 go_in
 go_wp2_with fail
 change Code.wp _ _ _ _ ((w.alloc (.cells (zb_ 101 (n:Int) noB (.slice x 0 c1) (.slice y 0 c2)).toArray 37)).alloc (.cells #[.int .u8 (c:Int),.slice K sn L] 77));rw[<- u.o];refine z9_ (λ W=>W.cell? ⟨w.heap.size+1,0,none⟩=some (.int .u8 (c:Int))/\W.cell? ⟨bz,1+q*5,none⟩=some (.int .u8 101)/\W.cell? ⟨bz,1+q*5+1,none⟩=some (.slice z B A)/\W.cell? ⟨bz,1+q*5+2,none⟩=some (.string sb)/\W.cell? ⟨bz,1+q*5+3,none⟩=some (.int .i64 F)/\W.cell? ⟨bz,1+q*5+4,none⟩=some (.int .i64 G)) (by kernel_rfl) ?_;refine tA_ 0 rfl (by kernel_rfl) (λ _ _ _ h=>h) (by rintro W ⟨h1,i,j,r,s,t⟩;go_simp<;>first|rfl|exact f) ?_;refine tA_ 1 rfl (by kernel_rfl) (λ _ _ _ h=>h) (by rintro W ⟨h1,i,j,r,s,t⟩;go_simp<;>first|rfl|exact f) ?_;refine tA_ 2 rfl (by kernel_rfl) (λ _ _ _ h=>h) (by rintro W ⟨h1,i,j,r,s,t⟩;go_simp<;>first|rfl|exact f) ?_;refine tA_ 3 rfl (by kernel_rfl) (λ _ _ _ h=>h) (by rintro W ⟨h1,i,j,r,s,t⟩;go_simp<;>first|rfl|exact f) ?_;refine tA_ 4 rfl (by kernel_rfl) (λ _ _ _ h=>h) (by rintro W ⟨h1,i,j,r,s,t⟩;go_simp<;>first|rfl|exact f) ?_;refine tA_ 5 rfl (by kernel_rfl) (λ _ _ _ h=>h) (by rintro W ⟨h1,i,j,r,s,t⟩;go_simp<;>first|rfl|exact f) ?_;refine tA_ 6 rfl (by kernel_rfl) (λ _ _ _ h=>h) (by rintro W ⟨h1,i,j,r,s,t⟩;go_simp<;>first|rfl|exact f) ?_;refine tA_ 7 rfl (by kernel_rfl) (λ _ _ _ h=>h) (by rintro W ⟨h1,i,j,r,s,t⟩;go_simp<;>first|rfl|exact f) ?_;refine tA_ 8 rfl (by kernel_rfl) (λ _ _ _ h=>h) (by rintro W ⟨h1,i,j,r,s,t⟩;go_simp<;>first|rfl|exact f) ?_;refine zu_ 9 rfl (by kernel_rfl) (E.o _ ((Fr.refl d _).drew)) (λ N C=>?_);go_simp;refine C _ _ ?_;clear C N;refine zu_ 10 rfl (by kernel_rfl) (E.o _ (((Fr.refl d _).alloc _).drew)) (λ N C=>?_);go_simp;refine C _ _ ?_;clear C N;refine z8_ (by kernel_rfl) (E.o _ (((Fr.refl d _).alloc _).drew)) ?_ _;have O:=Blk.new d #[.int .u8 101,.slice z B A,.string sb,.int .i64 F,.int .i64 G] 44;rw[a1] at O;have n2:=O.c2;have M:=(Fr.refl d (λ _=>False)).alloc (.cells #[.int .u8 101,.slice z B A,.string sb,.int .i64 F,.int .i64 G] 44);have b1:=Q.o _ M;have F9:=q_ (H.o.trans M u_);generalize d.alloc (.cells #[.int .u8 101,.slice z B A,.string sb,.int .i64 F,.int .i64 G] 44)=W9 at *;clear a1 O M
 go_wp2_with fail
 try go_ret
 rw[T.o];exact⟨rfl,F9.o.drew⟩
end
open Go.RowKit
section
variable {w:World} {P Pd:Nat->Prop} {bz k:Nat} {ts:List TR} {env:Nat->Option PB}
theorem zx5 {m0 c:Nat}(ih:WtOK env m0){fs:List PF}{ds:List DT}(hm:1+ndTs ds<=m0+1) (hb:1+ndTs ds<=100000) (he:env c=some (.recd fs)) (b6:z5_ c=true) (a0:ds.length=fs.length) (Y:∀ (i:Nat) (d:DT) (g:PF),ds[i]?=some d->fs[i]?=some g->FitT env d g.ty) (hu:∀ g∈fs,okT env g.ty) (Z:ZAt w P bz ts env) (hk:isT ts k (.leaf c p)) (U:DVal w Pd (.mk 114 0 noB [] ds) (zb_ 114 0 noB vk vs)) (B:okD (.mk 114 0 noB [] ds)) :
 Calls prog 13 #[.pointer (some ⟨bz,0,none⟩),.agg (zb_ 114 0 noB vk vs).toArray,.int .i64 (k:Int)] w λ e w'=>e=.returned (.string (txT env (.mk 114 0 noB [] ds) (.leaf c p)))/\Fr w w' (λ _=>False):=by
 have d8:65<=c/\c<=70:=by simpa[z5_] using b6
 obtain⟨I,Q⟩:∃ q,c=65+q:=⟨c-65,by omega⟩
 have b9:I<6:=by omega
 have f:=za4 I c Q b9
 have g6:(I:Int)<6:=by omega
 obtain⟨K,c1,rfl,e5⟩:=U.keys;obtain⟨L,c2,rfl,a5⟩:=U.sub;unfold isT at hk;obtain⟨g,m,f5,sv,z0,f8,z1,z2,ho,e8⟩:=Z.type hk;obtain⟨sa,sn,sc,rfl⟩:=zn_ ho;simp only at z1;have g0:=zk_ z0;have g1:=zk_ z1
 have f9:(k:Int)<(m:Int):=by omega
 refine hq_ λ f4 S=>?_
 have b5:txT env (.mk 114 0 noB [] ds) (.leaf c p)=bts [40]++(jn 0 (txTs env (.leaf c p) 0 0 false [] ds)++bts [41]):=by
  conv=>lhs;unfold txT
  rw[if_neg (by decide),if_neg (by decide),if_neg (by decide),if_neg (by decide),if_neg (by decide),if_neg (by decide),if_neg (by decide)]
  rfl
 rw[b5] at S;obtain⟨so,fv,sb,o2,zz,hN,y0,y1,y2,y3,y4⟩:=Z.named b9 (by rw[<- Q];exact he);obtain⟨_,_,_,xs,O,a2⟩:=hN;obtain⟨x,E⟩:∃ x,x=(w.alloc (.cells (zb_ 114 0 noB (.slice K 0 c1) (.slice L ds.length c2)).toArray 37)).alloc (.cells #[.int .u8 (c:Int),.slice sa sn sc] 77):=⟨_,rfl⟩;have F0:Fr w x (λ _=>False):=E▸((Fr.refl w _).alloc _).alloc _;have J:Blk x w.heap.size (zb_ 114 0 noB (.slice K 0 c1) (.slice L ds.length c2)) 37:=E▸(Blk.new w _ _).alloc _
 have T:Blk x (w.heap.size+1) [.int .u8 (c:Int),.slice sa sn sc] 77:=by
  have:=Blk.new (w.alloc (.cells (zb_ 114 0 noB (.slice K 0 c1) (.slice L ds.length c2)).toArray 37)) #[.int .u8 (c:Int),.slice sa sn sc] 77;rw[show(w.alloc (.cells (zb_ 114 0 noB (.slice K 0 c1) (.slice L ds.length c2)).toArray 37)).heap.size=w.heap.size+1 by simp] at this;rw[E];exact this
 obtain⟨t,R⟩:∃ t,t=PT.leaf c p:=⟨_,rfl⟩
 have a4:∀ (q:Nat) (g:PF),fs[q]?=some g->xl_ env t 0 q=g.ty:=λ q g e=>by rw[R];simp[xl_,he,bd_,e]
 rw[<- R] at S;have d2:H_ (∀ W,W=x->∃ q:Nat,Value.string ⟨#[]⟩=.string (upT env t 0 false [] ds q)/\Value.int .i64 0=.int .i64 (q:Int)/\q<=ds.length/\ds.length+1-q<=ds.length+1/\Fr w W (λ _=>False)/\Fr x W (λ _=>False)):=q_ (λ W e=>⟨0,by rw[zcj];rfl,rfl,ak_ _,by omega,e▸F0,e▸Fr.refl _ _⟩);unfold okD at B;replace B:=q_ B;replace a5:=q_ a5;replace J:=q_ J;replace T:=q_ T;replace a4:=q_ a4;replace R:=q_ R;replace Z:=q_ Z;replace Y:=q_ Y;replace O:=q_ O;replace a2:=q_ a2;replace hu:=q_ hu;replace a0:=q_ a0;replace Q:=q_ Q;replace y1:=q_ y1;have f7:=zbt ds;replace E:=q_ E;clear U e8 ho b5 hk F0 e5 he b6 d8 y0 y2 y3 y4;simp only[zb_,af_,ao_]
 go_in
 go_wp2_with fail
 have a6:=q_ (d2.o _ E.o.symm);simp only[zb_,af_] at a6
 go_loopg [11,12,13,14] (ds.length+1) (λ m f2 f3 g7 g8 W=>∃ q:Nat,f2=.string (upT env t 0 false [] ds q)/\f3=.int .i64 (q:Int)/\q<=ds.length/\ds.length+1-q<=m/\Fr w W (λ _=>False)/\Fr x W (λ _=>False))
 case atStart=>exact a6.o
 case round=>
  clear d2 a6;obtain⟨q,rfl,rfl,hq,g3,s,z⟩:=hrel;have b0:=(z.blk J.o id).cell 0;have b4:=(z.blk J.o id).cell 4;have u0:=(z.blk T.o id).cell 0;simp only[zb_,aa_,ab_,af_] at b0 b4 u0
  by_cases N:q<ds.length
  ·have e6:(q:Int)<(ds.length:Int):=by omega
   have hd:ds[q]?=some ds[q]:=an_ N;have a1:ds[q]∈ds:=a0_ N;generalize ds[q]=d at hd a1
   have e7:q<fs.length:=by have:=a0.o;omega
   have g2:(q:Int)<(fs.length:Int):=by omega
   obtain⟨y,A⟩:∃ g,fs[q]?=some g:=⟨_,an_ e7⟩;obtain⟨num,d1,b8⟩:=a2.o q y A;obtain⟨M,fc,d9⟩:=zh_ O.o (by omega);subst d9;have zn:=zp_ O.o rfl d1;rw[a2_] at zn;obtain⟨g5,k',n',f1,g9,h2,rfl,a9,⟨x1,w1,h3,rfl⟩,⟨x2,w2,h4,rfl⟩,c0,a7,a8,c3,c4⟩:=a5.o q d hd;obtain⟨t1,t2⟩:=zbe hd;have a3:=zfq B.o.2.2.2.2.2 d a1;have F:∀ W,Fr wr W (λ _=>False)->_:=λ W hW=>ih d (by omega) (by omega) a3 y.ty (Y.o q d y hd A) (hu.o y (aw_ A)) W P Pd bz ts num ((Z.o.fr s u_).fr hW u_) b8 k' n' f1 _ _ ((a9.fr s u_).fr hW u_);have u:∀ (b o:Nat) (v:Value),w.cell? ⟨b,o,none⟩=some v->wr.cell? ⟨b,o,none⟩=some v:=λ b o v h=>(World.cell?_of_block (a:=⟨b,o,none⟩) (s.block b (World.block_lt_of_cell? w ⟨b,o,none⟩ h) id)).trans h;have e0:=u _ _ _ c0;have e1:=u _ _ _ a7;have e2:=u _ _ _ a8;have e3:=u _ _ _ c3;have e4:=u _ _ _ c4;have d6:=u _ _ _ zn;have yy:=u _ _ _ y1.o;have d0:=zbp env d y.ty a3;have D:=vv_ env t 0 false [] ds q (by simp) B.o.2.2.2.2.2;have r:=zck (env:=env) (t:=t) (n:=0) (keyed:=false) (ks:=[]) hd;simp only[itT,a4.o q y A] at r;obtain⟨bd,X⟩:∃ b,txT env d y.ty=b:=⟨_,rfl⟩;obtain⟨ZZ,V⟩:∃ Z,upT env t 0 false [] ds q=Z:=⟨_,rfl⟩;rw[X] at F r d0;rw[V] at r D⊢
   have f6:bd.size<=900000000:=by omega
   have d7:ZZ.size<=900000000:=by omega
   have g4:q<=100000:=by omega
   replace F:=q_ F;replace V:=q_ V;replace X:=q_ X;replace hd:=q_ hd;replace A:=q_ A;have hf:=q_ s;have b7:=q_ z;clear c0 a7 a8 c3 c4 u d0 D t1 t2 a9 a3 s z a1 zn d1 b8
   by_cases C:q=0
   ·have e9:¬ (0:Int)<(q:Int):=by omega
    have f0:¬ 0<q:=by omega
    rw[if_pos C] at r;replace r:=q_ r;replace C:=q_ C
    go_wp2_with fail
    refine z9_ (λ W=>W.cell? ⟨w.heap.size+1,0,none⟩=some (.int .u8 (c:Int))/\W.cell? ⟨bz,1+I*5+1,none⟩=some (.slice (some ⟨M,0,none⟩) fs.length fc)/\W.cell? ⟨M,q*10+1,none⟩=some (.int .i64 (num:Int))) (by kernel_rfl) ?_;refine tA_ 0 rfl (by kernel_rfl) (λ _ _ _ h=>h) (by rintro W ⟨h1,j,l⟩;go_simp<;>first|rfl|exact f) ?_;refine tA_ 1 rfl (by kernel_rfl) (λ _ _ _ h=>h) (by rintro W ⟨h1,j,l⟩;go_simp<;>first|rfl|exact f) ?_;refine tA_ 2 rfl (by kernel_rfl) (λ _ _ _ h=>h) (by rintro W ⟨h1,j,l⟩;go_simp<;>first|rfl|exact f) ?_;refine tA_ 3 rfl (by kernel_rfl) (λ _ _ _ h=>h) (by rintro W ⟨h1,j,l⟩;go_simp<;>first|rfl|exact f) ?_;refine tA_ 4 rfl (by kernel_rfl) (λ _ _ _ h=>h) (by rintro W ⟨h1,j,l⟩;go_simp<;>first|rfl|exact f) ?_;refine tA_ 5 rfl (by kernel_rfl) (λ _ _ _ h=>h) (by rintro W ⟨h1,j,l⟩;go_simp<;>first|rfl|exact f) ?_;refine tA_ 6 rfl (by kernel_rfl) (λ _ _ _ h=>h) (by rintro W ⟨h1,j,l⟩;go_simp<;>first|rfl|exact f) ?_;refine tA_ 7 rfl (by kernel_rfl) (λ _ _ _ h=>h) (by rintro W ⟨h1,j,l⟩;go_simp<;>first|rfl|exact f) ?_;refine tA_ 8 rfl (by kernel_rfl) (λ _ _ _ h=>h) (by rintro W ⟨h1,j,l⟩;go_simp<;>first|rfl|exact f) ?_;refine tA_ 9 rfl (by kernel_rfl) (λ _ _ _ h=>h) (by rintro W ⟨h1,j,l⟩;go_simp<;>first|rfl|exact f) ?_;refine tA_ 10 rfl (by kernel_rfl) (λ _ _ _ h=>h) (by rintro W ⟨h1,j,l⟩;go_simp<;>first|rfl|exact f) ?_;refine tA_ 11 rfl (by kernel_rfl) (λ _ _ _ h=>h) (by rintro W ⟨h1,j,l⟩;go_simp<;>first|rfl|exact f) ?_;refine tA_ 12 rfl (by kernel_rfl) (λ _ _ _ h=>h) (by rintro W ⟨h1,j,l⟩;go_simp<;>first|rfl|exact f) ?_;refine tA_ 13 rfl (by kernel_rfl) (λ _ _ _ h=>h) (by rintro W ⟨h1,j,l⟩;go_simp<;>first|rfl|exact f) ?_;refine tA_ 14 rfl (by kernel_rfl) (λ _ _ _ h=>h) (by rintro W ⟨h1,j,l⟩;go_simp<;>first|rfl|exact f) ?_;refine z8_ (by kernel_rfl) ⟨u0,yy,d6⟩ ?_ _
    go_wp2_with (go_at_call 13;refine(F.o _ ((Fr.refl wr _).drew)).mono ?_;rintro e w5 ⟨rfl,G⟩;have H:=q_ ((Fr.refl wr (λ _=>False)).drew.trans G u_);clear G)
    go_roundg (ds.length+1-(q+1))
    case measure=>omega
    case rel=>
     refine⟨q+1,?_,by simp,N,l_,hf.o.trans H.o u_,b7.o.trans H.o u_⟩;rw[r.o];simp only[a3_,if_false,ja_]
   ·have e9:(0:Int)<(q:Int):=by omega
    have f0:0<q:=by omega
    rw[if_neg C] at r;replace r:=q_ r;replace C:=q_ C
    go_wp2_with fail
    refine z9_ (λ W=>W.cell? ⟨w.heap.size+1,0,none⟩=some (.int .u8 (c:Int))/\W.cell? ⟨bz,1+I*5+1,none⟩=some (.slice (some ⟨M,0,none⟩) fs.length fc)/\W.cell? ⟨M,q*10+1,none⟩=some (.int .i64 (num:Int))) (by kernel_rfl) ?_;refine tA_ 0 rfl (by kernel_rfl) (λ _ _ _ h=>h) (by rintro W ⟨h1,j,l⟩;go_simp<;>first|rfl|exact f) ?_;refine tA_ 1 rfl (by kernel_rfl) (λ _ _ _ h=>h) (by rintro W ⟨h1,j,l⟩;go_simp<;>first|rfl|exact f) ?_;refine tA_ 2 rfl (by kernel_rfl) (λ _ _ _ h=>h) (by rintro W ⟨h1,j,l⟩;go_simp<;>first|rfl|exact f) ?_;refine tA_ 3 rfl (by kernel_rfl) (λ _ _ _ h=>h) (by rintro W ⟨h1,j,l⟩;go_simp<;>first|rfl|exact f) ?_;refine tA_ 4 rfl (by kernel_rfl) (λ _ _ _ h=>h) (by rintro W ⟨h1,j,l⟩;go_simp<;>first|rfl|exact f) ?_;refine tA_ 5 rfl (by kernel_rfl) (λ _ _ _ h=>h) (by rintro W ⟨h1,j,l⟩;go_simp<;>first|rfl|exact f) ?_;refine tA_ 6 rfl (by kernel_rfl) (λ _ _ _ h=>h) (by rintro W ⟨h1,j,l⟩;go_simp<;>first|rfl|exact f) ?_;refine tA_ 7 rfl (by kernel_rfl) (λ _ _ _ h=>h) (by rintro W ⟨h1,j,l⟩;go_simp<;>first|rfl|exact f) ?_;refine tA_ 8 rfl (by kernel_rfl) (λ _ _ _ h=>h) (by rintro W ⟨h1,j,l⟩;go_simp<;>first|rfl|exact f) ?_;refine tA_ 9 rfl (by kernel_rfl) (λ _ _ _ h=>h) (by rintro W ⟨h1,j,l⟩;go_simp<;>first|rfl|exact f) ?_;refine tA_ 10 rfl (by kernel_rfl) (λ _ _ _ h=>h) (by rintro W ⟨h1,j,l⟩;go_simp<;>first|rfl|exact f) ?_;refine tA_ 11 rfl (by kernel_rfl) (λ _ _ _ h=>h) (by rintro W ⟨h1,j,l⟩;go_simp<;>first|rfl|exact f) ?_;refine tA_ 12 rfl (by kernel_rfl) (λ _ _ _ h=>h) (by rintro W ⟨h1,j,l⟩;go_simp<;>first|rfl|exact f) ?_;refine tA_ 13 rfl (by kernel_rfl) (λ _ _ _ h=>h) (by rintro W ⟨h1,j,l⟩;go_simp<;>first|rfl|exact f) ?_;refine tA_ 14 rfl (by kernel_rfl) (λ _ _ _ h=>h) (by rintro W ⟨h1,j,l⟩;go_simp<;>first|rfl|exact f) ?_;refine z8_ (by kernel_rfl) ⟨u0,yy,d6⟩ ?_ _
    go_wp2_with (go_at_call 13;refine(F.o _ ((Fr.refl wr _).drew)).mono ?_;rintro e w5 ⟨rfl,G⟩;have H:=q_ ((Fr.refl wr (λ _=>False)).drew.trans G u_);clear G)
    go_roundg (ds.length+1-(q+1))
    case measure=>omega
    case rel=>
     refine⟨q+1,?_,by simp,N,l_,hf.o.trans H.o u_,b7.o.trans H.o u_⟩;rw[r.o];simp only[a3_,if_false,ja_,az_]
     rfl
  ·have e6:¬ ((q:Int)<(ds.length:Int)):=by omega
   have D:=vv_ env t 0 false [] ds q (by simp) B.o.2.2.2.2.2;rw[bu_ (by omega)] at D;rw[ze9 (by omega)] at D⊢
   have d7:(jn 0 (txTs env t 0 0 false [] ds)).size<=900000000:=by omega
   replace s:=q_ s;clear z D
   go_wp2_with fail
   try go_ret
   rw[S.o];exact⟨by rw[<- az_];rfl,s.o⟩
theorem zjd (g:zhz env):∀ m,WtOK env m:=by
 intro m
 induction m with
 | zero=>intro d h;obtain⟨_,_,_,_,_⟩:=d;unfold ndT at h;omega
 | succ m ih=>
  intro d e hb b t l c w P Pd bz ts k Z hk i n tx vk vs a;obtain⟨o,q,r,ks,ds⟩:=d
  obtain⟨rfl,rfl,rfl⟩:o=i/\q=n/\r=tx:=by
   generalize f:zb_ i n tx vk vs=v at a
   cases a with
   | mk X hk hkP hs hsP hd=>
    simp only[zb_,List.cons.injEq,and_true,Value.int.injEq,Value.string.injEq,true_and] at f;exact⟨by omega,f.2.1.symm,f.2.2.1.symm⟩
  unfold ndT at e hb
  cases l with
  | flat h=>
   rcases h with rfl|rfl|rfl|rfl|rfl|rfl
   ·exact zx6 Z hk a b
   ·exact zx3 Z hk a b
   ·exact zx8 Z hk a b
   ·exact zx7 Z hk a b
   ·exact zx4 Z hk a b
   ·exact zx9 Z hk a b
  | wrap h=>
   unfold okT at c
   rcases c.1 with rfl|rfl
   ·exact zzt ih e hb h c.2 Z hk a b
   ·exact zx2 ih e hb h c.2 Z hk a b
  | alts hl h=>
   unfold okT at c;simp only[ndTs,bp_] at e hb;exact zzu ih e hb hl h (zfo c.2 _ (aw_ hl)).2 Z hk a b
  | sym he hnb hn=>
   unfold okT at c;have j:=(g _ _ he).2
   exact zya he (by
    rcases c with h|h
    ·exact absurd h hnb
    ·exact h.1) hn j Z hk a
  | recd he hnb hl h=>
   unfold okT at c
   exact zx5 ih e hb he (by
    rcases c with h|h
    ·exact absurd h hnb
    ·exact h.1) hl h (g _ _ he) Z hk a b
end
end Go.Proofs.YtiifagiebikmdaaGreatDoor
