import Derived.Test.YtiifagiebikmdaaGreatDoorW18
import Derived.Test.YtiifagiebikmdaaGreatDoorW34
import Derived.Test.YtiifagiebikmdaaGreatDoorA00
set_option maxHeartbeats 16000000
set_option maxRecDepth 100000
set_option linter.unusedSimpArgs false
open Go.Proofs.Tryz
namespace Go.Proofs.YtiifagiebikmdaaGreatDoor
open Go.RowKit
def WtOK (env:Nat->Option PB) (m:Nat):Prop:=∀ (d:DT),ndT d<=m->ndT d<=100000->okD d->∀ (t:PT),FitT env d t->okT env t->∀ (w:World) (P Pd:Nat->Prop) (bz:Nat) (ts:List TR) (k:Nat),ZAt w P bz ts env->isT ts k t->∀ (kk:Nat) (n:Int) (tx:BA) (vk vs:Value),DVal w Pd d (zb_ kk n tx vk vs)->
 Calls prog 13 #[.pointer (some ⟨bz,0,none⟩),.agg (zb_ kk n tx vk vs).toArray,.int .i64 (k:Int)] w λ e w'=>e=.returned (.string (txT env d t))/\Fr w w' (λ _=>False)
section
variable {w:World} {P Pd:Nat->Prop} {bz k:Nat} {ts:List TR} {env:Nat->Option PB}
theorem zzt {m0 p:Nat}(ih:WtOK env m0){u:PT}{ks:List BA}{ds:List DT}{vk vs:Value}(hm:1+ndTs ds<=m0+1) (hb:1+ndTs ds<=100000) (Q:∀ (i:Nat) (d:DT),ds[i]?=some d->FitT env d u) (hu:okT env u) (Z:ZAt w P bz ts env) (hk:isT ts k (.wrap 91 p u)) (M:DVal w Pd (.mk 91 0 noB ks ds) (zb_ 91 0 noB vk vs)) (j:okD (.mk 91 0 noB ks ds)) :
 Calls prog 13 #[.pointer (some ⟨bz,0,none⟩),.agg (zb_ 91 0 noB vk vs).toArray,.int .i64 (k:Int)] w λ e w'=>e=.returned (.string (txT env (.mk 91 0 noB ks ds) (.wrap 91 p u)))/\Fr w w' (λ _=>False):=by
 obtain⟨E,c1,rfl,a5⟩:=M.keys;obtain⟨F,c2,rfl,V⟩:=M.sub;unfold isT at hk;obtain⟨jt,a7,R⟩:=hk;obtain⟨g,m,d7,sv,z0,e5,z1,z2,ho,b7⟩:=Z.type a7;simp only[aq_,ao_,ay_,a6_,af_] at ho z1;obtain⟨L,cs,rfl⟩:=zh_ ho (by omega);have I:=zp_ ho rfl (k:=0) (x:=.int .i64 (jt:Int)) rfl;have e7:=zk_ z0;have e8:=zk_ z1;have e9:=zk_ I
 have e6:(k:Int)<(m:Int):=by omega
 refine hq_ λ d6 J=>?_
 have a3:txT env (.mk 91 0 noB ks ds) (.wrap 91 p u)=bts [91]++(jn 0 (txTs env (.wrap 91 p u) 0 0 false ks ds)++bts [93]):=by
  conv=>lhs;unfold txT
  rw[if_neg (by decide),if_neg (by decide),if_neg (by decide),if_neg (by decide),if_neg (by decide),if_neg (by decide),if_neg (by decide)]
  rfl
 rw[a3] at J;obtain⟨r,B⟩:∃ r,r=(w.alloc (.cells (zb_ 91 0 noB (.slice E ks.length c1) (.slice F ds.length c2)).toArray 37)).alloc (.cells #[.int .u8 91,.slice (some ⟨L,0,none⟩) 1 cs] 77):=⟨_,rfl⟩;have Y:Fr w r (λ _=>False):=B▸((Fr.refl w _).alloc _).alloc _;have C:Blk r w.heap.size (zb_ 91 0 noB (.slice E ks.length c1) (.slice F ds.length c2)) 37:=B▸(Blk.new w _ _).alloc _
 have K:Blk r (w.heap.size+1) [.int .u8 91,.slice (some ⟨L,0,none⟩) 1 cs] 77:=by
  have:=Blk.new (w.alloc (.cells (zb_ 91 0 noB (.slice E ks.length c1) (.slice F ds.length c2)).toArray 37)) #[.int .u8 91,.slice (some ⟨L,0,none⟩) 1 cs] 77;rw[show(w.alloc (.cells (zb_ 91 0 noB (.slice E ks.length c1) (.slice F ds.length c2)).toArray 37)).heap.size=w.heap.size+1 by simp] at this;rw[B];exact this
 obtain⟨t,H⟩:∃ t,t=PT.wrap 91 p u:=⟨_,rfl⟩
 have U:∀ q,xl_ env t 0 q=u:=λ q=>by rw[H];rfl
 rw[<- H] at J;have a8:H_ (∀ W,W=r->∃ q:Nat,Value.string ⟨#[]⟩=.string (upT env t 0 false ks ds q)/\Value.int .i64 0=.int .i64 (q:Int)/\q<=ds.length/\ds.length+1-q<=ds.length+1/\Fr w W (λ _=>False)/\Fr r W (λ _=>False)):=q_ (λ W e=>⟨0,by rw[zcj];rfl,rfl,ak_ _,by omega,e▸Y,e▸Fr.refl _ _⟩);have b5:=j;unfold okD at j;replace j:=q_ j;replace a5:=q_ a5;replace V:=q_ V;replace C:=q_ C;replace K:=q_ K;replace U:=q_ U;replace H:=q_ H;replace Z:=q_ Z;replace R:=q_ R;replace Q:=q_ Q;replace I:=q_ I;have d9:=zbt ds;replace B:=q_ B;clear M b7 ho a3 a7 b5 Y;simp only[zb_,af_]
 go_in
 go_wp2_with fail
 have X:=q_ (a8.o _ B.o.symm);simp only[zb_,af_] at X
 go_loopg [11,12,13,14] (ds.length+1) (λ m d1 d2 f2 f3 W=>∃ q:Nat,d1=.string (upT env t 0 false ks ds q)/\d2=.int .i64 (q:Int)/\q<=ds.length/\ds.length+1-q<=m/\Fr w W (λ _=>False)/\Fr r W (λ _=>False))
 case atStart=>exact X.o
 case round=>
  clear a8 X;obtain⟨q,rfl,rfl,hq,f0,l,s⟩:=hrel;have b0:=(s.blk C.o id).cell 0;have b3:=(s.blk C.o id).cell 3;have b4:=(s.blk C.o id).cell 4;have y1:=(s.blk K.o id).cell 1;simp only[zb_,aa_,ab_,af_] at b0 b3 b4 y1
  by_cases G:q<ds.length
  ·have b6:(q:Int)<(ds.length:Int):=by omega
   have hd:ds[q]?=some ds[q]:=an_ G;have S:ds[q]∈ds:=a0_ G;generalize ds[q]=d at hd S;obtain⟨g5,k',n',d0,f4,f5,rfl,a2,⟨x1,w1,f6,rfl⟩,⟨x2,w2,f7,rfl⟩,c0,a0,a1,c3,c4⟩:=V.o q d hd;obtain⟨t1,t2⟩:=zbe hd;have T:=zfq j.o.2.2.2.2.2 d S;have D:=ih d (by omega) (by omega) T u (Q.o q d hd) hu wr P Pd bz ts jt (Z.o.fr l u_) R.o k' n' d0 _ _ (a2.fr l u_);have y:∀ (b o:Nat) (v:Value),w.cell? ⟨b,o,none⟩=some v->wr.cell? ⟨b,o,none⟩=some v:=λ b o v h=>(World.cell?_of_block (a:=⟨b,o,none⟩) (l.block b (World.block_lt_of_cell? w ⟨b,o,none⟩ h) id)).trans h;have e0:=y _ _ _ c0;have e1:=y _ _ _ a0;have e2:=y _ _ _ a1;have e3:=y _ _ _ c3;have e4:=y _ _ _ c4;have f8:=y _ _ _ I.o;have a6:=zbp env d u T;have A:=vv_ env t 0 false ks ds q j.o.2.2.2.1 j.o.2.2.2.2.2;have c:=zck (env:=env) (t:=t) (n:=0) (keyed:=false) (ks:=ks) hd;simp only[itT,U.o] at c;obtain⟨bd,O⟩:∃ b,txT env d u=b:=⟨_,rfl⟩;obtain⟨ZZ,N⟩:∃ Z,upT env t 0 false ks ds q=Z:=⟨_,rfl⟩;rw[O] at D c a6;rw[N] at c A⊢
   have d8:bd.size<=900000000:=by omega
   have a9:ZZ.size<=900000000:=by omega
   have f1:q<=100000:=by omega
   replace D:=q_ D;replace N:=q_ N;replace O:=q_ O;replace hd:=q_ hd;have hf:=q_ l;have a4:=q_ s;clear c0 a0 a1 c3 c4 y a6 A t1 t2 a2 T l s S
   by_cases z:q=0
   ·have b8:¬ (0:Int)<(q:Int):=by omega
    have b9:¬ 0<q:=by omega
    rw[if_pos z] at c;replace c:=q_ c;replace z:=q_ z
    go_wp2_with (go_at_call 13;refine D.o.mono ?_;rintro e w5 ⟨rfl,f⟩;replace f:=q_ f)
    go_roundg (ds.length+1-(q+1))
    case measure=>omega
    case rel=>
     refine⟨q+1,?_,by simp,G,l_,hf.o.trans f.o u_,a4.o.trans f.o u_⟩;rw[c.o];simp only[a3_,if_false,ja_]
   ·have b8:(0:Int)<(q:Int):=by omega
    have b9:0<q:=by omega
    rw[if_neg z] at c;replace c:=q_ c;replace z:=q_ z
    go_wp2_with (go_at_call 13;refine D.o.mono ?_;rintro e w5 ⟨rfl,f⟩;replace f:=q_ f)
    go_roundg (ds.length+1-(q+1))
    case measure=>omega
    case rel=>
     refine⟨q+1,?_,by simp,G,l_,hf.o.trans f.o u_,a4.o.trans f.o u_⟩;rw[c.o];simp only[a3_,if_false,ja_,az_]
     rfl
  ·have b6:¬ ((q:Int)<(ds.length:Int)):=by omega
   have A:=vv_ env t 0 false ks ds q j.o.2.2.2.1 j.o.2.2.2.2.2;rw[bu_ (by omega)] at A;rw[ze9 (by omega)] at A⊢
   have a9:(jn 0 (txTs env t 0 0 false ks ds)).size<=900000000:=by omega
   replace l:=q_ l;clear s b3 A
   go_wp2_with fail
   try go_ret
   rw[J.o];exact⟨by rw[<- az_];rfl,l.o⟩
theorem zx2 {m0 p:Nat}(ih:WtOK env m0){u:PT}{ks:List BA}{ds:List DT}{vk vs:Value}(hm:1+ndTs ds<=m0+1) (hb:1+ndTs ds<=100000) (Q:∀ (i:Nat) (d:DT),ds[i]?=some d->FitT env d u) (hu:okT env u) (Z:ZAt w P bz ts env) (hk:isT ts k (.wrap 123 p u)) (M:DVal w Pd (.mk 123 0 noB ks ds) (zb_ 123 0 noB vk vs)) (f:okD (.mk 123 0 noB ks ds)) :
 Calls prog 13 #[.pointer (some ⟨bz,0,none⟩),.agg (zb_ 123 0 noB vk vs).toArray,.int .i64 (k:Int)] w λ e w'=>e=.returned (.string (txT env (.mk 123 0 noB ks ds) (.wrap 123 p u)))/\Fr w w' (λ _=>False):=by
 obtain⟨F,c1,rfl,T⟩:=M.keys;obtain⟨G,c2,rfl,a1⟩:=M.sub;unfold isT at hk;obtain⟨jt,b6,R⟩:=hk;obtain⟨g,m,d9,sv,z0,e8,z1,z2,ho,b9⟩:=Z.type b6;simp only[aq_,ao_,ay_,a6_,af_] at ho z1;obtain⟨L,cs,rfl⟩:=zh_ ho (by omega);have I:=zp_ ho rfl (k:=0) (x:=.int .i64 (jt:Int)) rfl;have f0:=zk_ z0;have f1:=zk_ z1;have f2:=zk_ I
 have e9:(k:Int)<(m:Int):=by omega
 refine hq_ λ d8 J=>?_
 have a6:txT env (.mk 123 0 noB ks ds) (.wrap 123 p u)=bts [123]++(jn 0 (txTs env (.wrap 123 p u) 0 0 true ks ds)++bts [125]):=by
  conv=>lhs;unfold txT
  rw[if_neg (by decide),if_neg (by decide),if_neg (by decide),if_neg (by decide),if_neg (by decide),if_neg (by decide),if_neg (by decide)]
  rfl
 rw[a6] at J;obtain⟨s,C⟩:∃ s,s=(w.alloc (.cells (zb_ 123 0 noB (.slice F ks.length c1) (.slice G ds.length c2)).toArray 37)).alloc (.cells #[.int .u8 123,.slice (some ⟨L,0,none⟩) 1 cs] 77):=⟨_,rfl⟩;have F0:Fr w s (λ _=>False):=C▸((Fr.refl w _).alloc _).alloc _;have D:Blk s w.heap.size (zb_ 123 0 noB (.slice F ks.length c1) (.slice G ds.length c2)) 37:=C▸(Blk.new w _ _).alloc _
 have K:Blk s (w.heap.size+1) [.int .u8 123,.slice (some ⟨L,0,none⟩) 1 cs] 77:=by
  have:=Blk.new (w.alloc (.cells (zb_ 123 0 noB (.slice F ks.length c1) (.slice G ds.length c2)).toArray 37)) #[.int .u8 123,.slice (some ⟨L,0,none⟩) 1 cs] 77;rw[show(w.alloc (.cells (zb_ 123 0 noB (.slice F ks.length c1) (.slice G ds.length c2)).toArray 37)).heap.size=w.heap.size+1 by simp] at this;rw[C];exact this
 obtain⟨t,H⟩:∃ t,t=PT.wrap 123 p u:=⟨_,rfl⟩
 have a0:∀ q,xl_ env t 0 q=u:=λ q=>by rw[H];rfl
 rw[<- H] at J;have b7:H_ (∀ W,W=s->∃ q:Nat,Value.string ⟨#[]⟩=.string (upT env t 0 true ks ds q)/\Value.int .i64 0=.int .i64 (q:Int)/\q<=ds.length/\ds.length+1-q<=ds.length+1/\Fr w W (λ _=>False)/\Fr s W (λ _=>False)):=q_ (λ W e=>⟨0,by rw[zcj];rfl,rfl,ak_ _,by omega,e▸F0,e▸Fr.refl _ _⟩);have V:=f;unfold okD at f;replace f:=q_ f;replace T:=q_ T;replace a1:=q_ a1;replace D:=q_ D;replace K:=q_ K;replace a0:=q_ a0;replace H:=q_ H;replace Z:=q_ Z;replace R:=q_ R;replace Q:=q_ Q;replace I:=q_ I;have e6:=zbt ds;replace C:=q_ C;clear M b9 ho a6 b6 V F0;simp only[zb_,af_];have U:=q_ (f.o.2.2.2.2.1 rfl)
 go_in
 go_wp2_with fail
 have a2:=q_ (b7.o _ C.o.symm);simp only[zb_,af_] at a2
 go_loopg [11,12,13,14] (ds.length+1) (λ m d6 d7 f5 f6 W=>∃ q:Nat,d6=.string (upT env t 0 true ks ds q)/\d7=.int .i64 (q:Int)/\q<=ds.length/\ds.length+1-q<=m/\Fr w W (λ _=>False)/\Fr s W (λ _=>False))
 case atStart=>exact a2.o
 case round=>
  clear b7 a2;obtain⟨q,rfl,rfl,hq,f3,l,y⟩:=hrel;have b0:=(y.blk D.o id).cell 0;have b3:=(y.blk D.o id).cell 3;have b4:=(y.blk D.o id).cell 4;have y1:=(y.blk K.o id).cell 1;simp only[zb_,aa_,ab_,af_] at b0 b3 b4 y1
  by_cases z:q<ds.length
  ·have a9:(q:Int)<(ds.length:Int):=by omega
   have hd:ds[q]?=some ds[q]:=an_ z;have X:ds[q]∈ds:=a0_ z;generalize ds[q]=d at hd X;obtain⟨g5,k',n',d2,f7,f8,rfl,a5,⟨x1,w1,f9,rfl⟩,⟨x2,w2,g0,rfl⟩,c0,a3,a4,c3,c4⟩:=a1.o q d hd;obtain⟨t1,t2⟩:=zbe hd;have Y:=zfq f.o.2.2.2.2.2 d X;have E:=ih d (by omega) (by omega) Y u (Q.o q d hd) hu wr P Pd bz ts jt (Z.o.fr l u_) R.o k' n' d2 _ _ (a5.fr l u_);have r:∀ (b o:Nat) (v:Value),w.cell? ⟨b,o,none⟩=some v->wr.cell? ⟨b,o,none⟩=some v:=λ b o v h=>(World.cell?_of_block (a:=⟨b,o,none⟩) (l.block b (World.block_lt_of_cell? w ⟨b,o,none⟩ h) id)).trans h;have e0:=r _ _ _ c0;have e1:=r _ _ _ a3;have e2:=r _ _ _ a4;have e3:=r _ _ _ c3;have e4:=r _ _ _ c4;have g1:=r _ _ _ I.o;have b5:=zbp env d u Y;have B:=vv_ env t 0 true ks ds q f.o.2.2.2.1 f.o.2.2.2.2.2;have c:=zck (env:=env) (t:=t) (n:=0) (keyed:=true) (ks:=ks) hd;simp only[itT,a0.o] at c;obtain⟨bd,O⟩:∃ b,txT env d u=b:=⟨_,rfl⟩;obtain⟨ZZ,N⟩:∃ Z,upT env t 0 true ks ds q=Z:=⟨_,rfl⟩;rw[O] at E c b5;rw[N] at c B⊢
   have e5:bd.size<=900000000:=by omega
   have b8:ZZ.size<=900000000:=by omega
   obtain⟨gk,rfl,a8⟩:=T.o q (by rw[U.o];exact z)
   have e7:(q:Int)<(ks.length:Int):=by rw[U.o];exact a9
   have k0:=r _ _ _ a8
   have V:(ks.getD q noB).size<=4000:=by
    rw[bd_,an_ (by rw[U.o];exact z)];exact f.o.2.2.2.1 _ (a0_ _)
   obtain⟨key,S⟩:∃ k,ks.getD q noB=k:=⟨_,rfl⟩;rw[S] at k0 V c;replace S:=q_ S;clear a8
   have f4:q<=100000:=by omega
   replace E:=q_ E;replace N:=q_ N;replace O:=q_ O;replace hd:=q_ hd;have hf:=q_ l;have a7:=q_ y;clear c0 a3 a4 c3 c4 r b5 B t1 t2 a5 Y l y X
   by_cases A:q=0
   ·have d0:¬ (0:Int)<(q:Int):=by omega
    have d1:¬ 0<q:=by omega
    rw[if_pos A] at c;replace c:=q_ c;replace A:=q_ A
    go_wp2_with (go_at_call 13;refine E.o.mono ?_;rintro e w5 ⟨rfl,j⟩;replace j:=q_ j)
    go_roundg (ds.length+1-(q+1))
    case measure=>omega
    case rel=>
     refine⟨q+1,?_,by simp,z,l_,hf.o.trans j.o u_,a7.o.trans j.o u_⟩;rw[c.o];simp only[if_true,ja_,az_]
     rfl
   ·have d0:(0:Int)<(q:Int):=by omega
    have d1:0<q:=by omega
    rw[if_neg A] at c;replace c:=q_ c;replace A:=q_ A
    go_wp2_with (go_at_call 13;refine E.o.mono ?_;rintro e w5 ⟨rfl,j⟩;replace j:=q_ j)
    go_roundg (ds.length+1-(q+1))
    case measure=>omega
    case rel=>
     refine⟨q+1,?_,by simp,z,l_,hf.o.trans j.o u_,a7.o.trans j.o u_⟩;rw[c.o];simp only[if_true,az_]
     rfl
  ·have a9:¬ ((q:Int)<(ds.length:Int)):=by omega
   have B:=vv_ env t 0 true ks ds q f.o.2.2.2.1 f.o.2.2.2.2.2;rw[bu_ (by omega)] at B;rw[ze9 (by omega)] at B⊢
   have b8:(jn 0 (txTs env t 0 0 true ks ds)).size<=900000000:=by omega
   replace l:=q_ l;clear y b3 B
   go_wp2_with fail
   try go_ret
   rw[J.o];exact⟨by rw[<- az_];rfl,l.o⟩
end
end Go.Proofs.YtiifagiebikmdaaGreatDoor
