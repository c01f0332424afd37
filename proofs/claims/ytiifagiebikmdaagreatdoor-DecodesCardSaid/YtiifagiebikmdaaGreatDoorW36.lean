import Derived.Test.YtiifagiebikmdaaGreatDoorW34
import Derived.Test.YtiifagiebikmdaaGreatDoorW33
import Derived.Test.YtiifagiebikmdaaGreatDoorA00
set_option maxHeartbeats 16000000
set_option maxRecDepth 100000
set_option linter.unusedSimpArgs false
open Go.Proofs.Tryz
namespace Go.Proofs.YtiifagiebikmdaaGreatDoor
open Go.RowKit
theorem zq6 {o:Oper}{a:Act}{K:Act->World->Prop}{Q:Exit->Act->World->Prop}(s x:Operand) (ho:o.op=.call { callee:=.builtin .append,args:=#[s,x],argTypes:=#[99,99] })
 {B g:Nat} {w W:World} {v:Value} {b:BA} {y:Int} (c:Nat) (C:y=(c:Int)) (hc:c<256) (hb:BufV w B v b) (E:b.size<=100000000) (hB:B<=w.heap.size) (hg:g=w.heap.size) (hs:a.eval s=v) (A:a.eval x=.slice (some ⟨g,0,none⟩) 1 1) (i:W=w.alloc (.cells #[.int .u8 y] 5))
 (h:∀ d w',BufV w' B d (b++bts [c])->FrU B w w'->K (a.put o.dst d) w'):o.wp prog a W K Q:=by
 subst C;subst i;obtain⟨ti,l,n,p,q⟩:=info_parts i_u8;obtain⟨D,f,z,r,j,_,_⟩:=run_append_own_at (P:=prog) (w.alloc (.cells #[.int .u8 (c:Int)] 5)) B 99 o.type 5 ti _ 1 1 zqc l n p q rfl (by decide) _ b.size (Lib.strCells b) (World.ownsRow.alloc hb _) ⟨g,0,none⟩ 1 1 [.int .u8 (c:Int)] rfl (z7_ _ #[.int .u8 (c:Int)] _ _ hg) (by simp[Value.oneCell']) (by unfold maxLen;omega) (by omega) (by simp;omega);unfold Oper.wp execOp;simp only[ho,resolve,invoke,builtin,Sem.run_bind,Sem.run_pure,Result.andThen_ok,List.map_toArray,ay_,a6_,hs,A,z];refine h D f ?_ ?_
 ·unfold BufV;rw[y7_,jy_ hc,av_,yh_];exact r
 ·exact Fr.mono (((Fr.refl w _).alloc _).grown j (λ k hk _=>hk):Fr w f (λ g=>v.ownBlock=some g)) (λ g _ e=>hb.u8 e)
theorem zwi {o:Oper}{a:Act}{K:Act->World->Prop}{Q:Exit->Act->World->Prop}(s x:Operand) (ho:o.op=.call { callee:=.builtin .append,args:=#[s,x],argTypes:=#[99,9] })
 {B:Nat} {w:World} {v:Value} {b t:BA} (hb:BufV w B v b) (z:b.size<=100000000) (A:t.size<=4000) (hB:B<=w.heap.size) (hs:a.eval s=v) (r:a.eval x=.string t)
 (h:∀ c w',BufV w' B c (b++t)->FrU B w w'->K (a.put o.dst c) w'):o.wp prog a w K Q:=by
 obtain⟨ti,i,j,l,n⟩:=info_parts i_u8;obtain⟨y,d,q,p,f,_⟩:=Lib.run_append_own_string (P:=prog) w B 99 9 o.type 5 ti zqc zer i j l n _ b.size (Lib.strCells b) hb t (by unfold maxLen;omega) (by omega) hB;unfold Oper.wp execOp;simp only[ho,resolve,invoke,builtin,Sem.run_bind,Sem.run_pure,Result.andThen_ok,List.map_toArray,ay_,a6_,hs,r,q];refine h y d ?_ ?_
 ·unfold BufV;rw[y7_,av_];exact p
 ·exact Fr.mono ((Fr.refl w _).grown f (λ k hk _=>hk):Fr w d (λ g=>v.ownBlock=some g)) (λ g _ e=>hb.u8 e)
section
variable {w0 w:World} {env:Nat->Option PB} {m:Nat} {P:Nat->Prop} {B:Nat} {u:Value} {b:BA} {t:PT}
theorem nMap (ih:NrOK w0 env m){ks:List BA}{ds:List DT}{la:Option Addr}{lc:Nat}{Y:Nat->Value}(hm:ndTs ds<=m) (hP:∀ g,P g->g<B) (h0:w0.heap.size<=B) (hB:B<=w.heap.size) (U:xd_ w0 w) (hu:BufV w B u b) (hs:b.size+8022*(1+ndTs ds)<=90000000) (hk:∀ k∈ks,k.size<=4000)
 (ho:w.ownsRow 0 160 2 (.slice la ds.length lc) ds.length ((List.range ds.length).flatMap λ i=>[.string (ks.getD i noB),Y i])) (hl:∀ g,(Value.slice la ds.length lc).ownBlock=some g->P g) (hd:∀ i d,ds[i]?=some d->DaV env w P d (xl_ env t 0 i) (Y i)) :
 Calls prog 96 #[u,.slice la ds.length lc] w (xf_ w B (b++(bts [123]++(jn 0 (txTs env t 0 0 true ks ds)++bts [125])))):=by
 refine hq_ λ e6 Q_=>?_;have M:okDs ds:=zfp (λ i d e=>(hd i d e).dat.ok);have f2:=zbt ds;obtain⟨b1,c⟩:∃ b1,b1=b++bts [123]:=⟨_,rfl⟩
 have f0:b1.size=b.size+1:=by rw[c,av_,yh_];rfl
 have a8:b++(bts [123]++(jn 0 (txTs env t 0 0 true ks ds)++bts [125]))=(b1++jn 0 (txTs env t 0 0 true ks ds))++bts [125]:=by rw[c];simp only[az_]
 rw[a8] at Q_;have b6:H_ (∀ (j:Value) (W:World),BufV W B j (b++bts [123])->FrU B w W->∃ q:Nat,Value.int .i64 0=.int .i64 (q:Int)/\q<=ds.length/\ds.length+1-q<=ds.length+1/\BufV W B j (b1++upT env t 0 true ks ds q)/\FrU B w W):=q_ λ j W h1 I=>⟨0,rfl,ak_ _,by omega,by rw[zcj,zdb,c];exact h1,I⟩;clear c a8;replace ho:=q_ ho;replace hd:=q_ hd;replace hl:=q_ hl;replace hP:=q_ hP;replace M:=q_ M;replace hu:=q_ hu;replace U:=q_ U;replace hk:=q_ hk
 go_in
 go_wp2_with (at_builtin;refine zaz rfl _ _ rfl 123 rfl (by decide) hu.o (by omega) hB rfl rfl rfl ?_;intro v5 w5 a6 a9;have b5:=q_ (b6.o v5 w5 a6 a9);clear a6 a9)
 go_loopg [0,5,6,12] (ds.length+1) (λ m v0 v5 v6 v W=>∃ q:Nat,v=.int .i64 (q:Int)/\q<=ds.length/\ds.length+1-q<=m/\BufV W B v0 (b1++upT env t 0 true ks ds q)/\FrU B w W)
 case atStart=>exact b5.o
 case round=>
  clear b6 b5;obtain⟨q,rfl,hq,f1,r,p⟩:=hrel;have f4:=p.size
  by_cases a5:q<ds.length
  ·have e2:(q:Int)<(ds.length:Int):=by omega
   have A:ds[q]?=some ds[q]:=an_ a5;generalize ds[q]=d at A;obtain⟨t1,t2⟩:=zbe A;have F:=vv_ env t 0 true ks ds q hk.o M.o;obtain⟨K,V⟩:∃ K,ks.getD q noB=K:=⟨_,rfl⟩;obtain⟨C,J⟩:∃ C,C=b1++upT env t 0 true ks ds q++(if q=0 then noB else bts [44]):=⟨_,rfl⟩
   have b4:b1++upT env t 0 true ks ds (q+1)=((C++K)++bts [58])++txT env d (xl_ env t 0 q):=by
    rw[zck A,J];simp only[itT,if_true,V,az_]
   have d8:(if q=0 then noB else bts [44]).size<=1:=by
    split
    ·exact ak_ _
    ·rw[yh_];exact l_
   have d6:K.size<=4000:=by
    rw[<- V,bd_]
    cases e1:ks[q]? with
    | none=>exact ak_ _
    | some y=>exact hk.o y (aw_ e1)
   have d2:C.size<=b1.size+8022*ndTs (ds.take q)+1:=by rw[J];simp only[av_];omega
   obtain⟨g,e7,e0⟩:=zh_ ho.o (by omega);cases e0;have N:=hd.o q d A;obtain⟨T,x,hx⟩:=N.iface;rw[hx] at N
   have a4:∀ g,P g->¬ B<=g:=λ g h=>by have:=hP.o g h;omega
   obtain⟨m0,m1⟩:=zud (K:=λ i=>ks.getD i noB) (za_ ho.o p.all (λ g e=>a4 g (hl.o g e))) a5;rw[hx] at m1;simp only[V] at m0;obtain⟨D,G⟩:∃ D,D=wr.alloc (.cells #[.string K,.iface T x] 160):=⟨_,rfl⟩;have E:Fr wr D (λ _=>False):=G▸(Fr.refl wr _).alloc _;have H:Blk D wr.heap.size [.string K,.iface T x] 160:=G▸Blk.new wr #[.string K,.iface T x] 160;have f5:=E.size
   have X:∀ W,Fr D W (λ _=>False)->Calls prog 135 #[u0,.int .i64 (q:Int)] W (λ e w'=>∃ j,e=.returned j/\H_ (BufV w' B j C/\FrU B w w'/\Blk w' wr.heap.size [.string K,.iface T x] 160)/\w'.cell? ⟨wr.heap.size,0,none⟩=some (.string K)):=by
    intro W L;have hz:=L.size;have e4:BufV W B u0 (b1++upT env t 0 true ks ds q):=(BufV.fr (BufV.fr r E u_) L u_);refine(zvi (n:=q) e4 (by omega) (by rw[av_];omega)).mono ?_;rintro e w1 ⟨j,rfl,c,z⟩;have I:=z.blk (L.blk H (λ f=>f)) (by decide);refine⟨j,rfl,q_ ⟨J▸c,p.trans (((FrU.of E).trans (FrU.of L)).trans z),I⟩,?_⟩;rw[I.cell 0]
    rfl
   have S:∀ W j,BufV W B j ((C++K)++bts [58])->FrU B w W->Calls prog 67 #[j,.iface T x] W (xf_ W B (b1++upT env t 0 true ks ds (q+1))):=by
    intro W j c z;have hz:=z.size;rw[b4];exact ih d (by omega) W P B _ _ j _ (N.fr z.all a4) hP.o h0 (by omega) (U.o.fru z h0 hB) c (by simp only[av_,yh_,aq_,ao_];omega)
   have f3:q<=90000000:=by omega
   have e9:C.size<=90000000:=by omega
   have e8:(C++K).size<=90004000:=by rw[av_];omega
   clear F t1 t2 b4 a4 J d2 d8 N hx;replace X:=q_ X;replace S:=q_ S;replace p:=q_ p;replace A:=q_ A;replace r:=q_ r;replace E:=q_ E;replace H:=q_ H
   go_wp2_with fail
   rw[<- G];replace G:=q_ G;refine z9_ (λ W=>W.cell? ⟨wr.heap.size,0,none⟩=some (.string K)) (by kernel_rfl) ?_;refine tA_ 0 rfl (by kernel_rfl) (λ _ _ _ h=>h) (by intro W h1;go_simp<;>rfl) ?_;refine tA_ 1 rfl (by kernel_rfl) (λ _ _ _ h=>h) (by intro W h1;go_simp<;>rfl) ?_;refine tA_ 3 rfl (by kernel_rfl) (λ _ _ _ h=>h) (by intro W h1;go_simp<;>rfl) ?_;refine tA_ 4 rfl (by kernel_rfl) (λ _ _ _ h=>h) (by intro W h1;go_simp<;>rfl) ?_;refine zu_ 2 rfl (by kernel_rfl) (by have:=H.o.cell 0;exact this) (λ l a=>?_);go_simp;refine(X.o _ ((Fr.refl D _).drew)).mono ?_;rintro e w1 ⟨j,rfl,c,c1⟩;refine a _ _ ?_;clear a l;refine zu_ 5 rfl (by kernel_rfl) c1 (λ l a=>?_);rw[if_pos (show Region.wanted _ _=true by kernel_rfl)];refine zwi _ _ rfl c.o.1 (by omega) d6 (ai_ hB c.o.2.1.size) rfl rfl ?_;intro v6 w6 Z a1;refine a _ _ ?_;clear a l;have s:=a1.blk c.o.2.2 (by decide);have b7:=s.c0;have b8:=s.c1;have Q:=q_ (c.o.2.1.trans a1);replace Z:=q_ Z;replace s:=q_ s;clear c a1;refine tA_ 6 rfl (by kernel_rfl) (λ _ _ _ h=>h) (by intro W h1;go_simp<;>rfl) ?_;refine z8_ (by kernel_rfl) b7 ?_ _
   go_wp2_with fail
   refine z9_ (λ W=>W.cell? ⟨wr.heap.size,1,none⟩=some (.iface T x)) (by kernel_rfl) ?_;refine tA_ 0 rfl (by kernel_rfl) (λ _ _ _ h=>h) (by intro W h1;go_simp<;>rfl) ?_;refine tA_ 3 rfl (by kernel_rfl) (λ _ _ _ h=>h) (by intro W h1;go_simp<;>rfl) ?_;refine tA_ 4 rfl (by kernel_rfl) (λ _ _ _ h=>h) (by intro W h1;go_simp<;>rfl) ?_;refine zu_ 1 rfl (by kernel_rfl) b8 (λ l a=>?_);go_simp;refine a _ _ ?_;clear a l;have e5:=Q.o.size;have B7:=(s.o.alloc (.cells #[.int .u8 58] 5));have b9:=B7.c1;refine zu_ 2 rfl (by kernel_rfl) b9 (λ l a=>?_);rw[if_pos (show Region.wanted _ _=true by kernel_rfl)];refine zq6 _ _ rfl 58 rfl (by decide) (w:=w6.drew) (BufV.still Z.o (zd_.drew _)) (by omega) (ai_ hB e5) rfl rfl rfl rfl ?_;intro v8 w8 a7 a2;refine a _ _ ?_;clear a l;have R:=Q.o.drew.trans a2;have O:=a2.blk ((((Fr.refl w6 (λ _=>False)).drew)).blk s.o id) (by decide);have d0:=O.c1;refine zu_ 5 rfl (by kernel_rfl) d0 (λ l a=>?_);go_simp;refine(S.o _ _ a7 R).mono ?_;rintro e w9 ⟨v9,rfl,a0,a3⟩;refine a _ _ ?_;clear a l;have d1:=(a3.blk O (by decide)).c1;have F9:=q_ (R.trans a3);replace a0:=q_ a0;clear a3 R O a7 a2 B7 Q;refine tA_ 6 rfl (by kernel_rfl) (λ _ _ _ h=>h) (by intro W h1;go_simp<;>rfl) ?_;refine z8_ (by kernel_rfl) d1 ?_ _
   go_wp2_with fail
   go_roundg (ds.length+1-(q+1))
   case measure=>omega
   case rel=>exact⟨q+1,by simp,a5,l_,a0.o,F9.o⟩
  ·have e2:¬ ((q:Int)<(ds.length:Int)):=by omega
   have F:=vv_ env t 0 true ks ds q hk.o M.o;rw[bu_ (by omega)] at F;rw[ze9 (by omega)] at r F
   have e3:(b1++jn 0 (txTs env t 0 0 true ks ds)).size<=100000000:=by rw[av_];omega
   clear F;replace p:=q_ p;replace r:=q_ r
   go_wp2_with (at_builtin;refine zaz rfl _ _ rfl 125 rfl (by decide) r.o e3 (by omega) rfl rfl rfl ?_;intro v7 w7 d7 d9)
   try go_ret
   rw[Q_.o];exact⟨_,rfl,d7,p.o.trans d9⟩
end
open Go.RowKit
section
variable {w0 w:World} {env:Nat->Option PB} {m:Nat} {P:Nat->Prop} {B:Nat} {u:Value} {b:BA} {t:PT}
theorem zg2 (env:Nat->Option PB) (n:Nat) (d:DT) (t:PT):txT env (.mk 40 (n:Int) noB [] [d]) t=bts [60]++(decB n++(bts [58]++(txT env d (xl_ env t n 0)++bts [62]))):=by
 conv=>lhs;unfold txT
 rw[if_neg (by decide),if_neg (by decide),if_neg (by decide),if_neg (by decide),if_neg (by decide),if_neg (by decide),if_pos rfl];simp only[txTs,jn,a3_,if_false,if_true,ja_,zdb,bm_]
theorem zwt (Y:NrOK w0 env m) (Q:je_ w0){n:Nat}(hn:n<=4000){d:DT}{v:Value}(X:ndT d<=m) (s:DaV env w P d (xl_ env t n 0) v) (hP:∀ g,P g->g<B) (h0:w0.heap.size<=B) (hB:B<=w.heap.size) (F:xd_ w0 w) (hu:BufV w B u b) (hs:b.size+8022*(1+ndT d)<=90000000) :
 Calls prog 97 #[u,.agg #[.int .i64 (n:Int),v]] w (xf_ w B (b++txT env (.mk 40 (n:Int) noB [] [d]) t)):=by
 refine hq_ λ b8 O=>?_;obtain⟨T,x,rfl⟩:=s.iface;have a8:=zbi (n:=(n:Int)) (by omega) (by omega);have b5:=zbp env d (xl_ env t n 0) s.dat.ok
 have V:∀ g,P g->¬ B<=g:=λ g h=>by have:=hP g h;omega
 obtain⟨i,q⟩:∃ i,i=w.alloc (.cells #[.int .i64 (n:Int),.iface T x] 162):=⟨_,rfl⟩;have l:Fr w i (λ _=>False):=q▸(Fr.refl w _).alloc _;have p:Blk i w.heap.size [.int .i64 (n:Int),.iface T x] 162:=q▸Blk.new w #[.int .i64 (n:Int),.iface T x] 162;have b7:=l.size;have N:BufV i B u b:=BufV.fr hu l u_
 have b9:(b++bts [60]).size<=b.size+1:=by rw[av_,yh_];exact l_
 have G:∀ W f,BufV W B f (b++bts [60])->FrU B w W->Calls prog 93 #[f,.int .i64 (n:Int),.int .i64 10] W (xf_ W B ((b++bts [60])++decB n)):=λ W f h1 k=>Q W B h0 (by have:=k.size;omega) (F.fru k h0 hB) f _ (n:Int) (by omega) (by omega) h1 (by omega);have E:∀ W f,BufV W B f (((b++bts [60])++decB n)++bts [58])->FrU B w W->Calls prog 67 #[f,.iface T x] W (xf_ W B ((((b++bts [60])++decB n)++bts [58])++txT env d (xl_ env t n 0))):=λ W f h1 k=>Y d X W P B _ _ f _ (s.fr k.all V) hP h0 (by have:=k.size;omega) (F.fru k h0 hB) h1 (by simp only[av_,yh_,aq_,ao_];omega)
 have U:b++txT env (.mk 40 (n:Int) noB [] [d]) t=((((b++bts [60])++decB n)++bts [58])++txT env d (xl_ env t n 0))++bts [62]:=by rw[zg2];simp only[az_]
 rw[U] at O
 have d0:((b++bts [60])++decB n).size<=90000000:=by rw[av_];omega
 have b4:((((b++bts [60])++decB n)++bts [58])++txT env d (xl_ env t n 0)).size<=100000000:=by simp only[av_,yh_,aq_,ao_];omega
 replace G:=q_ G;replace E:=q_ E;clear s Y X V hP hu U F Q a8 b5;have Fz:=q_ (FrU.of (B:=B) l);replace l:=q_ l;have c0:=p.c0;replace p:=q_ p;replace N:=q_ N;replace q:=q_ q
 go_in
 go_wp2_with fail
 rw[<- q.o];refine z9_ (λ W=>W.cell? ⟨w.heap.size,0,none⟩=some (.int .i64 (n:Int))) (by kernel_rfl) ?_;refine tA_ 0 rfl (by kernel_rfl) (λ _ _ _ h=>h) (by intro W h1;go_simp<;>rfl) ?_;refine tA_ 3 rfl (by kernel_rfl) (λ _ _ _ h=>h) (by intro W h1;go_simp<;>rfl) ?_;refine tA_ 4 rfl (by kernel_rfl) (λ _ _ _ h=>h) (by intro W h1;go_simp<;>rfl) ?_;refine zu_ 1 rfl (by kernel_rfl) c0 (λ c a=>?_);go_simp;refine a _ _ ?_;clear a c;have a0:=(p.o.alloc (.cells #[.int .u8 60] 5)).c0;refine zu_ 2 rfl (by kernel_rfl) a0 (λ c a=>?_);rw[if_pos (show Region.wanted _ _=true by kernel_rfl)];refine zq6 _ _ rfl 60 rfl (by decide) (w:=i.drew) (BufV.still N.o (zd_.drew _)) (by omega) (ai_ hB b7) rfl rfl rfl rfl ?_;intro v2 w2 R J;refine a _ _ ?_;clear a c;have A:=Fz.o.drew.trans J;have y:=J.blk ((((Fr.refl i (λ _=>False)).drew)).blk p.o id) (by decide);have a1:=y.c0;refine zu_ 5 rfl (by kernel_rfl) a1 (λ c a=>?_);go_simp;refine(G.o _ _ R A).mono ?_;rintro e Z ⟨v3,rfl,H,K⟩;refine a _ _ ?_;clear a c;have j:=K.blk y (by decide);have a2:=j.c0;have a3:=j.c1;have C:=q_ (A.trans K);replace H:=q_ H;replace j:=q_ j;clear K A y R J;refine tA_ 6 rfl (by kernel_rfl) (λ _ _ _ h=>h) (by intro W h1;go_simp<;>rfl) ?_;refine z8_ (by kernel_rfl) a2 ?_ _
 go_wp2_with fail
 refine z9_ (λ W=>W.cell? ⟨w.heap.size,1,none⟩=some (.iface T x)) (by kernel_rfl) ?_;refine tA_ 0 rfl (by kernel_rfl) (λ _ _ _ h=>h) (by intro W h1;go_simp<;>rfl) ?_;refine tA_ 3 rfl (by kernel_rfl) (λ _ _ _ h=>h) (by intro W h1;go_simp<;>rfl) ?_;refine tA_ 4 rfl (by kernel_rfl) (λ _ _ _ h=>h) (by intro W h1;go_simp<;>rfl) ?_;refine zu_ 1 rfl (by kernel_rfl) a3 (λ c a=>?_);go_simp;refine a _ _ ?_;clear a c;have b6:=C.o.size;have a4:=(j.o.alloc (.cells #[.int .u8 58] 5)).c1;refine zu_ 2 rfl (by kernel_rfl) a4 (λ c a=>?_);rw[if_pos (show Region.wanted _ _=true by kernel_rfl)];refine zq6 _ _ rfl 58 rfl (by decide) (w:=Z.drew) (BufV.still H.o (zd_.drew _)) (by omega) (ai_ hB b6) rfl rfl rfl rfl ?_;intro v8 w8 S L;refine a _ _ ?_;clear a c;have D:=C.o.drew.trans L;have z:=L.blk ((((Fr.refl Z (λ _=>False)).drew)).blk j.o id) (by decide);have a5:=z.c1;refine zu_ 5 rfl (by kernel_rfl) a5 (λ c a=>?_);go_simp;refine(E.o _ _ S D).mono ?_;rintro e w9 ⟨v9,rfl,I,M⟩;refine a _ _ ?_;clear a c;have a6:=(M.blk z (by decide)).c1;have r:=D.trans M;have d1:=r.size;replace r:=q_ r;replace I:=q_ I;clear M D z S L C;refine tA_ 6 rfl (by kernel_rfl) (λ _ _ _ h=>h) (by intro W h1;go_simp<;>rfl) ?_;refine z8_ (by kernel_rfl) a6 ?_ _
 go_wp2_with (at_builtin;refine zaz rfl _ _ rfl 62 rfl (by decide) I.o b4 (by omega) rfl rfl rfl ?_;intro d2 d6 a7 a9)
 try go_ret
 rw[O.o];exact⟨_,rfl,a7,r.o.trans a9⟩
end
end Go.Proofs.YtiifagiebikmdaaGreatDoor
