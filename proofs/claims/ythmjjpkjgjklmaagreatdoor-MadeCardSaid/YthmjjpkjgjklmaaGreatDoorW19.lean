import Derived.Test.YthmjjpkjgjklmaaGreatDoorW18
import Derived.Test.YthmjjpkjgjklmaaGreatDoorW01
import Derived.Laws.AppendOwnNone
import Derived.Test.YthmjjpkjgjklmaaGreatDoorA00
set_option maxHeartbeats 16000000
set_option maxRecDepth 100000
set_option linter.unusedSimpArgs false
open Go.Proofs.Tryz
namespace Go.Proofs.YthmjjpkjgjklmaaGreatDoor
open Go.RowKit
variable {w:World}{P:Nat->Prop}{ds:List PD}{xs ys:List Value}{s:BA}{q:Nat}{sv rv v ex:Value}{t:PT}{fs:List PF}{et:TypeId}{d:PD}
def plB:PB->Prop
 | .recd fs=>fs.length<=300/\(∀ f∈fs,zn_ f.letter=true)/\∀ f∈fs,fewB f.ty
 | .enum l o=>l.length<=300/\(∀ q∈l,zn_ q.1=true)/\∀ c p,o=some (c,p)->zn_ c=true
 | .bytes _=>True
theorem zg1 {b:PB}(D:DRow w P s ds sv xs) (hb:xo_ w P s b v) (hE:ErrV 1 w et ex) (hok:plB b) (hPw:∀ g,P g->g<w.heap.size) :
 Calls prog 105 #[.agg #[sv,rv],v] w (y8_ w (.iface et ex) (zb0 (za_ ds) b)):=by
 refine hq_ λ POST Q_=>?_;obtain⟨sa,sc,rfl⟩:=zf_ D.row
 cases hb with
 | recd p ho hP h=>
  rename_i fs fv ys;obtain⟨fa,fc,rfl⟩:=zf_ ho;have hf0:Fr w ((w.alloc (.cells #[.slice sa ds.length sc,rv] 90)).alloc (.cells #[.int .i64 (p:Int),.slice fa fs.length fc] 263)) (λ _=>False):=((Fr.refl w _).alloc _).alloc _;have hsz:=hf0.size;have hC:=q_ (zeq (rv:=rv) (p:=(p:Int)) (D.fr hf0 u_) ((⟨ho,hP,h⟩:vj_ w P s fs _ _).fr hf0 u_) (hE.fr hf0 id) hok.1 hok.2.1 hok.2.2 (λ g hg=>bl_ (hPw g hg) hsz));replace hf0:=q_ hf0;have a1:=vh_;clear D ho hP h hE hok hPw
  go_in
  go_wp2_with (go_at_call 159;refine hC.o.mono ?_;rintro e w2 ⟨v2,rfl,hf2,hm⟩;replace hf2:=q_ hf2;replace hm:=q_ hm)
  try go_ret
  rw[Q_.o];refine⟨v2,rfl,hf0.o.trans hf2.o u_,?_⟩;have hm':=hm.o;rw[zb0]
  cases hL:fldF (za_ ds) [] fs with
  | nil=>rw[hL] at hm';exact hm'
  | cons x r=>rw[hL] at hm';exact hm'.less hsz
 | enum p ho hP hu=>
  rename_i l o lv u;obtain⟨fa,fc,rfl⟩:=zf_ ho
  obtain⟨d,rfl⟩:∃ d,u=.pointer d:=by
   have hu':=hu;unfold UnkV at hu';split at hu'
   ·exact⟨_,hu'⟩
   ·obtain⟨g',_,e,_⟩:=hu';exact⟨_,e⟩
  have hf0:Fr w ((w.alloc (.cells #[.slice sa ds.length sc,rv] 90)).alloc (.cells #[.int .i64 (p:Int),.slice fa l.length fc,.pointer d] 268)) (λ _=>False):=((Fr.refl w _).alloc _).alloc _;have hsz:=hf0.size;have hC:=q_ (zdo (p:=(p:Int)) (zb_ ho hf0 u_) hP (hu.fr hf0 u_) (hE.fr hf0 id) hok.1 hok.2.1 hok.2.2 (λ g hg=>bl_ (hPw g hg) hsz));replace hf0:=q_ hf0;have a1:=yo_ 268 (by decide);have a2:=zbz;clear D ho hP hu hE hok hPw
  go_in
  go_wp2_with (go_at_call 160;refine hC.o.mono ?_;rintro e w2 ⟨v2,rfl,hf2,hm⟩;replace hf2:=q_ hf2;replace hm:=q_ hm)
  try go_ret
  rw[Q_.o];refine⟨v2,rfl,hf0.o.trans hf2.o u_,?_⟩;have hm':=hm.o;rw[zb0]
  cases hL:dupS [] l++unkF l o with
  | nil=>rw[hL] at hm';exact hm'
  | cons x r=>rw[hL] at hm';exact hm'.less hsz
 | bytes p n=>
  have a1:=yo_ 271 (by decide);have a2:=zah 271 (by decide);clear D hE hok hPw
  go_in
  go_wp2_with fail
  try go_ret
  rw[Q_.o];exact⟨.nilIface,rfl,(Fr.refl w _).alloc _,rfl⟩
theorem DRow.pre {g m cap:Nat}(h:DRow w P s ds (.slice (some ⟨g,0,none⟩) m cap) xs)(hq:q<=ds.length):DRow w P s (ds.take q) (.slice (some ⟨g,0,none⟩) q cap) (xs.take (q*3)):=by
 have hlen:(ds.take q).length=q:=by rw[b3_];omega
 refine⟨?_,λ g' e=>h.off g' e,λ i d e=>?_,by rw[hlen];have:=h.len;omega⟩
 ·rw[hlen];obtain⟨h1,h2⟩:=h.row;refine⟨by rw[b3_,h1];omega,.inr ?_⟩
  rcases h2 with⟨e,_⟩|⟨g',cap',cur,e,k1,k2,k3,k4,k5,k6⟩
  ·cases e
  ·cases e;refine⟨g,cap,cur,rfl,k1,k2,by omega,k4,k5,?_⟩;rw[<- k6,List.take_take]
   congr 1
   omega
 ·have hi:=(ao_.1 e).1;rw[hlen] at hi;rw[b5_,if_pos hi] at e;obtain⟨c,k1,k2,k3,k4⟩:=h.V i d e;exact⟨c,by rw[b5_,if_pos (by omega)];exact k1,by rw[b5_,if_pos (by omega)];exact k2,by rw[b5_,if_pos (by omega)];exact k3,k4⟩
theorem zt5 {env:Nat->Option PB}(h:ds[q]?=some d) (seen:List Nat):defF env seen (ds.drop q)=(if d.letter∈seen then [d.place] else [])++(zb0 env d.body++defF env (seen++[d.letter]) (ds.drop (q+1))):=by
 have hl:=(ao_.1 h).1;rw[bh_ hl,defF,(ao_.1 h).2]
theorem zrx (h:ds[q]?=some d):(ds.take (q+1)).map PD.letter=(ds.take q).map PD.letter++[d.letter]:=by
 rw[ba_,h];simp
theorem zhn {c:Nat}:za_ ds c=none↔c∉ds.map PD.letter:=by
 unfold za_;rw[<- ztc 0 c ds];cases look 0 c ds<;>simp
theorem zfw (D:DRow w P s ds sv xs) (hT:TyV w P t rv) (hE:ErrV 1 w et ex) (hok:∀ d∈ds,plB d.body) (hfew:fewB t) (hPw:∀ g,P g->g<w.heap.size) :
 Calls prog 77 #[.agg #[sv,rv]] w (y8_ w (.iface et ex) (v9_ ds t)):=by
 refine hq_ λ POST Q_=>?_;obtain⟨sa,sc,rfl⟩:=zf_ D.row;obtain⟨rT,rx,rfl⟩:=hT.iface;have hl6:=D.len;obtain⟨w0,hw0⟩:∃ W,W=w.alloc (.cells #[.slice sa ds.length sc,.iface rT rx] 90):=⟨_,rfl⟩
 have hf0:Fr w w0 (λ _=>False):=by rw[hw0];exact(Fr.refl w _).alloc _
 have hS0:Blk w0 w.heap.size [.slice sa ds.length sc,.iface rT rx] 90:=by rw[hw0];exact Blk.new w #[.slice sa ds.length sc,.iface rT rx] 90
 have D0:=q_ (D.fr hf0 u_);have hT0:=q_ (hT.fr hf0 u_);have hE0:=q_ (hE.fr hf0 id);have hP0:=q_ (λ g (hg:P g)=>bl_ (hPw g hg) hf0.size);have start:H_ (∃ q:Nat,Value.int .i64 0=.int .i64 (q:Int)/\q<=ds.length/\ds.length+1-q<=ds.length+1/\Fr w0 w0 (λ _=>False)/\defF (za_ ds) [] ds=defF (za_ ds) ((ds.take q).map PD.letter) (ds.drop q)):=q_ ⟨0,rfl,aj_ _,by omega,Fr.refl _ _,rfl⟩;replace hS0:=q_ hS0;replace hf0:=q_ hf0;clear D hE hT hPw
 go_in
 go_wp2_with fail
 rw[<- hw0];clear hw0
 go_loopg [3,10] (ds.length+1) (λ m u v W=>∃ q:Nat,v=.int .i64 (q:Int)/\q<=ds.length/\ds.length+1-q<=m/\Fr w0 W (λ _=>False)/\defF (za_ ds) [] ds=defF (za_ ds) ((ds.take q).map PD.letter) (ds.drop q))
 case atStart=>exact start.o
 case round=>
  clear start;obtain⟨q,rfl,hq,hm,hf,he⟩:=hrel;have hsz:=hf.size;have hS:=hf.blk hS0.o id;have hSlt:w.heap.size<wr.heap.size:=hS.lt;have s0:=hS.c0;have s1:=hS.c1
  by_cases hlt:q<ds.length
  ·have hlt':(q:Int)<(ds.length:Int):=by omega
   have hd:ds[q]?=some ds[q]:=am_ hlt;have hmem:ds[q]∈ds:=bd_ hlt;generalize ds[q]=d at hd hmem;obtain⟨g,cap,hgc⟩:=zk_ D0.o.row (by omega);cases hgc;have Dw:=D0.o.fr hf u_;obtain⟨T,x,c0,c1,c2,hb⟩:=Dw.cells hd
   have hqc:q<=sc:=by
    obtain⟨_,h2⟩:=D0.o.row
    rcases h2 with⟨e,_⟩|⟨g',cap',cur,e,k1,k2,k3,k4,k5,k6⟩
    ·cases e
    ·cases e;omega
   have hqc':(q:Int)<=(sc:Int):=by omega
   have hokd:=hok d hmem;rw[zt5 hd] at he;have htk:=zrx hd;obtain⟨l,hl0⟩:∃ l,d.letter=l:=⟨_,rfl⟩;obtain⟨pl,hpl⟩:∃ p,d.place=p:=⟨_,rfl⟩;obtain⟨b,hb0⟩:∃ b,d.body=b:=⟨_,rfl⟩;rw[hl0] at c1 he htk;rw[hpl] at c0 he;rw[hb0] at hb he hokd;have A1:=((Fr.refl wr (λ _=>False)).alloc (.cells #[.int .i64 (pl:Int),.int .u8 (l:Int),.iface T x] 204)).alloc (.cells #[.slice (some ⟨g,0,none⟩) q sc,.nilIface] 90);have N1:=(Blk.new wr #[.int .i64 (pl:Int),.int .u8 (l:Int),.iface T x] 204).alloc (.cells #[.slice (some ⟨g,0,none⟩) q sc,.nilIface] 90);have hC:=q_ (ju_ (rv:=.nilIface) l ((Dw.pre hq).fr A1 u_));have D1:=Dw.fr A1 u_;have B1:=hb.fr A1 u_;have E1:=(hE0.o.fr hf id).fr A1 id;have S1:=A1.blk hS id;have hf1:=q_ (hf.trans A1 u_);replace D1:=q_ D1;replace B1:=q_ B1;replace E1:=q_ E1;replace S1:=q_ S1;replace N1:=q_ N1;replace hokd:=q_ hokd;clear A1 hb Dw hl0 hpl hb0 hS
   by_cases hdup:l∈(ds.take q).map PD.letter
   ·rw[if_pos hdup] at he;have hL:=q_ (show v9_ ds t=pl::(zb0 (za_ ds) b++defF (za_ ds) ((ds.take q).map PD.letter++[l]) (ds.drop (q+1))++useF (za_ ds) (ya_ t)) by unfold v9_;rw[he];rfl)
    obtain⟨bb,hbb⟩:∃ bb,za_ (ds.take q) l=some bb:=by
     cases h:za_ (ds.take q) l with
     | none=>exact absurd hdup (zhn.1 h)
     | some bb=>exact⟨bb,rfl⟩
    replace hbb:=q_ hbb;clear he htk
    go_wp2_with (go_at_call 103;refine hC.o.mono ?_;rintro e w2 ⟨v2,rfl,hf2,hm2⟩;rw[hbb.o] at hm2;obtain⟨bT,bx,rfl⟩:=hm2.iface;have n0:=(hf2.blk N1.o id).c0;have e0:=E1.o.fr hf2 id;replace hf2:=q_ hf2;replace e0:_=_:=e0;clear hm2)
    refine yp_ 7 (λ W=>W.cell? ⟨wr.heap.size,0,none⟩=some (.int .i64 (pl:Int))/\W.cell? ⟨1,0,none⟩=some (.iface et ex)) (by kernel_rfl) ?_;refine ta_ 0 rfl (by kernel_rfl) (λ _ _ _ h=>h) (by rintro W ⟨h1,h2⟩;go_simp<;>rfl) ?_;refine ta_ 1 rfl (by kernel_rfl) (λ _ _ _ h=>h) (by rintro W ⟨h1,h2⟩;go_simp<;>rfl) ?_;refine ta_ 3 rfl (by kernel_rfl) (λ _ _ _ h=>h) (by rintro W ⟨h1,h2⟩;go_simp<;>rfl) ?_;refine zg_ 2 rfl (by kernel_rfl) (λ _=>⟨n0,e0⟩) (λ K hK=>?_);go_simp;refine(vg_ (pl:Int) _).mono ?_;rintro e w' ⟨rfl,rfl⟩;refine hK _ _ ?_;clear hK K;refine ta_ 4 rfl (by kernel_rfl) (λ _ _ _ h=>h) (by rintro W ⟨h1,h2⟩;go_simp<;>rfl) ?_;refine zg_ 5 rfl (by kernel_rfl) (λ _=>⟨n0,e0⟩) (λ K hK=>?_);go_simp;refine hK _ _ ?_;clear hK K;have hAL:∀ {a:Addr} {x:Value},w2.cell? a=some x->(w2.drew.alloc (.cells #[.int .i64 (pl:Int),.iface et ex] 212)).cell? a=some x:=@λ a x h=>(World.cell?_alloc_lt (w2.drew) _ a (by exact World.block_lt_of_cell? w2 a h)).trans h;refine zg_ 6 rfl (by kernel_rfl) (λ _=>⟨hAL n0,hAL e0⟩) (λ K hK=>?_);go_simp;refine hK _ _ ?_;clear hK K;refine zg_ 7 rfl (by kernel_rfl) (λ _=>⟨hAL n0,hAL e0⟩) (λ K hK=>?_);go_simp;refine hK _ _ ?_;clear hK K;refine yc_ (by kernel_rfl) (λ hm=>absurd hm (by decide)) ?_ _
    go_wp2_with fail
    try go_ret
    rw[Q_.o];have hF2:=(hf0.o.trans hf1.o u_).trans hf2.o u_;have hs2:=hF2.size;refine⟨_,rfl,(hF2.alloc _).drew,?_⟩;rw[hL.o];exact⟨w2.heap.size,hs2,rfl,(Blk.new w2 _ _).drew⟩
   ·rw[if_neg hdup,bp_] at he;have hnn:=q_ (zhn.2 hdup);have hCb:H_ (∀ w2,Fr ((wr.alloc (.cells #[.int .i64 (pl:Int),.int .u8 (l:Int),.iface T x] 204)).alloc (.cells #[.slice (some ⟨g,0,none⟩) q sc,.nilIface] 90)) w2 (λ _=>False)->Calls prog 105 #[.agg #[.slice (some ⟨g,0,none⟩) ds.length sc,.iface rT rx],.iface T x] w2 (y8_ w2 (.iface et ex) (zb0 (za_ ds) b))):=q_ (λ w2 h2=>zg1 (D1.o.fr h2 u_) (B1.o.fr h2 u_) (E1.o.fr h2 id) hokd.o (λ g hg=>bl_ (hP0.o g hg) (ah_ hf1.o.size h2.size)))
    cases hu:zb0 (za_ ds) b with
    | nil=>
     rw[hu,bp_] at he;replace he:=q_ he;replace hu:=q_ hu
     go_wp2_with (first
      |(go_at_call 103;refine hC.o.mono ?_;rintro e w2 ⟨v2,rfl,hf2,hm2⟩;rw[hnn.o] at hm2;replace hm2:v2=.nilIface:=hm2;subst hm2;have n2:=(hf2.blk N1.o id).c2;have SS:=hf2.blk S1.o id;have z0:=SS.c0;have z1:=SS.c1;replace hf2:=q_ hf2;clear SS)
      |(go_at_call 105;refine(hCb.o w2 hf2.o).mono ?_;rintro e w3 ⟨v3,rfl,hf3,hm3⟩;rw[hu.o] at hm3;replace hm3:v3=.nilIface:=hm3;subst hm3;replace hf3:=q_ hf3))
     go_roundg (ds.length+1-(q+1))
     case measure=>omega
     case rel=>exact⟨q+1,rfl,hlt,l_,(hf1.o.trans hf2.o u_).trans hf3.o u_,by rw[htk];exact he.o⟩
    | cons y r=>
     rw[hu,bn_] at he;have hL:=q_ (show v9_ ds t=y::(r++defF (za_ ds) ((ds.take q).map PD.letter++[l]) (ds.drop (q+1))++useF (za_ ds) (ya_ t)) by unfold v9_;rw[he];rfl);clear he htk;replace hu:=q_ hu
     go_wp2_with (first
      |(go_at_call 103;refine hC.o.mono ?_;rintro e w2 ⟨v2,rfl,hf2,hm2⟩;rw[hnn.o] at hm2;replace hm2:v2=.nilIface:=hm2;subst hm2;have n2:=(hf2.blk N1.o id).c2;have SS:=hf2.blk S1.o id;have z0:=SS.c0;have z1:=SS.c1;replace hf2:=q_ hf2;clear SS)
      |(go_at_call 105;refine(hCb.o w2 hf2.o).mono ?_;rintro e w3 ⟨v3,rfl,hf3,hm3⟩;rw[hu.o] at hm3;obtain⟨g3,hg1,rfl,hg2⟩:=hm3;replace hf3:=q_ hf3;replace hg2:=q_ hg2))
     try go_ret
     rw[Q_.o];have hF2:=(hf0.o.trans hf1.o u_).trans hf2.o u_;have hs2:=hF2.size;refine⟨_,rfl,hF2.trans hf3.o u_,?_⟩;rw[hL.o];exact⟨g3,by omega,rfl,hg2.o⟩
  ·have hlt':¬ ((q:Int)<(ds.length:Int)):=by omega
   rw[bu_ (by omega),defF] at he;have hL:=q_ (show v9_ ds t=useF (za_ ds) (ya_ t) by unfold v9_;rw[he];rfl);have hC:=q_ (zrj _ t l_ hfew wr P s ds (.slice sa ds.length sc) (.iface rT rx) (.iface rT rx) xs et ex (D0.o.fr hf u_) (hT0.o.fr hf u_) (hE0.o.fr hf id));replace hf:=q_ hf;clear he hS
   go_wp2_with (go_at_call 106;refine hC.o.mono ?_;rintro e w2 ⟨v2,rfl,hf2,hm2⟩;replace hf2:=q_ hf2;replace hm2:=q_ hm2)
   try go_ret
   rw[Q_.o];have hF:=hf0.o.trans hf.o u_;have hs:=hF.size;refine⟨v2,rfl,hF.trans hf2.o u_,?_⟩;rw[hL.o];have hm':=hm2.o
   cases hu:useF (za_ ds) (ya_ t) with
   | nil=>rw[hu] at hm';exact hm'
   | cons y r=>rw[hu] at hm';exact hm'.less hs
open Go.RowKit
def zn4:PT->Prop
 | .wrap c _ _=>c=91\/c=123
 | _=>True
theorem zj3 (h:TyV w P t v) (hw:zn4 t) :
 Calls prog 161 #[v] w λ e w'=>e=.returned (.bool (decide (t.kind=40)))/\Fr w w' (λ _=>False):=by
 cases h with
 | base c p hc=>
  have hk:decide ((PT.leaf c p).kind=40)=false:=by
   simp only[zu_,au_,beq_iff_eq] at hc;exact decide_eq_false (by simp only[PT.kind];omega)
  rw[hk];obtain⟨u,hu⟩:∃ u,u=j1_ c:=⟨_,rfl⟩;rw[<- hu];have hn:=jl_ c;rw[<- hu] at hn;have a1:=ym_ u hn.2.2.1;clear hu hn hk
  go_in
  go_wp2_with fail
  try go_ret
  exact⟨rfl,(Fr.refl w _).alloc _⟩
 | name c p hc=>
  have hk:decide ((PT.leaf c p).kind=40)=false:=by
   simp only[z0_,a9_,decide_eq_true_eq] at hc;exact decide_eq_false (by simp only[PT.kind];omega)
  rw[hk];have a1:=ym_ 261 (by decide);clear hk
  go_in
  go_wp2_with fail
  try go_ret
  exact⟨rfl,(Fr.refl w _).alloc _⟩
 | wrap c p h=>
  rename_i t0 v0
  have hk:decide ((PT.wrap c p t0).kind=40)=false:=by
   refine decide_eq_false ?_;show ¬ (c=40)
   rcases hw with h|h<;>omega
  rw[hk];obtain⟨u,hu,hn⟩:∃ u,u=zb7 c/\u≠258:=⟨zb7 c,rfl,by unfold zb7;split<;>decide⟩;rw[<- hu];have a1:=ym_ u hn;clear hu hn hk
  go_in
  go_wp2_with fail
  try go_ret
  exact⟨rfl,(Fr.refl w _).alloc _⟩
 | alts p X ho hP h=>
  rename_i l sv;have a1:=x1_;have hk:decide ((PT.alts p l).kind=40)=true:=rfl;rw[hk];obtain⟨sa,sc,rfl⟩:=zf_ ho;clear ho hP h hk
  go_in
  go_wp2_with fail
  try go_ret
  exact⟨rfl,(Fr.refl w _).alloc _⟩
theorem zfv (h:TyV w P t v) (hw:zn4 t) (h40:t.kind≠40) :
 Calls prog 163 #[v] w λ e w'=>e=.returned (.int .u8 (t.kind:Int))/\Fr w w' (λ _=>False):=by
 cases h with
 | base c p hc=>
  simp only[zu_,au_,beq_iff_eq] at hc;simp only[PT.kind];clear hw h40
  rcases hc with(((rfl|rfl)|rfl)|rfl)|rfl
  ·rw[show j1_ 110=244 from rfl];have a0:=jm_
   go_in
   go_wp2_with fail
   try go_ret
   exact⟨rfl,(Fr.refl w _).alloc _⟩
  ·rw[show j1_ 116=245 from rfl];have a0:=zh_ 245 (by decide);have a1:=zau
   go_in
   go_wp2_with fail
   try go_ret
   exact⟨rfl,(Fr.refl w _).alloc _⟩
  ·rw[show j1_ 105=247 from rfl];have a0:=zh_ 247 (by decide);have a1:=zo_ 247 (by decide);have a2:=zdh
   go_in
   go_wp2_with fail
   try go_ret
   exact⟨rfl,(Fr.refl w _).alloc _⟩
  ·rw[show j1_ 108=249 from rfl];have a0:=zh_ 249 (by decide);have a1:=zo_ 249 (by decide);have a2:=zz_ 249 (by decide)
   have a3:=zby
   go_in
   go_wp2_with fail
   try go_ret
   exact⟨rfl,(Fr.refl w _).alloc _⟩
  ·rw[show j1_ 115=250 from rfl];have a0:=zh_ 250 (by decide);have a1:=zo_ 250 (by decide);have a2:=zz_ 250 (by decide);have a3:=zw_ 250 (by decide);have a4:=zbx
   go_in
   go_wp2_with fail
   try go_ret
   exact⟨rfl,(Fr.refl w _).alloc _⟩
 | name c p hc=>
  simp only[PT.kind];clear hw h40 hc;have a0:=zh_ 261 (by decide);have a1:=zo_ 261 (by decide);have a2:=zz_ 261 (by decide);have a3:=zw_ 261 (by decide);have a4:=z3_ 261 (by decide);have a5:=zy_ 261 (by decide);have a6:=yw_ 261 (by decide);have a7:=v1_
  go_in
  go_wp2_with fail
  try go_ret
  exact⟨rfl,(Fr.refl w _).alloc _⟩
 | wrap c p h=>
  obtain⟨vT,vx,rfl⟩:=h.iface;simp only[PT.kind];clear h40 h
  rcases hw with rfl|rfl
  ·rw[show zb7 91=252 from rfl];have a0:=zh_ 252 (by decide);have a1:=zo_ 252 (by decide);have a2:=zz_ 252 (by decide);have a3:=zw_ 252 (by decide);have a4:=z3_ 252 (by decide);have a5:=v2_
   go_in
   go_wp2_with fail
   try go_ret
   exact⟨rfl,(Fr.refl w _).alloc _⟩
  ·rw[show zb7 123=254 from rfl];have a0:=zh_ 254 (by decide);have a1:=zo_ 254 (by decide);have a2:=zz_ 254 (by decide);have a3:=zw_ 254 (by decide);have a4:=z3_ 254 (by decide);have a5:=zy_ 254 (by decide);have a6:=jx_
   go_in
   go_wp2_with fail
   try go_ret
   exact⟨rfl,(Fr.refl w _).alloc _⟩
 | alts p X ho hP h=>exact absurd rfl h40
theorem zj4 {l:List PT}{X:Nat->Value}{n k:Nat}(ho:w.ownsRow 0 88 1 sv n ys) (hn:n<=l.length) (hoP:∀ g,sv.ownBlock=some g->P g) (hy:∀ i t,i<n->l[i]?=some t->ys[i]?=some (X i)/\TyV w P t (X i)) (hok:∀ t∈l,zn4 t) (h40:∀ t∈l.take n,t.kind≠40) (hln:n<=300) :
 Calls prog 162 #[sv,.int .u8 (k:Int)] w λ e w'=>e=.returned (.bool (decide (k∈(l.take n).map PT.kind)))/\Fr w w' (λ _=>False):=by
 refine hq_ λ POST Q_=>?_;obtain⟨sa,sc,rfl⟩:=zf_ ho;have start:H_ (∃ q:Nat,Value.int .i64 0=.int .i64 (q:Int)/\q<=n/\n+1-q<=n+1/\Fr w w (λ _=>False)/\k∉(l.take q).map PT.kind):=q_ ⟨0,rfl,aj_ _,by omega,Fr.refl _ _,by simp⟩;replace ho:=q_ ho;replace hy:=q_ hy
 go_in
 go_wp2_with fail
 go_loopg [9] (n+1) (λ m v W=>∃ q:Nat,v=.int .i64 (q:Int)/\q<=n/\n+1-q<=m/\Fr w W (λ _=>False)/\k∉(l.take q).map PT.kind)
 case atStart=>exact start.o
 case round=>
  clear start;obtain⟨q,rfl,hq,hm,hf,he⟩:=hrel
  by_cases hlt:q<n
  ·have hlt':(q:Int)<(n:Int):=by omega
   have hql:q<l.length:=by omega
   have hd:l[q]?=some l[q]:=am_ hql;have hmem:l[q]∈l:=bd_ hql
   have hmt:l[q]∈l.take n:=by
    rw[List.mem_iff_getElem?];exact⟨q,by rw[b5_,if_pos hlt];exact hd⟩
   generalize l[q]=t at hd hmem hmt;obtain⟨g,cap,hgc⟩:=zk_ ho.o (by omega);cases hgc;obtain⟨y1,y2⟩:=hy.o q t hlt hd;obtain⟨T,x,e⟩:=y2.iface;rw[e] at y1 y2;have c0:=zs_ (zb_ ho.o hf u_) rfl y1;have hC:=q_ (zfv (y2.fr hf u_) (hok t hmem) (h40 t hmt))
   have htk:(l.take (q+1)).map PT.kind=(l.take q).map PT.kind++[t.kind]:=by rw[ba_,hd];simp
   obtain⟨kk,hkk⟩:∃ kk,t.kind=kk:=⟨_,rfl⟩;rw[hkk] at hC htk;replace hf:=q_ hf;clear y1 y2 e hkk
   by_cases hk:kk=k
   ·subst hk
    have hin:H_ (kk∈(l.take n).map PT.kind):=q_ (by
     have:(l.take (q+1)).map PT.kind <+: (l.take n).map PT.kind:=(List.take_prefix_take_left (by omega)).map PT.kind
     exact this.subset (by rw[htk];simp))
    clear htk he
    go_wp2_with (go_at_call 163;refine hC.o.mono ?_;rintro e w2 ⟨rfl,hf2⟩;replace hf2:=q_ hf2)
    try go_ret
    rw[Q_.o];exact⟨by rw[decide_eq_true hin.o];rfl,hf.o.trans hf2.o u_⟩
   ·have hk':((kk:Int)==(k:Int))=false:=by simp;omega
    have he':=q_ (show k∉(l.take (q+1)).map PT.kind by rw[htk,bj_,a6_];rintro(h|h);exact he h;exact hk h.symm);clear htk he
    go_wp2_with (go_at_call 163;refine hC.o.mono ?_;rintro e w2 ⟨rfl,hf2⟩;replace hf2:=q_ hf2)
    go_roundg (n+1-(q+1))
    case measure=>omega
    case rel=>exact⟨q+1,rfl,hlt,l_,hf.o.trans hf2.o u_,he'.o⟩
  ·have hlt':¬ ((q:Int)<(n:Int)):=by omega
   have hqn:q=n:=by omega
   rw[hqn] at he;replace he:=q_ he;replace hf:=q_ hf;clear hqn
   go_wp2_with fail
   try go_ret
   rw[Q_.o];exact⟨by rw[decide_eq_false he.o],hf.o⟩
open Go.RowKit
def zh4 (t:PT):Prop:=∀ (w:World) (P:Nat->Prop) (v:Value) (et:TypeId) (ex:Value),TyV w P t v->ErrV 2 w et ex->
 Calls prog 108 #[v] w (y8_ w (.iface et ex) (badT t))
theorem zuf (c p:Nat):zh4 (.leaf c p):=by
 intro w P v et ex hv hE;refine hq_ λ POST Q_=>?_
 obtain⟨u,x,rfl,h1,h2,h3⟩:∃ u x,v=.iface u x/\u≠252/\u≠254/\u≠258:=by
  cases hv with
  | base _ _ h=>exact⟨_,_,rfl,(jl_ c).1,(jl_ c).2.1,(jl_ c).2.2.1⟩
  | name _ _ h=>exact⟨_,_,rfl,by decide,by decide,by decide⟩
 have a1:=zy_ u h1;have a2:=yw_ u h2;have a3:=ym_ u h3;clear hv hE h1 h2 h3
 go_in
 go_wp2_with fail
 try go_ret
 rw[Q_.o];refine⟨.nilIface,rfl,Fr.refl w _,?_⟩;rw[badT]
theorem zud (c p:Nat) (t:PT) (ih:zh4 t):zh4 (.wrap c p t):=by
 intro w P v et ex hv hE;refine hq_ λ POST Q_=>?_
 obtain⟨v2,hv2,rfl⟩:∃ v2,TyV w P t v2/\v=.iface (zb7 c) (.agg #[.int .i64 (p:Int),v2]):=by
  cases hv with
  | wrap _ _ h=>exact⟨_,h,rfl⟩
 obtain⟨vT,vx,rfl⟩:=hv2.iface
 have hcall:H_ (∀ T,Calls prog 108 #[.iface vT vx] (w.alloc (.cells #[.int .i64 (p:Int),.iface vT vx] T)) (y8_ (w.alloc (.cells #[.int .i64 (p:Int),.iface vT vx] T)) (.iface et ex) (badT t))):=q_ (λ T=>by
  have hf:Fr w (w.alloc (.cells #[.int .i64 (p:Int),.iface vT vx] T)) (λ _=>False):=(Fr.refl w _).alloc _
  exact ih _ P _ _ _ (hv2.fr hf u_) (hE.fr hf id))
 clear hv hE hv2 ih
 by_cases hc:c=91
 ·subst hc;simp only[zb7,if_true];have a1:=v2_
  go_in
  go_wp2_with (go_at_call 108;refine(hcall.o _).mono ?_;rintro e w2 ⟨v2,rfl,hf2,hm⟩;replace hf2:=q_ hf2;replace hm:=q_ hm)
  try go_ret
  rw[Q_.o];refine⟨v2,rfl,((Fr.refl w (λ _=>False)).alloc _).trans hf2.o u_,?_⟩;rw[badT];have hm':=hm.o
  cases hL:badT t with
  | nil=>rw[hL] at hm';exact hm'
  | cons x r=>rw[hL] at hm';exact hm'.less (by simp)
 ·simp only[zb7,if_neg hc];have a1:=zy_ 254 (by decide);have a2:=jx_
  go_in
  go_wp2_with (go_at_call 108;refine(hcall.o _).mono ?_;rintro e w2 ⟨v2,rfl,hf2,hm⟩;replace hf2:=q_ hf2;replace hm:=q_ hm)
  try go_ret
  rw[Q_.o];refine⟨v2,rfl,((Fr.refl w (λ _=>False)).alloc _).trans hf2.o u_,?_⟩;rw[badT];have hm':=hm.o
  cases hL:badT t with
  | nil=>rw[hL] at hm';exact hm'
  | cons x r=>rw[hL] at hm';exact hm'.less (by simp)
theorem zqz {l:List PT}(h:l[q]?=some t) (seen:List Nat):za3 seen (l.drop q)=(if t.kind=40\/t.kind∈seen then [t.place] else [])++(badT t++za3 (seen++[t.kind]) (l.drop (q+1))):=by
 have hl:=(ao_.1 h).1;rw[bh_ hl,za3,(ao_.1 h).2]
theorem zx1 {e:TypeId}{g m cap n:Nat}(h:w.ownsRow 0 e 1 (.slice (some ⟨g,0,none⟩) m cap) n xs)(hq:q<=n):w.ownsRow 0 e 1 (.slice (some ⟨g,0,none⟩) q cap) q (xs.take q):=by
 obtain⟨h1,h2⟩:=h;refine⟨by rw[b3_,h1];omega,.inr ?_⟩
 rcases h2 with⟨e,_⟩|⟨g',cap',cur,e,k1,k2,k3,k4,k5,k6⟩
 ·cases e
 ·cases e;refine⟨g,cap,cur,rfl,k1,k2,by omega,k4,k5,?_⟩;rw[<- k6,List.take_take]
  congr 1
  omega
def z0y (w0:World) (l:List PT) (m:Nat) (v:Value) (W:World):Prop:=
 ∃ q:Nat,v=.int .i64 (q:Int)/\q<=l.length/\l.length+1-q<=m/\Fr w0 W (λ _=>False)/\za3 [] l=za3 ((l.take q).map PT.kind) (l.drop q)/\∀ t∈l.take q,t.kind≠40
theorem zoj {T:TypeId}{x:Value}(h:TyV w P t (.iface T x)):∀ W,(method 578 T x "Place").run prog W=.ok (104,.int .i64 (t.place:Int)) W:=by
 cases h with
 | base c p hc=>
  simp only[zu_,au_,beq_iff_eq] at hc
  rcases hc with(((rfl|rfl)|rfl)|rfl)|rfl
  ·intro W;show(method 578 244 (.agg #[.int .i64 (p:Int)]) "Place").run prog W=_;kernel_rfl
  ·intro W;show(method 578 245 (.agg #[.int .i64 (p:Int)]) "Place").run prog W=_;kernel_rfl
  ·intro W;show(method 578 247 (.agg #[.int .i64 (p:Int)]) "Place").run prog W=_;kernel_rfl
  ·intro W;show(method 578 249 (.agg #[.int .i64 (p:Int)]) "Place").run prog W=_;kernel_rfl
  ·intro W;show(method 578 250 (.agg #[.int .i64 (p:Int)]) "Place").run prog W=_;kernel_rfl
 | name c p hc=>intro W;kernel_rfl
 | wrap c p h=>
  intro W;unfold zb7;split
  ·kernel_rfl
  ·kernel_rfl
 | alts p X ho hP h=>intro W;kernel_rfl
theorem zug (p:Nat) (l:List PT) (hln:l.length<=300) (hok:∀ t∈l,zn4 t) (ih:∀ t∈l,zh4 t):zh4 (.alts p l):=by
 intro w P v et ex hv hE;refine hq_ λ POST Q_=>?_
 obtain⟨X,v2,ho,hP,hX,rfl⟩:∃ X v2,w.ownsRow 0 88 1 v2 l.length ((List.range l.length).map X)/\(∀ g,v2.ownBlock=some g->P g)/\(∀ i t,l[i]?=some t->TyV w P t (X i))/\v=.iface 258 (.agg #[.int .i64 (p:Int),v2]):=by
  cases hv with
  | alts _ X ho hP h=>exact⟨X,_,ho,hP,h,rfl⟩
 clear hv;obtain⟨ba,bc,rfl⟩:=zf_ ho;obtain⟨w0,hw0⟩:∃ W,W=w.alloc (.cells #[.int .i64 (p:Int),.slice ba l.length bc] 258):=⟨_,rfl⟩
 have hf0:Fr w w0 (λ _=>False):=by rw[hw0];exact(Fr.refl w _).alloc _
 have hS0:Blk w0 w.heap.size [.int .i64 (p:Int),.slice ba l.length bc] 258:=by rw[hw0];exact Blk.new w #[.int .i64 (p:Int),.slice ba l.length bc] 258
 have hE0:=q_ (hE.fr hf0 id);have ho0:=q_ (zb_ ho hf0 u_);have hX0:=q_ (λ i t e=>(hX i t e).fr hf0 u_);replace hS0:=q_ hS0;replace hf0:=q_ hf0;clear hE ho hX;have start:H_ (z0y w0 l (l.length+1) (.int .i64 0) w0):=q_ ⟨0,rfl,aj_ _,by omega,Fr.refl _ _,rfl,λ t ht=>by simp at ht⟩;have a1:=zy_ 258 (by decide);have a2:=yw_ 258 (by decide);have a3:=x1_;replace ih:=q_ ih;replace hok:=q_ hok
 go_in
 go_wp2_with fail
 rw[<- hw0];clear a1 a2 a3
 go_loopg [6,28] (l.length+1) (λ m u v W=>z0y w0 l m v W)
 case atStart=>exact start.o
 case round=>
  clear start hw0;obtain⟨q,rfl,hq,hm,hf,he,h40⟩:=hrel;have hS:=hf.blk hS0.o id
  by_cases hlt:q<l.length
  ·have hlt':(q:Int)<(l.length:Int):=by omega
   have hd:l[q]?=some l[q]:=am_ hlt;have hmem:l[q]∈l:=bd_ hlt;generalize l[q]=t at hd hmem;obtain⟨g,cap,hgc⟩:=zk_ ho0.o (by omega);cases hgc;have how:=zb_ ho0.o hf u_;have hXw:=λ i t e=>(hX0.o i t e).fr hf u_;obtain⟨T,x,c0,hT⟩:=zgi how hXw hd
   have hqc:(q:Int)<=(bc:Int):=by
    obtain⟨_,h2⟩:=ho0.o
    rcases h2 with⟨e,_⟩|⟨g',cap',cur,e,k1,k2,k3,k4,k5,k6⟩
    ·cases e
    ·cases e;omega
   have hok1:=hok.o t hmem;have hpre:=zx1 how (Nat.le_of_lt hlt);rw[zqz hd] at he
   have htk:(l.take (q+1)).map PT.kind=(l.take q).map PT.kind++[t.kind]:=by rw[ba_,hd];simp
   have E1:=hE0.o.fr hf id;have hFw:=q_ (hf0.o.trans hf u_);have c1:=hS.c1;have hcalls:=q_ (And.intro hS (And.intro E1 (And.intro hpre (And.intro hXw (And.intro hT hf)))));clear how hpre hXw E1 hT hS hf
   go_wp2_with fail
   have hSw:ze_ wr wr.drew:=ze_.drew wr;obtain⟨hS,E1,hpre,hXw,hT,hf⟩:=hcalls.o;have fD:Fr wr wr.drew (λ _=>False):=(Fr.refl wr _).still hSw;refine z8_ (λ W=>W.cell? ⟨w.heap.size,1,none⟩=some (.slice (some ⟨g,0,none⟩) l.length bc)) (by kernel_rfl) ?_;refine tA_ 0 rfl (by kernel_rfl) (λ _ _ _ h=>h) (by intro W h1;go_simp<;>rfl) ?_;refine zr_ 1 rfl (by kernel_rfl) c1 (λ K hK=>?_);go_simp;refine(zj3 (hT.fr fD u_) hok1).mono ?_;rintro e w2 ⟨rfl,hf2⟩;refine hK _ _ ?_;clear hK K;have fW2:Fr wr w2 (λ _=>False):=fD.trans hf2 u_;have c2:=(fW2.blk hS id).c1
   by_cases hk40:t.kind=40
   ·rw[decide_eq_true hk40];rw[if_pos (.inl hk40)] at he;have hL:=q_ (show badT (.alts p l)=t.place::(badT t++za3 ((l.take q).map PT.kind++[t.kind]) (l.drop (q+1))) by rw[badT,he];rfl);refine tA_ 2 rfl (by kernel_rfl) (λ _ _ _ h=>h) (by intro W h1;go_simp<;>rfl) ?_;refine vb_ 3 rfl (by kernel_rfl) (λ _ _ _ h=>h) (by kernel_rfl) ?_;refine vb_ 4 rfl (by kernel_rfl) (λ _ _ _ h=>h) (by kernel_rfl) ?_;refine vb_ 5 rfl (by kernel_rfl) (λ _ _ _ h=>h) (by kernel_rfl) ?_;refine vb_ 6 rfl (by kernel_rfl) (λ _ _ _ h=>h) (by kernel_rfl) ?_;refine vb_ 7 rfl (by kernel_rfl) (λ _ _ _ h=>h) (by kernel_rfl) ?_;refine vb_ 8 rfl (by kernel_rfl) (λ _ _ _ h=>h) (by kernel_rfl) ?_;refine vb_ 9 rfl (by kernel_rfl) (λ _ _ _ h=>h) (by kernel_rfl) ?_;refine zr_ 10 rfl (by kernel_rfl) c2 (λ K hK=>?_);go_simp;refine hK _ _ ?_;clear hK K;refine z5_ (by kernel_rfl) c2 ?_ _;have e2:=E1.fr fW2 id;have hT2:=hT.fr fW2 u_;replace fW2:=q_ fW2;clear he htk;replace e2:w2.cell? ⟨2,0,none⟩=some (.iface et ex):=e2;have hpm:=zoj hT2
    go_wp2_with fail
    refine yp_ 6 (λ W=>W.cell? ⟨2,0,none⟩=some (.iface et ex)) (by kernel_rfl) ?_;refine ta_ 0 rfl (by kernel_rfl) (λ _ _ _ h=>h) (by intro W h1;go_simp<;>rfl) ?_;refine ta_ 2 rfl (by kernel_rfl) (λ _ _ _ h=>h) (by intro W h1;go_simp<;>rfl) ?_;refine zg_ 1 rfl (by kernel_rfl) (λ _=>e2) (λ K hK=>?_);go_simp;refine(vg_ (t.place:Int) _).mono ?_;rintro e w' ⟨rfl,rfl⟩;refine hK _ _ ?_;clear hK K;refine ta_ 3 rfl (by kernel_rfl) (λ _ _ _ h=>h) (by intro W h1;go_simp<;>rfl) ?_;refine zg_ 4 rfl (by kernel_rfl) (λ _=>e2) (λ K hK=>?_);go_simp;refine hK _ _ ?_;clear hK K;have e3:(w2.drew.alloc (.cells #[.int .i64 (t.place:Int),.iface et ex] 212)).cell? ⟨2,0,none⟩=some (.iface et ex):=(World.cell?_alloc_lt (w2.drew) _ ⟨2,0,none⟩ (by exact World.block_lt_of_cell? w2 ⟨2,0,none⟩ e2)).trans e2;refine zg_ 5 rfl (by kernel_rfl) (λ _=>e3) (λ K hK=>?_);go_simp;refine hK _ _ ?_;clear hK K;refine zg_ 6 rfl (by kernel_rfl) (λ _=>e3) (λ K hK=>?_);go_simp;refine hK _ _ ?_;clear hK K;refine yc_ (by kernel_rfl) (λ hm=>absurd hm (by decide)) ?_ _
    go_wp2_with fail
    try go_ret
    rw[Q_.o];have hF2:=hFw.o.trans fW2.o u_;have hs2:=hF2.size;refine⟨_,rfl,(hF2.alloc _).drew,?_⟩;rw[hL.o];exact⟨w2.heap.size,hs2,rfl,(Blk.new w2 _ _).drew⟩
   ·rw[decide_eq_false hk40];have hCk:=zfv (hT.fr fW2 u_) hok1 hk40;refine tA_ 2 rfl (by kernel_rfl) (λ _ _ _ h=>h) (by intro W h1;go_simp<;>rfl) ?_;refine tA_ 3 rfl (by kernel_rfl) (λ _ _ _ h=>h) (by intro W h1;go_simp<;>rfl) ?_;refine tA_ 4 rfl (by kernel_rfl) (λ _ _ _ h=>h) (by intro W h1;go_simp<;>rfl) ?_;refine tA_ 5 rfl (by kernel_rfl) (λ _ _ _ h=>h) (by intro W h1;go_simp<;>rfl) ?_;refine tA_ 6 rfl (by kernel_rfl) (λ _ _ _ h=>h) (by intro W h1;go_simp<;>rfl) ?_;refine tA_ 7 rfl (by kernel_rfl) (λ _ _ _ h=>h) (by intro W h1;go_simp<;>rfl) ?_;refine zr_ 8 rfl (by kernel_rfl) c2 (λ K hK=>?_);go_simp;refine hCk.mono ?_;rintro e w3 ⟨rfl,hf3⟩;refine hK _ _ ?_;clear hK K;have fW3:Fr wr w3 (λ _=>False):=fW2.trans hf3 u_;have c3:=(fW3.blk hS id).c1;have hCh:=zj4 (l:=l) (X:=X) (k:=t.kind) (zb_ hpre fW3 u_) (Nat.le_of_lt hlt) hP (λ i u hi hu=>⟨by rw[b5_,if_pos hi,a4_,List.getElem?_range (by omega)];rfl,(hXw i u hu).fr fW3 u_⟩) hok.o h40 (by omega);refine zr_ 9 rfl (by kernel_rfl) c3 (λ K hK=>?_);go_simp;refine hCh.mono ?_;rintro e w4 ⟨rfl,hf4⟩;refine hK _ _ ?_;clear hK K;have fW4:Fr wr w4 (λ _=>False):=fW3.trans hf4 u_;have c4:=(fW4.blk hS id).c1
    by_cases hks:t.kind∈(l.take q).map PT.kind
    ·rw[decide_eq_true hks];rw[if_pos (.inr hks)] at he;have hL:=q_ (show badT (.alts p l)=t.place::(badT t++za3 ((l.take q).map PT.kind++[t.kind]) (l.drop (q+1))) by rw[badT,he];rfl);refine zr_ 10 rfl (by kernel_rfl) c4 (λ K hK=>?_);go_simp;refine hK _ _ ?_;clear hK K;refine z5_ (by kernel_rfl) c4 ?_ _;have e2:=E1.fr fW4 id;have hT2:=hT.fr fW4 u_;replace fW4:=q_ fW4;replace e2:w4.cell? ⟨2,0,none⟩=some (.iface et ex):=e2;have hpm:=zoj hT2;clear he htk hCh hCk
     go_wp2_with fail
     refine yp_ 6 (λ W=>W.cell? ⟨2,0,none⟩=some (.iface et ex)) (by kernel_rfl) ?_;refine ta_ 0 rfl (by kernel_rfl) (λ _ _ _ h=>h) (by intro W h1;go_simp<;>rfl) ?_;refine ta_ 2 rfl (by kernel_rfl) (λ _ _ _ h=>h) (by intro W h1;go_simp<;>rfl) ?_;refine zg_ 1 rfl (by kernel_rfl) (λ _=>e2) (λ K hK=>?_);go_simp;refine(vg_ (t.place:Int) _).mono ?_;rintro e w' ⟨rfl,rfl⟩;refine hK _ _ ?_;clear hK K;refine ta_ 3 rfl (by kernel_rfl) (λ _ _ _ h=>h) (by intro W h1;go_simp<;>rfl) ?_;refine zg_ 4 rfl (by kernel_rfl) (λ _=>e2) (λ K hK=>?_);go_simp;refine hK _ _ ?_;clear hK K;have e3:(w4.drew.alloc (.cells #[.int .i64 (t.place:Int),.iface et ex] 212)).cell? ⟨2,0,none⟩=some (.iface et ex):=(World.cell?_alloc_lt (w4.drew) _ ⟨2,0,none⟩ (by exact World.block_lt_of_cell? w4 ⟨2,0,none⟩ e2)).trans e2;refine zg_ 5 rfl (by kernel_rfl) (λ _=>e3) (λ K hK=>?_);go_simp;refine hK _ _ ?_;clear hK K;refine zg_ 6 rfl (by kernel_rfl) (λ _=>e3) (λ K hK=>?_);go_simp;refine hK _ _ ?_;clear hK K;refine yc_ (by kernel_rfl) (λ hm=>absurd hm (by decide)) ?_ _
     go_wp2_with fail
     try go_ret
     rw[Q_.o];have hF2:=hFw.o.trans fW4.o u_;have hs2:=hF2.size;refine⟨_,rfl,(hF2.alloc _).drew,?_⟩;rw[hL.o];exact⟨w4.heap.size,hs2,rfl,(Blk.new w4 _ _).drew⟩
    ·rw[decide_eq_false hks];rw[if_neg (λ h=>h.elim hk40 hks),bp_] at he;refine zr_ 10 rfl (by kernel_rfl) c4 (λ K hK=>?_);go_simp;refine hK _ _ ?_;clear hK K;refine z5_ (by kernel_rfl) c4 ?_ _;have hC:=q_ (ih.o t hmem w4 P (.iface T x) et ex (hT.fr fW4 u_) (E1.fr fW4 id));replace fW4:=q_ fW4;clear hCh hCk hXw hpre hS E1 hT hf
     cases hu:badT t with
     | nil=>
      rw[hu,bp_] at he;replace he:=q_ he;replace hu:=q_ hu
      go_wp2_with (go_at_call 108;refine hC.o.mono ?_;rintro e w5 ⟨v5,rfl,hf5,hm5⟩;rw[hu.o] at hm5;replace hm5:v5=.nilIface:=hm5;subst hm5;replace hf5:=q_ hf5)
      go_roundg (l.length+1-(q+1))
      case measure=>omega
      case rel=>
       obtain⟨_,_,_,_,_,hf⟩:=hcalls.o;refine⟨q+1,rfl,hlt,l_,(hf.trans fW4.o u_).trans hf5.o u_,by rw[htk];exact he.o,λ u hu'=>?_⟩;rw[ba_,hd] at hu'
       rcases bj_.1 hu' with h|h
       ·exact h40 u h
       ·simp only[Option.toList_some,a6_] at h;rw[h];exact hk40
     | cons y r=>
      rw[hu,bn_] at he;have hL:=q_ (show badT (.alts p l)=y::(r++za3 ((l.take q).map PT.kind++[t.kind]) (l.drop (q+1))) by rw[badT,he]);replace hu:=q_ hu;clear he htk
      go_wp2_with (go_at_call 108;refine hC.o.mono ?_;rintro e w5 ⟨v5,rfl,hf5,hm5⟩;rw[hu.o] at hm5;obtain⟨g5,hg1,rfl,hg2⟩:=hm5;replace hf5:=q_ hf5;replace hg2:=q_ hg2)
      try go_ret
      rw[Q_.o];have hF2:=hFw.o.trans fW4.o u_;have hs2:=hF2.size;refine⟨_,rfl,hF2.trans hf5.o u_,?_⟩;rw[hL.o];exact⟨g5,by omega,rfl,hg2.o⟩
  ·have hlt':¬ ((q:Int)<(l.length:Int)):=by omega
   rw[bu_ (by omega),za3] at he;have hL:=q_ (show badT (.alts p l)=[] by rw[badT,he]);replace hf:=q_ hf;clear he
   go_wp2_with fail
   try go_ret
   rw[Q_.o];refine⟨.nilIface,rfl,hf0.o.trans hf.o u_,?_⟩;rw[hL.o]
theorem zue:∀ (n:Nat) (t:PT),SizeOf.sizeOf t<=n->fewB t->shT t->zh4 t:=by
 intro n
 induction n with
 | zero=>intro t h;cases t<;>simp at h
 | succ n ih=>
  intro t h hb hs
  cases t with
  | leaf c p=>exact zuf c p
  | wrap c p t=>
   unfold fewB at hb;unfold shT at hs;exact zud c p t (ih t (by simp at h;omega) hb hs.2)
  | alts p ts=>
   unfold fewB at hb;unfold shT at hs
   have hall:∀ t∈ts,shT t:=by
    have:=hs.2;clear hs hb h
    induction ts with
    | nil=>intro t ht;simp at ht
    | cons x r ihr=>
     unfold shTs at this;intro t ht
     rcases an_.1 ht with rfl|ht
     ·exact this.1
     ·exact ihr this.2 t ht
   refine zug p ts hb.1 (λ t ht=>?_) (λ t ht=>ih t (by have:=List.sizeOf_lt_of_mem ht;simp at h;omega) (hb.2 t ht) (hall t ht));have:=hall t ht
   cases t with
   | wrap c p t=>unfold shT at this;exact this.1
   | leaf c p=>trivial
   | alts p l=>trivial
open Go.RowKit
theorem vi_.append {gs:List PF}(h:vi_ w P s fs xs) (k:vi_ w P s gs ys) (hl:xs.length=fs.length*4):vi_ w P s (fs++gs) (xs++ys):=λ i f e=>by
 by_cases hi:i<fs.length
 ·rw[av_ hi] at e;obtain⟨a,b,c,d,h1,h2,h3,h4,h5⟩:=h i f e;exact⟨a,b,c,d,by rw[av_ (by omega)];exact h1,by rw[av_ (by omega)];exact h2,by rw[av_ (by omega)];exact h3,by rw[av_ (by omega)];exact h4,h5⟩
 ·rw[aw_ (by omega)] at e;obtain⟨a,b,c,d,h1,h2,h3,h4,h5⟩:=k _ f e;refine⟨a,b,c,d,?_,?_,?_,?_,h5⟩
  ·rw[aw_ (by omega),show 4*i-xs.length=4*(i-fs.length) by omega];exact h1
  ·rw[aw_ (by omega),show 4*i+1-xs.length=4*(i-fs.length)+1 by omega];exact h2
  ·rw[aw_ (by omega),show 4*i+2-xs.length=4*(i-fs.length)+2 by omega];exact h3
  ·rw[aw_ (by omega),show 4*i+3-xs.length=4*(i-fs.length)+3 by omega];exact h4
theorem vi_.one (h:vi_ w P s fs xs) (hl:xs.length=fs.length*4):∀ u∈xs,u.oneCell'=true:=by
 intro u hu;obtain⟨j,hj⟩:=List.mem_iff_getElem?.1 hu;have hlt:=(ao_.1 hj).1
 have hq:j / 4<fs.length:=by omega
 obtain⟨a,b,c,d,h1,h2,h3,h4,rfl,rfl,hT,hD⟩:=h (j / 4) _ (am_ hq)
 have hr:j=4*(j / 4)\/j=4*(j / 4)+1\/j=4*(j / 4)+2\/j=4*(j / 4)+3:=by omega
 rcases hr with e|e|e|e
 ·rw[<- e,hj] at h1;simp only[ad_] at h1;rw[h1];rfl
 ·rw[<- e,hj] at h2;simp only[ad_] at h2;rw[h2];rfl
 ·rw[<- e,hj] at h3;simp only[ad_] at h3;obtain⟨T,x,q⟩:=hT.iface;rw[h3,q];rfl
 ·rw[<- e,hj] at h4;simp only[ad_] at h4
  have:∃ d',d=.pointer d':=by
   unfold DfV at hD;split at hD
   ·exact⟨_,hD⟩
   ·obtain⟨g',x',_,e,_⟩:=hD;exact⟨_,e⟩
  obtain⟨d',q⟩:=this;rw[h4,q];rfl
theorem ji_ (h:ds[q]?=some d):zd_ (ds.take (q+1))=zd_ (ds.take q)++d.body.fs:=by
 unfold zd_;rw[ba_,h];simp
def zy8 (w0:World) (P:Nat->Prop) (s:BA) (ds:List PD) (m:Nat) (fv v:Value) (W:World):Prop:=
 ∃ (q:Nat) (ys:List Value),v=.int .i64 (q:Int)/\q<=ds.length/\ds.length+1-q<=m/\Fr w0 W (λ _=>False)/\W.ownsRow w0.heap.size 220 4 fv (zd_ (ds.take q)).length ys/\vi_ W P s (zd_ (ds.take q)) ys
theorem zck (q:Nat):(zd_ (ds.take q)).length<=(zd_ ds).length:=by
 have h:zd_ ds=zd_ (ds.take q)++zd_ (ds.drop q):=by
  unfold zd_;rw[<- a5_,List.take_append_drop]
 rw[h,al_];omega
theorem zmr (D:DRow w P s ds sv xs) (hlf:(zd_ ds).length<=300) (hPw:∀ g,P g->g<w.heap.size) :
 Calls prog 107 #[.agg #[sv,rv]] w λ e w'=>∃ fv ys,e=.returned fv/\Fr w w' (λ _=>False)/\vj_ w' (λ g=>P g\/w.heap.size<=g) s (zd_ ds) fv ys:=by
 refine hq_ λ POST Q_=>?_;obtain⟨sa,sc,rfl⟩:=zf_ D.row;have hl6:=D.len;obtain⟨w0,hw0⟩:∃ W,W=w.alloc (.cells #[.slice sa ds.length sc,rv] 90):=⟨_,rfl⟩
 have hf0:Fr w w0 (λ _=>False):=by rw[hw0];exact(Fr.refl w _).alloc _
 have hz0:w0.heap.size=w.heap.size+1:=by rw[hw0];simp
 have D0:=q_ (D.fr hf0 u_);have start:H_ (zy8 w0 P s ds (ds.length+1) (.slice none 0 0) (.int .i64 0) w0):=q_ ⟨0,[],rfl,aj_ _,by omega,Fr.refl _ _,World.ownsRow_nil _ _ _ _,λ i f e=>by simp[zd_] at e⟩;replace hf0:=q_ hf0;replace hPw:=q_ hPw;clear D
 go_in
 go_wp2_with fail
 rw[<- hw0];clear hw0
 go_loopg [3,11] (ds.length+1) (λ m u v W=>zy8 w0 P s ds m u v W)
 case atStart=>exact start.o
 case round=>
  clear start;obtain⟨q,ys,rfl,hq,hm,hf,hrow,hV⟩:=hrel;have hsz:=hf.size;obtain⟨n,hn⟩:∃ n,(zd_ (ds.take q)).length=n:=⟨_,rfl⟩;rw[hn] at hrow;obtain⟨fa,fc,rfl⟩:=zf_ hrow
  by_cases hlt:q<ds.length
  ·have hlt':(q:Int)<(ds.length:Int):=by omega
   have hd:ds[q]?=some ds[q]:=am_ hlt;generalize ds[q]=d at hd;obtain⟨g,cap,hgc⟩:=zk_ D0.o.row (by omega);cases hgc;have Dw:=D0.o.fr hf u_;obtain⟨T,x,c0,c1,c2,hb⟩:=Dw.cells hd;have htk:=ji_ hd;have hle:=zck (ds:=ds) (q+1);rw[htk,al_] at hle;rw[hn] at hle;obtain⟨pl,hpl⟩:∃ p,d.place=p:=⟨_,rfl⟩;obtain⟨lt,hlt0⟩:∃ p,d.letter=p:=⟨_,rfl⟩;rw[hpl] at c0;rw[hlt0] at c1;have A1:=(Fr.refl wr (λ _=>False)).alloc (.cells #[.int .i64 (pl:Int),.int .u8 (lt:Int),.iface T x] 204);have hrow1:=zb_ hrow A1 u_;have hV1:=hV.fr A1 u_;have hb1:=hb.fr A1 u_;have hf1:=hf.trans A1 u_;clear hrow hV Dw A1 hpl hlt0;generalize hbd:d.body=bd at hb hb1 htk hle;clear hbd;have nope:H_ (∀ W,bd.fs=[]->Fr (wr.alloc (.cells #[.int .i64 (pl:Int),.int .u8 (lt:Int),.iface T x] 204)) W (λ _=>False)->zy8 w0 P s ds (ds.length+1-(q+1)) (.slice fa n fc) (.int .i64 ((q:Int)+1)) W):=q_ (λ W hb0 hW=>⟨q+1,ys,rfl,hlt,l_,hf1.trans hW u_,by rw[htk,hb0,a8_,hn];exact zb_ hrow1 hW u_,by rw[htk,hb0,a8_];exact hV1.fr hW u_⟩)
   cases hb with
   | enum p ho hP hu=>
    have a1:=yo_ 268 (by decide);clear ho hP hu hb1 hrow1 hV1 hf1
    go_wp2_with fail
    go_roundg (ds.length+1-(q+1))
    case measure=>omega
    case rel=>exact nope.o _ rfl ((Fr.refl _ _).alloc _)
   | bytes p k=>
    have a1:=yo_ 271 (by decide);clear hb1 hrow1 hV1 hf1
    go_wp2_with fail
    go_roundg (ds.length+1-(q+1))
    case measure=>omega
    case rel=>exact nope.o _ rfl ((Fr.refl _ _).alloc _)
   | recd p ho hP h=>
    rename_i fs rv2 zs;have a1:=vh_;obtain⟨ra,rc,rfl⟩:=zf_ ho;obtain⟨ti,hi1,hi2,hi3,hi4⟩:=info_parts zi0;have A2:=(Fr.refl (wr.alloc (.cells #[.int .i64 (pl:Int),.int .u8 (lt:Int),.iface 263 (.agg #[.int .i64 (p:Int),.slice ra fs.length rc])] 204)) (λ _=>False)).alloc (.cells #[.int .i64 (p:Int),.slice ra fs.length rc] 263);have hrow2:=q_ (zb_ hrow1 A2 u_);have hV2:=q_ (hV1.fr A2 u_);have hf2:=q_ (hf1.trans A2 u_)
    have hfs:fs.length<=300:=by have:(PB.recd fs).fs.length=fs.length:=rfl;omega
    have hoz:=ho.1;have hone:=q_ (h.one hoz);have hFs:=q_ ((h.fr ((Fr.refl wr (λ _=>False)).alloc (.cells #[.int .i64 (pl:Int),.int .u8 (lt:Int),.iface 263 (.agg #[.int .i64 (p:Int),.slice ra fs.length rc])] 204)) u_).fr A2 u_);clear hb1 hrow1 hV1 hf1 A2
    rcases ho.2 with⟨e,hn0⟩|⟨g2,cap2,cur,e,k1,k2,k3,k4,k5,k6⟩
    ·have hfe:fs=[]:=List.length_eq_zero_iff.1 (by omega);subst hfe;simp only[ax_,Value.slice.injEq,true_and] at e;obtain⟨rfl,rfl⟩:=e;clear ho h hP
     go_wp2_with (at_builtin;go_must (refine wpList_append_own_none rfl _ _ 214 rfl w0.heap.size 220 ti 4 za6 hi1 (.slice fa n fc) n ys rfl hrow2.o rfl ?_))
     go_roundg (ds.length+1-(q+1))
     case measure=>omega
     case rel=>exact nope.o _ rfl ((Fr.refl _ _).alloc _)
    ·have e':ra=some ⟨g2,0,none⟩:=by cases e;rfl
     subst e'
     have hns:=q_ (λ (W:World) (hW:Fr wr W (λ _=>False)) j u (hju:zs[j]?=some u)=>(show W.cell? ((⟨g2,0,none⟩:Addr).add j)=some u from by
      have:=zs_ (zb_ ho hW u_) rfl hju
      unfold Addr.add
      split
      ·rename_i h0;rw[h0] at this;exact this
      ·simpa using this))
     have hPl:=q_ (λ g (hg:P g)=>show ¬ (Value.slice fa n fc).ownBlock=some g from λ e0=>by have:=hrow2.o.lt g e0;have:=hPw.o g hg;omega);have hW2:=q_ (show Fr wr ((wr.alloc (.cells #[.int .i64 (pl:Int),.int .u8 (lt:Int),.iface 263 (.agg #[.int .i64 (p:Int),.slice (some ⟨g2,0,none⟩) fs.length rc])] 204)).alloc (.cells #[.int .i64 (p:Int),.slice (some ⟨g2,0,none⟩) fs.length rc] 263)) (λ _=>False) from((Fr.refl wr _).alloc _).alloc _);clear ho h hP e k2 k6
     go_wp2_with (at_builtin;go_must (refine wpList_append_own_at _ rfl _ _ 214 rfl w0.heap.size 220 ti _ 4 40 za6 hi1 hi2 hi3 hi4 rfl (by decide) (.slice fa n fc) n ys rfl hrow2.o ⟨g2,0,none⟩ fs.length rc zs rfl hoz (hns.o _ hW2.o) hone.o ?b1 ?b2 ?b3 ?_)
                  case b1=>unfold maxLen;omega
                  case b2=>omega
                  case b3=>simp;omega
                  intro v5 w5 ho5 hg5 hn5 hl5
                  obtain⟨a5,c5,rfl⟩:=zf_ ho5
                  have hG:=q_ hg5
                  have hO:=q_ ho5
                  clear hg5 hl5 hn5 ho5)
     go_roundg (ds.length+1-(q+1))
     case measure=>omega
     case rel=>
      have hF5:Fr ((wr.alloc (.cells #[.int .i64 (pl:Int),.int .u8 (lt:Int),.iface 263 (.agg #[.int .i64 (p:Int),.slice (some ⟨g2,0,none⟩) fs.length rc])] 204)).alloc (.cells #[.int .i64 (p:Int),.slice (some ⟨g2,0,none⟩) fs.length rc] 263)) w5 (λ g=>(Value.slice fa n fc).ownBlock=some g):=Fr.grown (Fr.refl _ _) hG.o (λ k e _=>e);refine⟨q+1,ys++zs,rfl,hlt,l_,hf2.o.trans hF5 (λ y hy e=>by have:=hrow2.o.lt y e;omega),?_,?_⟩
      ·rw[htk,al_,hn];exact hO.o
      ·rw[htk];exact vi_.append (hV2.o.fr hF5 hPl.o) (hFs.o.fr hF5 hPl.o) (by rw[hn];exact hrow2.o.1)
  ·have hlt':¬ ((q:Int)<(ds.length:Int)):=by omega
   rw[a3_ (by omega)] at hn hV;have hfin:=q_ (show vj_ wr (λ g=>P g\/w.heap.size<=g) s (zd_ ds) (.slice fa n fc) ys from⟨by rw[hn];exact vm_ hrow,λ g e=>.inr (by have:=hrow.lt g e;omega),hV.mono (λ g _ hg=>.inl hg)⟩);replace hf:=q_ hf;clear hrow hV
   go_wp2_with fail
   try go_ret
   rw[Q_.o];exact⟨_,ys,rfl,hf0.o.trans hf.o u_,hfin.o⟩
open Go.RowKit
theorem zww {f:PF}(h:fs[q]?=some f):(fs.drop q).flatMap (λ f=>badT f.ty)=badT f.ty++(fs.drop (q+1)).flatMap (λ f=>badT f.ty):=by
 have hl:=(ao_.1 h).1;rw[bh_ hl,be_,(ao_.1 h).2]
theorem zep (D:DRow w P s ds sv xs) (hT:TyV w P t rv) (hE:ErrV 2 w et ex) (hlf:(zd_ ds).length<=300) (hok:∀ f∈zd_ ds,fewB f.ty/\shT f.ty) (hokt:fewB t/\shT t) (hPw:∀ g,P g->g<w.heap.size) :
 Calls prog 78 #[.agg #[sv,rv]] w (y8_ w (.iface et ex) (v5_ ds t)):=by
 refine hq_ λ POST Q_=>?_;obtain⟨sa,sc,rfl⟩:=zf_ D.row;obtain⟨rT,rx,rfl⟩:=hT.iface;have hf0:Fr w (w.alloc (.cells #[.slice sa ds.length sc,.iface rT rx] 90)) (λ _=>False):=(Fr.refl w _).alloc _;have hS0:=Blk.new w #[.slice sa ds.length sc,.iface rT rx] 90;have hC0:=q_ (zmr (rv:=.iface rT rx) (D.fr hf0 u_) hlf (λ g hg=>bl_ (hPw g hg) hf0.size));have hT0:=q_ (hT.fr hf0 u_);have hE0:=q_ (hE.fr hf0 id);replace hS0:=q_ hS0;replace hf0:=q_ hf0;clear D hE hT hPw
 go_in
 go_wp2_with (go_at_call 107;refine hC0.o.mono ?_;rintro e w1 ⟨fv,ys,rfl,hf1,hF⟩;obtain⟨fa,fc,rfl⟩:=zf_ hF.row;replace hf1:=q_ hf1;replace hF:=q_ hF)
 have start:H_ (∃ q:Nat,Value.int .i64 0=.int .i64 (q:Int)/\q<=(zd_ ds).length/\(zd_ ds).length+1-q<=(zd_ ds).length+1/\Fr w1 w1 (λ _=>False)/\v5_ ds t=((zd_ ds).drop q).flatMap (λ f=>badT f.ty)++badT t):=q_ ⟨0,rfl,aj_ _,by omega,Fr.refl _ _,rfl⟩
 go_loopg [9] ((zd_ ds).length+1) (λ m v W=>∃ q:Nat,v=.int .i64 (q:Int)/\q<=(zd_ ds).length/\(zd_ ds).length+1-q<=m/\Fr w1 W (λ _=>False)/\v5_ ds t=((zd_ ds).drop q).flatMap (λ f=>badT f.ty)++badT t)
 case atStart=>exact start.o
 case round=>
  clear start hC0;obtain⟨q,rfl,hq,hm,hf,he⟩:=hrel
  by_cases hlt:q<(zd_ ds).length
  ·have hlt':(q:Int)<((zd_ ds).length:Int):=by omega
   have hd:(zd_ ds)[q]?=some (zd_ ds)[q]:=am_ hlt;have hmem:(zd_ ds)[q]∈zd_ ds:=bd_ hlt;generalize (zd_ ds)[q]=f at hd hmem;obtain⟨g,cap,hgc⟩:=zk_ hF.o.row (by omega);cases hgc;obtain⟨T,x,d,c0,c1,c2,c3,hT,hDf⟩:=(hF.o.fr hf u_).cells hd;rw[zww hd] at he;obtain⟨l,hl0⟩:∃ l,f.letter=l:=⟨_,rfl⟩;obtain⟨pl,hpl⟩:∃ p,f.place=p:=⟨_,rfl⟩;rw[hl0] at c1;rw[hpl] at c0;have A1:=(Fr.refl wr (λ _=>False)).alloc (.cells #[.int .i64 (pl:Int),.int .u8 (l:Int),.iface T x,.pointer d] 220);have hC:=q_ (zue _ f.ty l_ (hok f hmem).1 (hok f hmem).2 _ _ _ et ex (hT.fr A1 u_) (((hE0.o.fr hf1.o id).fr hf id).fr A1 id));have hf':=q_ (hf.trans A1 u_);clear A1 hT hDf hf hl0 hpl
   cases hu:badT f.ty with
   | nil=>
    rw[hu,bp_] at he;replace he:=q_ he;replace hu:=q_ hu
    go_wp2_with (go_at_call 108;refine hC.o.mono ?_;rintro e w3 ⟨v3,rfl,hf3,hm3⟩;rw[hu.o] at hm3;replace hm3:v3=.nilIface:=hm3;subst hm3;replace hf3:=q_ hf3)
    go_roundg ((zd_ ds).length+1-(q+1))
    case measure=>omega
    case rel=>exact⟨q+1,rfl,hlt,l_,hf'.o.trans hf3.o u_,he.o⟩
   | cons y r=>
    rw[hu,bn_,bn_] at he;replace he:=q_ he;replace hu:=q_ hu
    go_wp2_with (go_at_call 108;refine hC.o.mono ?_;rintro e w3 ⟨v3,rfl,hf3,hm3⟩;rw[hu.o] at hm3;obtain⟨g3,hg1,rfl,hg2⟩:=hm3;replace hf3:=q_ hf3;replace hg2:=q_ hg2)
    try go_ret
    rw[Q_.o];have hF2:=(hf0.o.trans hf1.o u_).trans hf'.o u_;have hs2:=hF2.size;refine⟨_,rfl,hF2.trans hf3.o u_,?_⟩;rw[he.o];exact⟨g3,by omega,rfl,hg2.o⟩
  ·have hlt':¬ ((q:Int)<((zd_ ds).length:Int)):=by omega
   rw[bu_ (by omega),bx_,bp_] at he;have hS:=hf.blk (hf1.o.blk hS0.o id) id;have s1:=hS.c1;have hC:=q_ (zue _ t l_ hokt.1 hokt.2 wr P (.iface rT rx) et ex ((hT0.o.fr hf1.o u_).fr hf u_) ((hE0.o.fr hf1.o id).fr hf id));replace he:=q_ he;replace hf:=q_ hf;clear hS
   go_wp2_with (go_at_call 108;refine hC.o.mono ?_;rintro e w3 ⟨v3,rfl,hf3,hm3⟩;replace hf3:=q_ hf3;replace hm3:=q_ hm3)
   try go_ret
   rw[Q_.o];have hF2:=(hf0.o.trans hf1.o u_).trans hf.o u_;have hs2:=hF2.size;refine⟨v3,rfl,hF2.trans hf3.o u_,?_⟩;rw[he.o];have hm':=hm3.o
   cases hu:badT t with
   | nil=>rw[hu] at hm';exact hm'
   | cons y r=>rw[hu] at hm';exact hm'.less hs2
open Go.RowKit
def zjg (X:PF->Value->Prop) (fs:List PF) (ys:List Value):Prop:=∀ i f d,fs[i]?=some f->ys[4*i+3]?=some d->X f d
theorem zjg.append {X:PF->Value->Prop}{gs:List PF}(h:zjg X fs xs) (k:zjg X gs ys) (hl:xs.length=fs.length*4):zjg X (fs++gs) (xs++ys):=λ i f d e ed=>by
 by_cases hi:i<fs.length
 ·rw[av_ hi] at e;rw[av_ (by omega)] at ed;exact h i f d e ed
 ·rw[aw_ (by omega)] at e;rw[aw_ (by omega)] at ed;exact k (i-fs.length) f d e (by rw[<- ed];congr 1;omega)
def zus (X:PF->Value->Prop) (w:World) (ds:List PD) (sv:Value):Prop:=
 ∀ (W:World) (g q cap m:Nat) (d:PD) (p:Nat) (fs:List PF) (fv:Value) (zs:List Value),Fr w W (λ _=>False)->sv=.slice (some ⟨g,0,none⟩) m cap->ds[q]?=some d->d.body=.recd fs->W.cell? ⟨g,q*3+2,none⟩=some (.iface 263 (.agg #[.int .i64 (p:Int),fv]))->W.ownsRow 0 220 4 fv fs.length zs->zjg X fs zs
def zuy (X:PF->Value->Prop) (w0:World) (P:Nat->Prop) (s:BA) (ds:List PD) (m:Nat) (fv v:Value) (W:World):Prop:=
 ∃ (q:Nat) (ys:List Value),v=.int .i64 (q:Int)/\q<=ds.length/\ds.length+1-q<=m/\Fr w0 W (λ _=>False)/\W.ownsRow w0.heap.size 220 4 fv (zd_ (ds.take q)).length ys/\vi_ W P s (zd_ (ds.take q)) ys/\zjg X (zd_ (ds.take q)) ys
theorem zsd {X:PF->Value->Prop}(D:DRow w P s ds sv xs) (hlf:(zd_ ds).length<=300) (hPw:∀ g,P g->g<w.heap.size) (hX:zus X w ds sv) :
 Calls prog 107 #[.agg #[sv,rv]] w λ e w'=>∃ fv ys,e=.returned fv/\Fr w w' (λ _=>False)/\vj_ w' (λ g=>P g\/w.heap.size<=g) s (zd_ ds) fv ys/\zjg X (zd_ ds) ys:=by
 refine hq_ λ POST Q_=>?_;obtain⟨sa,sc,rfl⟩:=zf_ D.row;have hl6:=D.len;obtain⟨w0,hw0⟩:∃ W,W=w.alloc (.cells #[.slice sa ds.length sc,rv] 90):=⟨_,rfl⟩
 have hf0:Fr w w0 (λ _=>False):=by rw[hw0];exact(Fr.refl w _).alloc _
 have hz0:w0.heap.size=w.heap.size+1:=by rw[hw0];simp
 have D0:=q_ (D.fr hf0 u_);have start:H_ (zuy X w0 P s ds (ds.length+1) (.slice none 0 0) (.int .i64 0) w0):=q_ ⟨0,[],rfl,aj_ _,by omega,Fr.refl _ _,World.ownsRow_nil _ _ _ _,(λ i f e=>by simp[zd_] at e),(λ i f d e=>by simp[zd_] at e)⟩;replace hf0:=q_ hf0;replace hPw:=q_ hPw;replace hX:=q_ hX;clear D
 go_in
 go_wp2_with fail
 rw[<- hw0];clear hw0
 go_loopg [3,11] (ds.length+1) (λ m u v W=>zuy X w0 P s ds m u v W)
 case atStart=>exact start.o
 case round=>
  clear start;obtain⟨q,ys,rfl,hq,hm,hf,hrow,hV,hLx⟩:=hrel;replace hLx:=q_ hLx;have hsz:=hf.size;obtain⟨n,hn⟩:∃ n,(zd_ (ds.take q)).length=n:=⟨_,rfl⟩;rw[hn] at hrow;obtain⟨fa,fc,rfl⟩:=zf_ hrow
  by_cases hlt:q<ds.length
  ·have hlt':(q:Int)<(ds.length:Int):=by omega
   have hd:ds[q]?=some ds[q]:=am_ hlt;generalize ds[q]=d at hd;obtain⟨g,cap,hgc⟩:=zk_ D0.o.row (by omega);cases hgc;have Dw:=D0.o.fr hf u_;obtain⟨T,x,c0,c1,c2,hb⟩:=Dw.cells hd;have htk:=ji_ hd;have hle:=zck (ds:=ds) (q+1);rw[htk,al_] at hle;rw[hn] at hle;obtain⟨pl,hpl⟩:∃ p,d.place=p:=⟨_,rfl⟩;obtain⟨lt,hlt0⟩:∃ p,d.letter=p:=⟨_,rfl⟩;rw[hpl] at c0;rw[hlt0] at c1;have A1:=(Fr.refl wr (λ _=>False)).alloc (.cells #[.int .i64 (pl:Int),.int .u8 (lt:Int),.iface T x] 204);have hrow1:=zb_ hrow A1 u_;have hV1:=hV.fr A1 u_;have hb1:=hb.fr A1 u_;have hf1:=hf.trans A1 u_;clear hrow hV Dw A1 hpl hlt0;have hXd:=q_ (λ fs p fv zs (hbd:d.body=.recd fs) (hTx:(Value.iface T x)=.iface 263 (.agg #[.int .i64 (p:Nat),fv])) (hoz:wr.ownsRow 0 220 4 fv fs.length zs)=>hX.o wr g q sc ds.length d p fs fv zs (hf0.o.trans hf u_) rfl hd hbd (hTx▸c2) hoz);generalize hbd:d.body=bd at hb hb1 htk hle hXd;clear hbd;have nope:H_ (∀ W,bd.fs=[]->Fr (wr.alloc (.cells #[.int .i64 (pl:Int),.int .u8 (lt:Int),.iface T x] 204)) W (λ _=>False)->zuy X w0 P s ds (ds.length+1-(q+1)) (.slice fa n fc) (.int .i64 ((q:Int)+1)) W):=q_ (λ W hb0 hW=>⟨q+1,ys,rfl,hlt,l_,hf1.trans hW u_,by rw[htk,hb0,a8_,hn];exact zb_ hrow1 hW u_,(by rw[htk,hb0,a8_];exact hV1.fr hW u_),(by rw[htk,hb0,a8_];exact hLx.o)⟩)
   cases hb with
   | enum p ho hP hu=>
    have a1:=yo_ 268 (by decide);clear ho hP hu hb1 hrow1 hV1 hf1
    go_wp2_with fail
    go_roundg (ds.length+1-(q+1))
    case measure=>omega
    case rel=>exact nope.o _ rfl ((Fr.refl _ _).alloc _)
   | bytes p k=>
    have a1:=yo_ 271 (by decide);clear hb1 hrow1 hV1 hf1
    go_wp2_with fail
    go_roundg (ds.length+1-(q+1))
    case measure=>omega
    case rel=>exact nope.o _ rfl ((Fr.refl _ _).alloc _)
   | recd p ho hP h=>
    rename_i fs rv2 zs;have a1:=vh_;obtain⟨ra,rc,rfl⟩:=zf_ ho;obtain⟨ti,hi1,hi2,hi3,hi4⟩:=info_parts zi0;have A2:=(Fr.refl (wr.alloc (.cells #[.int .i64 (pl:Int),.int .u8 (lt:Int),.iface 263 (.agg #[.int .i64 (p:Int),.slice ra fs.length rc])] 204)) (λ _=>False)).alloc (.cells #[.int .i64 (p:Int),.slice ra fs.length rc] 263);have hrow2:=q_ (zb_ hrow1 A2 u_);have hV2:=q_ (hV1.fr A2 u_);have hf2:=q_ (hf1.trans A2 u_)
    have hfs:fs.length<=300:=by have:(PB.recd fs).fs.length=fs.length:=rfl;omega
    have hoz:=ho.1;have hLz:=q_ (hXd.o fs p _ zs rfl rfl ho);have hone:=q_ (h.one hoz);have hFs:=q_ ((h.fr ((Fr.refl wr (λ _=>False)).alloc (.cells #[.int .i64 (pl:Int),.int .u8 (lt:Int),.iface 263 (.agg #[.int .i64 (p:Int),.slice ra fs.length rc])] 204)) u_).fr A2 u_);clear hb1 hrow1 hV1 hf1 A2
    rcases ho.2 with⟨e,hn0⟩|⟨g2,cap2,cur,e,k1,k2,k3,k4,k5,k6⟩
    ·have hfe:fs=[]:=List.length_eq_zero_iff.1 (by omega);subst hfe;simp only[ax_,Value.slice.injEq,true_and] at e;obtain⟨rfl,rfl⟩:=e;clear ho h hP
     go_wp2_with (at_builtin;go_must (refine wpList_append_own_none rfl _ _ 214 rfl w0.heap.size 220 ti 4 za6 hi1 (.slice fa n fc) n ys rfl hrow2.o rfl ?_))
     go_roundg (ds.length+1-(q+1))
     case measure=>omega
     case rel=>exact nope.o _ rfl ((Fr.refl _ _).alloc _)
    ·have e':ra=some ⟨g2,0,none⟩:=by cases e;rfl
     subst e'
     have hns:=q_ (λ (W:World) (hW:Fr wr W (λ _=>False)) j u (hju:zs[j]?=some u)=>(show W.cell? ((⟨g2,0,none⟩:Addr).add j)=some u from by
      have:=zs_ (zb_ ho hW u_) rfl hju
      unfold Addr.add
      split
      ·rename_i h0;rw[h0] at this;exact this
      ·simpa using this))
     have hPl:=q_ (λ g (hg:P g)=>show ¬ (Value.slice fa n fc).ownBlock=some g from λ e0=>by have:=hrow2.o.lt g e0;have:=hPw.o g hg;omega);have hW2:=q_ (show Fr wr ((wr.alloc (.cells #[.int .i64 (pl:Int),.int .u8 (lt:Int),.iface 263 (.agg #[.int .i64 (p:Int),.slice (some ⟨g2,0,none⟩) fs.length rc])] 204)).alloc (.cells #[.int .i64 (p:Int),.slice (some ⟨g2,0,none⟩) fs.length rc] 263)) (λ _=>False) from((Fr.refl wr _).alloc _).alloc _);clear ho h hP e k2 k6
     go_wp2_with (at_builtin;go_must (refine wpList_append_own_at _ rfl _ _ 214 rfl w0.heap.size 220 ti _ 4 40 za6 hi1 hi2 hi3 hi4 rfl (by decide) (.slice fa n fc) n ys rfl hrow2.o ⟨g2,0,none⟩ fs.length rc zs rfl hoz (hns.o _ hW2.o) hone.o ?b1 ?b2 ?b3 ?_)
                  case b1=>unfold maxLen;omega
                  case b2=>omega
                  case b3=>simp;omega
                  intro v5 w5 ho5 hg5 hn5 hl5
                  obtain⟨a5,c5,rfl⟩:=zf_ ho5
                  have hG:=q_ hg5
                  have hO:=q_ ho5
                  clear hg5 hl5 hn5 ho5)
     go_roundg (ds.length+1-(q+1))
     case measure=>omega
     case rel=>
      have hF5:Fr ((wr.alloc (.cells #[.int .i64 (pl:Int),.int .u8 (lt:Int),.iface 263 (.agg #[.int .i64 (p:Int),.slice (some ⟨g2,0,none⟩) fs.length rc])] 204)).alloc (.cells #[.int .i64 (p:Int),.slice (some ⟨g2,0,none⟩) fs.length rc] 263)) w5 (λ g=>(Value.slice fa n fc).ownBlock=some g):=Fr.grown (Fr.refl _ _) hG.o (λ k e _=>e);refine⟨q+1,ys++zs,rfl,hlt,l_,hf2.o.trans hF5 (λ y hy e=>by have:=hrow2.o.lt y e;omega),?_,?_,?_⟩
      ·rw[htk,al_,hn];exact hO.o
      ·rw[htk];exact vi_.append (hV2.o.fr hF5 hPl.o) (hFs.o.fr hF5 hPl.o) (by rw[hn];exact hrow2.o.1)
      ·rw[htk];exact hLx.o.append hLz.o (by rw[hn];exact hrow2.o.1)
  ·have hlt':¬ ((q:Int)<(ds.length:Int)):=by omega
   rw[a3_ (by omega)] at hn hV hLx;have hfin:=q_ (show vj_ wr (λ g=>P g\/w.heap.size<=g) s (zd_ ds) (.slice fa n fc) ys from⟨by rw[hn];exact vm_ hrow,λ g e=>.inr (by have:=hrow.lt g e;omega),hV.mono (λ g _ hg=>.inl hg)⟩);replace hf:=q_ hf;clear hrow hV
   go_wp2_with fail
   try go_ret
   rw[Q_.o];exact⟨_,ys,rfl,hf0.o.trans hf.o u_,hfin.o,hLx.o⟩
end Go.Proofs.YthmjjpkjgjklmaaGreatDoor
