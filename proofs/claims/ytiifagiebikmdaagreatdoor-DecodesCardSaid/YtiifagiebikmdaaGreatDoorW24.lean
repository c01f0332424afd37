import Derived.Test.YtiifagiebikmdaaGreatDoorW23
import Derived.Test.YtiifagiebikmdaaGreatDoorW01
import Derived.Laws.AppendOwnNone
import Derived.Test.YtiifagiebikmdaaGreatDoorA00
set_option maxHeartbeats 16000000
set_option maxRecDepth 100000
set_option linter.unusedSimpArgs false
open Go.Proofs.Tryz
namespace Go.Proofs.YtiifagiebikmdaaGreatDoor
open Go.RowKit
variable {w:World}{P:Nat->Prop}{t:PT}{xs:List Value}{q:Nat}{s:BA}{ds:List PD}{sv:Value}{fs:List PF}
def zmz:PT->Prop
 | .wrap c _ _=>c=91\/c=123
 | _=>True
theorem zjj {v:Value}(h:TyV w P t v) (b:zmz t) :
 Calls prog 111 #[v] w λ e w'=>e=.returned (.bool (decide (t.kind=40)))/\Fr w w' (λ _=>False):=by
 cases h with
 | base c p hc=>
  have hk:decide ((PT.leaf c p).kind=40)=false:=by
   simp only[yc_,ax_,beq_iff_eq] at hc;exact decide_eq_false (by simp only[PT.kind];omega)
  rw[hk];obtain⟨u,hu⟩:∃ u,u=jv_ c:=⟨_,rfl⟩;rw[<- hu];have hn:=zda c;rw[<- hu] at hn;have a:=y0_ u hn.2.2.1;clear hu hn hk
  go_in
  go_wp2_with fail
  try go_ret
  exact⟨rfl,(Fr.refl w _).alloc _⟩
 | name c p hc=>
  have hk:decide ((PT.leaf c p).kind=40)=false:=by
   simp only[z5_,a1_,decide_eq_true_eq] at hc;exact decide_eq_false (by simp only[PT.kind];omega)
  rw[hk];have a:=y0_ 209 (by decide);clear hk
  go_in
  go_wp2_with fail
  try go_ret
  exact⟨rfl,(Fr.refl w _).alloc _⟩
 | wrap c p h=>
  rename_i d i
  have hk:decide ((PT.wrap c p d).kind=40)=false:=by
   refine decide_eq_false ?_;show ¬ (c=40)
   rcases b with h|h<;>omega
  rw[hk];obtain⟨u,hu,hn⟩:∃ u,u=zb3 c/\u≠220:=⟨zb3 c,rfl,by unfold zb3;split<;>decide⟩;rw[<- hu];have a:=y0_ u hn;clear hu hn hk
  go_in
  go_wp2_with fail
  try go_ret
  exact⟨rfl,(Fr.refl w _).alloc _⟩
 | alts p X ho hP h=>
  rename_i l sv;have a:=jq_;have hk:decide ((PT.alts p l).kind=40)=true:=rfl;rw[hk];obtain⟨f,g,rfl⟩:=zo_ ho;clear ho hP h hk
  go_in
  go_wp2_with fail
  try go_ret
  exact⟨rfl,(Fr.refl w _).alloc _⟩
theorem zfj {v:Value}(h:TyV w P t v) (j:zmz t) (g:t.kind≠40) :
 Calls prog 113 #[v] w λ e w'=>e=.returned (.int .u8 (t.kind:Int))/\Fr w w' (λ _=>False):=by
 cases h with
 | base c p hc=>
  simp only[yc_,ax_,beq_iff_eq] at hc;simp only[PT.kind];clear j g
  rcases hc with(((rfl|rfl)|rfl)|rfl)|rfl
  ·rw[show jv_ 110=198 from rfl];have a:=zaw
   go_in
   go_wp2_with fail
   try go_ret
   exact⟨rfl,(Fr.refl w _).alloc _⟩
  ·rw[show jv_ 116=199 from rfl];have a:=zm_ 199 (by decide);have b:=zcf
   go_in
   go_wp2_with fail
   try go_ret
   exact⟨rfl,(Fr.refl w _).alloc _⟩
  ·rw[show jv_ 105=200 from rfl];have a:=zm_ 200 (by decide);have b:=zy_ 200 (by decide);have d:=zgc
   go_in
   go_wp2_with fail
   try go_ret
   exact⟨rfl,(Fr.refl w _).alloc _⟩
  ·rw[show jv_ 108=201 from rfl];have a:=zm_ 201 (by decide);have b:=zy_ 201 (by decide);have d:=yn_ 201 (by decide);have f:=zd1
   go_in
   go_wp2_with fail
   try go_ret
   exact⟨rfl,(Fr.refl w _).alloc _⟩
  ·rw[show jv_ 115=202 from rfl];have a:=zm_ 202 (by decide);have b:=zy_ 202 (by decide);have d:=yn_ 202 (by decide);have f:=yk_ 202 (by decide);have i:=zd0
   go_in
   go_wp2_with fail
   try go_ret
   exact⟨rfl,(Fr.refl w _).alloc _⟩
 | name c p hc=>
  simp only[PT.kind];clear j g hc;have a:=zm_ 209 (by decide);have b:=zy_ 209 (by decide);have d:=yn_ 209 (by decide);have f:=yk_ 209 (by decide);have i:=yx_ 209 (by decide);have k:=yg_ 209 (by decide);have l:=xh_ 209 (by decide)
  have m:=zby
  go_in
  go_wp2_with fail
  try go_ret
  exact⟨rfl,(Fr.refl w _).alloc _⟩
 | wrap c p h=>
  obtain⟨n,o,rfl⟩:=h.iface;simp only[PT.kind];clear g h
  rcases j with rfl|rfl
  ·rw[show zb3 91=205 from rfl];have a:=zm_ 205 (by decide);have b:=zy_ 205 (by decide);have d:=yn_ 205 (by decide);have f:=yk_ 205 (by decide);have i:=yx_ 205 (by decide);have k:=zag
   go_in
   go_wp2_with fail
   try go_ret
   exact⟨rfl,(Fr.refl w _).alloc _⟩
  ·rw[show zb3 123=206 from rfl];have a:=zm_ 206 (by decide);have b:=zy_ 206 (by decide);have d:=yn_ 206 (by decide);have f:=yk_ 206 (by decide);have i:=yx_ 206 (by decide);have k:=yg_ 206 (by decide);have l:=zbj
   go_in
   go_wp2_with fail
   try go_ret
   exact⟨rfl,(Fr.refl w _).alloc _⟩
 | alts p X ho hP h=>exact absurd rfl g
theorem zjk {l:List PT}{X:Nat->Value}{n k:Nat}{ys:List Value}(ho:w.ownsRow 0 83 1 sv n ys) (hn:n<=l.length) (S:∀ g,sv.ownBlock=some g->P g) (r:∀ i t,i<n->l[i]?=some t->ys[i]?=some (X i)/\TyV w P t (X i)) (K:∀ t∈l,zmz t) (F:∀ t∈l.take n,t.kind≠40) (Q:n<=300) :
 Calls prog 112 #[sv,.int .u8 (k:Int)] w λ e w'=>e=.returned (.bool (decide (k∈(l.take n).map PT.kind)))/\Fr w w' (λ _=>False):=by
 refine hq_ λ M y=>?_;obtain⟨V,Y,rfl⟩:=zo_ ho;have E:H_ (∃ q:Nat,Value.int .i64 0=.int .i64 (q:Int)/\q<=n/\n+1-q<=n+1/\Fr w w (λ _=>False)/\k∉(l.take q).map PT.kind):=q_ ⟨0,rfl,ak_ _,by omega,Fr.refl _ _,by simp⟩;replace ho:=q_ ho;replace r:=q_ r
 go_in
 go_wp2_with fail
 go_loopg [9] (n+1) (λ m v W=>∃ q:Nat,v=.int .i64 (q:Int)/\q<=n/\n+1-q<=m/\Fr w W (λ _=>False)/\k∉(l.take q).map PT.kind)
 case atStart=>exact E.o
 case round=>
  clear E;obtain⟨q,rfl,U,R,a,he⟩:=hrel
  by_cases p:q<n
  ·have J:(q:Int)<(n:Int):=by omega
   have C:q<l.length:=by omega
   have hd:l[q]?=some l[q]:=an_ C;have A:l[q]∈l:=a0_ C
   have B:l[q]∈l.take n:=by
    rw[List.mem_iff_getElem?];exact⟨q,by rw[b2_,if_pos p];exact hd⟩
   generalize l[q]=t at hd A B;obtain⟨g,N,H⟩:=zh_ ho.o (by omega);cases H;obtain⟨u,f⟩:=r.o q t p hd;obtain⟨T,x,e⟩:=f.iface;rw[e] at u f;have c0:=zp_ (za_ ho.o a u_) rfl u;have j:=q_ (zfj (f.fr a u_) (K t A) (F t B))
   have c:(l.take (q+1)).map PT.kind=(l.take q).map PT.kind++[t.kind]:=by rw[bi_,hd];simp
   obtain⟨d,z⟩:∃ d,t.kind=d:=⟨_,rfl⟩;rw[z] at j c;replace a:=q_ a;clear u f e z
   by_cases hk:d=k
   ·subst hk
    have I:H_ (d∈(l.take n).map PT.kind):=q_ (by
     have:(l.take (q+1)).map PT.kind <+: (l.take n).map PT.kind:=(List.take_prefix_take_left (by omega)).map PT.kind
     exact this.subset (by rw[c];simp))
    clear c he
    go_wp2_with (go_at_call 113;refine j.o.mono ?_;rintro e L ⟨rfl,b⟩;replace b:=q_ b)
    try go_ret
    rw[y.o];exact⟨by rw[decide_eq_true I.o];rfl,a.o.trans b.o u_⟩
   ·have O:((d:Int)==(k:Int))=false:=by simp;omega
    have G:=q_ (show k∉(l.take (q+1)).map PT.kind by rw[c,bg_,bj_];rintro(h|h);exact he h;exact hk h.symm);clear c he
    go_wp2_with (go_at_call 113;refine j.o.mono ?_;rintro e L ⟨rfl,b⟩;replace b:=q_ b)
    go_roundg (n+1-(q+1))
    case measure=>omega
    case rel=>exact⟨q+1,rfl,p,l_,a.o.trans b.o u_,G.o⟩
  ·have J:¬ ((q:Int)<(n:Int)):=by omega
   have D:q=n:=by omega
   rw[D] at he;replace he:=q_ he;replace a:=q_ a;clear D
   go_wp2_with fail
   try go_ret
   rw[y.o];exact⟨by rw[decide_eq_false he.o],a.o⟩
open Go.RowKit
def zhi (t:PT):Prop:=∀ (w:World) (P:Nat->Prop) (v:Value) (et:TypeId) (ex:Value),TyV w P t v->ErrV 2 w et ex->
 Calls prog 81 #[v] w (xb_ w (.iface et ex) (badT t))
theorem zso (c p:Nat):zhi (.leaf c p):=by
 intro w P v l m d f;refine hq_ λ g e=>?_
 obtain⟨u,x,rfl,h1,a,b⟩:∃ u x,v=.iface u x/\u≠205/\u≠206/\u≠220:=by
  cases d with
  | base _ _ h=>exact⟨_,_,rfl,(zda c).1,(zda c).2.1,(zda c).2.2.1⟩
  | name _ _ h=>exact⟨_,_,rfl,by decide,by decide,by decide⟩
 have i:=yg_ u h1;have j:=xh_ u a;have k:=y0_ u b;clear d f h1 a b
 go_in
 go_wp2_with fail
 try go_ret
 rw[e.o];refine⟨.nilIface,rfl,Fr.refl w _,?_⟩;rw[badT]
theorem zsm (c p:Nat) (t:PT) (z:zhi t):zhi (.wrap c p t):=by
 intro w P v B C y m;refine hq_ λ E l=>?_
 obtain⟨f,k,rfl⟩:∃ f,TyV w P t f/\v=.iface (zb3 c) (.agg #[.int .i64 (p:Int),f]):=by
  cases y with
  | wrap _ _ h=>exact⟨_,h,rfl⟩
 obtain⟨i,j,rfl⟩:=k.iface
 have n:H_ (∀ T,Calls prog 81 #[.iface i j] (w.alloc (.cells #[.int .i64 (p:Int),.iface i j] T)) (xb_ (w.alloc (.cells #[.int .i64 (p:Int),.iface i j] T)) (.iface B C) (badT t))):=q_ (λ T=>by
  have u:Fr w (w.alloc (.cells #[.int .i64 (p:Int),.iface i j] T)) (λ _=>False):=(Fr.refl w _).alloc _
  exact z _ P _ _ _ (k.fr u u_) (m.fr u id))
 clear y m k z
 by_cases hc:c=91
 ·subst hc;simp only[zb3,if_true];have A:=zag
  go_in
  go_wp2_with (go_at_call 81;refine(n.o _).mono ?_;rintro e D ⟨f,rfl,b,d⟩;replace b:=q_ b;replace d:=q_ d)
  try go_ret
  rw[l.o];refine⟨f,rfl,((Fr.refl w (λ _=>False)).alloc _).trans b.o u_,?_⟩;rw[badT];have a:=d.o
  cases g:badT t with
  | nil=>rw[g] at a;exact a
  | cons x r=>rw[g] at a;exact a.less (by simp)
 ·simp only[zb3,if_neg hc];have A:=yg_ 206 (by decide);have F:=zbj
  go_in
  go_wp2_with (go_at_call 81;refine(n.o _).mono ?_;rintro e D ⟨f,rfl,b,d⟩;replace b:=q_ b;replace d:=q_ d)
  try go_ret
  rw[l.o];refine⟨f,rfl,((Fr.refl w (λ _=>False)).alloc _).trans b.o u_,?_⟩;rw[badT];have a:=d.o
  cases g:badT t with
  | nil=>rw[g] at a;exact a
  | cons x r=>rw[g] at a;exact a.less (by simp)
theorem zpt {l:List PT}(h:l[q]?=some t) (a:List Nat):za3 a (l.drop q)=(if t.kind=40\/t.kind∈a then [t.place] else [])++(badT t++za3 (a++[t.kind]) (l.drop (q+1))):=by
 have hl:=(as_.1 h).1;rw[a7_ hl,za3,(as_.1 h).2]
theorem zwh {e:TypeId}{g m cap n:Nat}(h:w.ownsRow 0 e 1 (.slice (some ⟨g,0,none⟩) m cap) n xs)(l:q<=n):w.ownsRow 0 e 1 (.slice (some ⟨g,0,none⟩) q cap) q (xs.take q):=by
 obtain⟨h1,b⟩:=h;refine⟨by rw[List.length_take,h1];omega,.inr ?_⟩
 rcases b with⟨e,_⟩|⟨g',k,a,e,c,d,o,f,i,j⟩
 ·cases e
 ·cases e;refine⟨g,cap,a,rfl,c,d,by omega,f,i,?_⟩;rw[<- j,List.take_take]
  congr 1
  omega
def zzq (w0:World) (l:List PT) (m:Nat) (v:Value) (W:World):Prop:=
 ∃ q:Nat,v=.int .i64 (q:Int)/\q<=l.length/\l.length+1-q<=m/\Fr w0 W (λ _=>False)/\za3 [] l=za3 ((l.take q).map PT.kind) (l.drop q)/\∀ t∈l.take q,t.kind≠40
theorem zm9 {T:TypeId}{x:Value}(h:TyV w P t (.iface T x)):∀ W,(method 453 T x "Place").run prog W=.ok (77,.int .i64 (t.place:Int)) W:=by
 cases h with
 | base c p hc=>
  simp only[yc_,ax_,beq_iff_eq] at hc
  rcases hc with(((rfl|rfl)|rfl)|rfl)|rfl
  ·intro W;show(method 453 198 (.agg #[.int .i64 (p:Int)]) "Place").run prog W=_;kernel_rfl
  ·intro W;show(method 453 199 (.agg #[.int .i64 (p:Int)]) "Place").run prog W=_;kernel_rfl
  ·intro W;show(method 453 200 (.agg #[.int .i64 (p:Int)]) "Place").run prog W=_;kernel_rfl
  ·intro W;show(method 453 201 (.agg #[.int .i64 (p:Int)]) "Place").run prog W=_;kernel_rfl
  ·intro W;show(method 453 202 (.agg #[.int .i64 (p:Int)]) "Place").run prog W=_;kernel_rfl
 | name c p hc=>intro W;kernel_rfl
 | wrap c p h=>
  intro W;unfold zb3;split
  ·kernel_rfl
  ·kernel_rfl
 | alts p X ho hP h=>intro W;kernel_rfl
theorem zsp (p:Nat) (l:List PT) (e9:l.length<=300) (V:∀ t∈l,zmz t) (ih:∀ t∈l,zhi t):zhi (.alts p l):=by
 intro w P v f j hv hE;refine hq_ λ e4 Q=>?_
 obtain⟨X,v2,ho,hP,hX,rfl⟩:∃ X v2,w.ownsRow 0 83 1 v2 l.length ((List.range l.length).map X)/\(∀ g,v2.ownBlock=some g->P g)/\(∀ i t,l[i]?=some t->TyV w P t (X i))/\v=.iface 220 (.agg #[.int .i64 (p:Int),v2]):=by
  cases hv with
  | alts _ X ho hP h=>exact⟨X,_,ho,hP,h,rfl⟩
 clear hv;obtain⟨ba,L,rfl⟩:=zo_ ho;obtain⟨w0,a0⟩:∃ W,W=w.alloc (.cells #[.int .i64 (p:Int),.slice ba l.length L] 220):=⟨_,rfl⟩
 have E:Fr w w0 (λ _=>False):=by rw[a0];exact(Fr.refl w _).alloc _
 have a7:Blk w0 w.heap.size [.int .i64 (p:Int),.slice ba l.length L] 220:=by rw[a0];exact Blk.new w #[.int .i64 (p:Int),.slice ba l.length L] 220
 have d2:=q_ (hE.fr E id);have b5:=q_ (za_ ho E u_);have d7:=q_ (λ i t e=>(hX i t e).fr E u_);replace a7:=q_ a7;replace E:=q_ E;clear hE ho hX;have d1:H_ (zzq w0 l (l.length+1) (.int .i64 0) w0):=q_ ⟨0,rfl,ak_ _,by omega,Fr.refl _ _,rfl,λ t ht=>by simp at ht⟩;have a1:=yg_ 220 (by decide);have a2:=xh_ 220 (by decide);have a3:=jq_;replace ih:=q_ ih;replace V:=q_ V
 go_in
 go_wp2_with fail
 rw[<- a0];clear a1 a2 a3
 go_loopg [6,28] (l.length+1) (λ m u v W=>zzq w0 l m v W)
 case atStart=>exact d1.o
 case round=>
  clear d1 a0;obtain⟨q,rfl,hq,U,b,he,b7⟩:=hrel;have B:=b.blk a7.o id
  by_cases N:q<l.length
  ·have e2:(q:Int)<(l.length:Int):=by omega
   have hd:l[q]?=some l[q]:=an_ N;have b4:l[q]∈l:=a0_ N;generalize l[q]=t at hd b4;obtain⟨g,e5,e1⟩:=zh_ b5.o (by omega);cases e1;have b6:=za_ b5.o b u_;have I:=λ i t e=>(d7.o i t e).fr b u_;obtain⟨T,x,c0,n⟩:=zf6 b6 I hd
   have f0:(q:Int)<=(L:Int):=by
    obtain⟨_,h2⟩:=b5.o
    rcases h2 with⟨e,_⟩|⟨g',e6,e7,e,k1,k2,k3,k4,k5,k6⟩
    ·cases e
    ·cases e;omega
   have b9:=V.o t b4;have O:=zwh b6 (Nat.le_of_lt N);rw[zpt hd] at he
   have Z:(l.take (q+1)).map PT.kind=(l.take q).map PT.kind++[t.kind]:=by rw[bi_,hd];simp
   have E1:=d2.o.fr b id;have a6:=q_ (E.o.trans b u_);have c1:=B.c1;have b8:=q_ (And.intro B (And.intro E1 (And.intro O (And.intro I (And.intro n b)))));clear b6 O I E1 n B b
   go_wp2_with fail
   have d6:zd_ wr wr.drew:=zd_.drew wr;obtain⟨B,E1,O,I,n,b⟩:=b8.o;have fD:Fr wr wr.drew (λ _=>False):=(Fr.refl wr _).still d6;refine z9_ (λ W=>W.cell? ⟨w.heap.size,1,none⟩=some (.slice (some ⟨g,0,none⟩) l.length L)) (by kernel_rfl) ?_;refine tA_ 0 rfl (by kernel_rfl) (λ _ _ _ h=>h) (by intro W h1;go_simp<;>rfl) ?_;refine zu_ 1 rfl (by kernel_rfl) c1 (λ K a=>?_);go_simp;refine(zjj (n.fr fD u_) b9).mono ?_;rintro e H ⟨rfl,d8⟩;refine a _ _ ?_;clear a K;have z:Fr wr H (λ _=>False):=fD.trans d8 u_;have c2:=(z.blk B id).c1
   by_cases J:t.kind=40
   ·rw[decide_eq_true J];rw[if_pos (.inl J)] at he;have D:=q_ (show badT (.alts p l)=t.place::(badT t++za3 ((l.take q).map PT.kind++[t.kind]) (l.drop (q+1))) by rw[badT,he];rfl);refine tA_ 2 rfl (by kernel_rfl) (λ _ _ _ h=>h) (by intro W h1;go_simp<;>rfl) ?_;refine vb_ 3 rfl (by kernel_rfl) (λ _ _ _ h=>h) (by kernel_rfl) ?_;refine vb_ 4 rfl (by kernel_rfl) (λ _ _ _ h=>h) (by kernel_rfl) ?_;refine vb_ 5 rfl (by kernel_rfl) (λ _ _ _ h=>h) (by kernel_rfl) ?_;refine vb_ 6 rfl (by kernel_rfl) (λ _ _ _ h=>h) (by kernel_rfl) ?_;refine vb_ 7 rfl (by kernel_rfl) (λ _ _ _ h=>h) (by kernel_rfl) ?_;refine vb_ 8 rfl (by kernel_rfl) (λ _ _ _ h=>h) (by kernel_rfl) ?_;refine vb_ 9 rfl (by kernel_rfl) (λ _ _ _ h=>h) (by kernel_rfl) ?_;refine zu_ 10 rfl (by kernel_rfl) c2 (λ K a=>?_);go_simp;refine a _ _ ?_;clear a K;refine z8_ (by kernel_rfl) c2 ?_ _;have c:=E1.fr z id;have a8:=n.fr z u_;replace z:=q_ z;clear he Z;replace c:H.cell? ⟨2,0,none⟩=some (.iface f j):=c;have e3:=zm9 a8
    go_wp2_with fail
    refine zx_ 6 (λ W=>W.cell? ⟨2,0,none⟩=some (.iface f j)) (by kernel_rfl) ?_;refine ta_ 0 rfl (by kernel_rfl) (λ _ _ _ h=>h) (by intro W h1;go_simp<;>rfl) ?_;refine ta_ 2 rfl (by kernel_rfl) (λ _ _ _ h=>h) (by intro W h1;go_simp<;>rfl) ?_;refine ze_ 1 rfl (by kernel_rfl) (λ _=>c) (λ K a=>?_);go_simp;refine(vf_ (t.place:Int) _).mono ?_;rintro e w' ⟨rfl,rfl⟩;refine a _ _ ?_;clear a K;refine ta_ 3 rfl (by kernel_rfl) (λ _ _ _ h=>h) (by intro W h1;go_simp<;>rfl) ?_;refine ze_ 4 rfl (by kernel_rfl) (λ _=>c) (λ K a=>?_);go_simp;refine a _ _ ?_;clear a K;have M:(H.drew.alloc (.cells #[.int .i64 (t.place:Int),.iface f j] 141)).cell? ⟨2,0,none⟩=some (.iface f j):=(World.cell?_alloc_lt (H.drew) _ ⟨2,0,none⟩ (by exact World.block_lt_of_cell? H ⟨2,0,none⟩ c)).trans c;refine ze_ 5 rfl (by kernel_rfl) (λ _=>M) (λ K a=>?_);go_simp;refine a _ _ ?_;clear a K;refine ze_ 6 rfl (by kernel_rfl) (λ _=>M) (λ K a=>?_);go_simp;refine a _ _ ?_;clear a K;refine zq_ (by kernel_rfl) (λ U=>absurd U (by decide)) ?_ _
    go_wp2_with fail
    try go_ret
    rw[Q.o];have A:=a6.o.trans z.o u_;have Y:=A.size;refine⟨_,rfl,(A.alloc _).drew,?_⟩;rw[D.o];exact⟨H.heap.size,Y,rfl,(Blk.new H _ _).drew⟩
   ·rw[decide_eq_false J];have a5:=zfj (n.fr z u_) b9 J;refine tA_ 2 rfl (by kernel_rfl) (λ _ _ _ h=>h) (by intro W h1;go_simp<;>rfl) ?_;refine tA_ 3 rfl (by kernel_rfl) (λ _ _ _ h=>h) (by intro W h1;go_simp<;>rfl) ?_;refine tA_ 4 rfl (by kernel_rfl) (λ _ _ _ h=>h) (by intro W h1;go_simp<;>rfl) ?_;refine tA_ 5 rfl (by kernel_rfl) (λ _ _ _ h=>h) (by intro W h1;go_simp<;>rfl) ?_;refine tA_ 6 rfl (by kernel_rfl) (λ _ _ _ h=>h) (by intro W h1;go_simp<;>rfl) ?_;refine tA_ 7 rfl (by kernel_rfl) (λ _ _ _ h=>h) (by intro W h1;go_simp<;>rfl) ?_;refine zu_ 8 rfl (by kernel_rfl) c2 (λ K a=>?_);go_simp;refine a5.mono ?_;rintro e w3 ⟨rfl,d9⟩;refine a _ _ ?_;clear a K;have R:Fr wr w3 (λ _=>False):=z.trans d9 u_;have c3:=(R.blk B id).c1;have a4:=zjk (l:=l) (X:=X) (k:=t.kind) (za_ O R u_) (Nat.le_of_lt N) hP (λ i u hi hu=>⟨by rw[b2_,if_pos hi,bk_,List.getElem?_range (by omega)];rfl,(I i u hu).fr R u_⟩) V.o b7 (by omega);refine zu_ 9 rfl (by kernel_rfl) c3 (λ K a=>?_);go_simp;refine a4.mono ?_;rintro e C ⟨rfl,e0⟩;refine a _ _ ?_;clear a K;have d:Fr wr C (λ _=>False):=R.trans e0 u_;have c4:=(d.blk B id).c1
    by_cases S:t.kind∈(l.take q).map PT.kind
    ·rw[decide_eq_true S];rw[if_pos (.inr S)] at he;have D:=q_ (show badT (.alts p l)=t.place::(badT t++za3 ((l.take q).map PT.kind++[t.kind]) (l.drop (q+1))) by rw[badT,he];rfl);refine zu_ 10 rfl (by kernel_rfl) c4 (λ K a=>?_);go_simp;refine a _ _ ?_;clear a K;refine z8_ (by kernel_rfl) c4 ?_ _;have c:=E1.fr d id;have a8:=n.fr d u_;replace d:=q_ d;replace c:C.cell? ⟨2,0,none⟩=some (.iface f j):=c;have e3:=zm9 a8;clear he Z a4 a5
     go_wp2_with fail
     refine zx_ 6 (λ W=>W.cell? ⟨2,0,none⟩=some (.iface f j)) (by kernel_rfl) ?_;refine ta_ 0 rfl (by kernel_rfl) (λ _ _ _ h=>h) (by intro W h1;go_simp<;>rfl) ?_;refine ta_ 2 rfl (by kernel_rfl) (λ _ _ _ h=>h) (by intro W h1;go_simp<;>rfl) ?_;refine ze_ 1 rfl (by kernel_rfl) (λ _=>c) (λ K a=>?_);go_simp;refine(vf_ (t.place:Int) _).mono ?_;rintro e w' ⟨rfl,rfl⟩;refine a _ _ ?_;clear a K;refine ta_ 3 rfl (by kernel_rfl) (λ _ _ _ h=>h) (by intro W h1;go_simp<;>rfl) ?_;refine ze_ 4 rfl (by kernel_rfl) (λ _=>c) (λ K a=>?_);go_simp;refine a _ _ ?_;clear a K;have M:(C.drew.alloc (.cells #[.int .i64 (t.place:Int),.iface f j] 141)).cell? ⟨2,0,none⟩=some (.iface f j):=(World.cell?_alloc_lt (C.drew) _ ⟨2,0,none⟩ (by exact World.block_lt_of_cell? C ⟨2,0,none⟩ c)).trans c;refine ze_ 5 rfl (by kernel_rfl) (λ _=>M) (λ K a=>?_);go_simp;refine a _ _ ?_;clear a K;refine ze_ 6 rfl (by kernel_rfl) (λ _=>M) (λ K a=>?_);go_simp;refine a _ _ ?_;clear a K;refine zq_ (by kernel_rfl) (λ U=>absurd U (by decide)) ?_ _
     go_wp2_with fail
     try go_ret
     rw[Q.o];have A:=a6.o.trans d.o u_;have Y:=A.size;refine⟨_,rfl,(A.alloc _).drew,?_⟩;rw[D.o];exact⟨C.heap.size,Y,rfl,(Blk.new C _ _).drew⟩
    ·rw[decide_eq_false S];rw[if_neg (λ h=>h.elim J S),ba_] at he;refine zu_ 10 rfl (by kernel_rfl) c4 (λ K a=>?_);go_simp;refine a _ _ ?_;clear a K;refine z8_ (by kernel_rfl) c4 ?_ _;have hC:=q_ (ih.o t b4 C P (.iface T x) f j (n.fr d u_) (E1.fr d id));replace d:=q_ d;clear a4 a5 I O B E1 n b
     cases hu:badT t with
     | nil=>
      rw[hu,ba_] at he;replace he:=q_ he;replace hu:=q_ hu
      go_wp2_with (go_at_call 81;refine hC.o.mono ?_;rintro e w5 ⟨v5,rfl,F,G⟩;rw[hu.o] at G;replace G:v5=.nilIface:=G;subst G;replace F:=q_ F)
      go_roundg (l.length+1-(q+1))
      case measure=>omega
      case rel=>
       obtain⟨_,_,_,_,_,b⟩:=b8.o;refine⟨q+1,rfl,N,l_,(b.trans d.o u_).trans F.o u_,by rw[Z];exact he.o,λ u d0=>?_⟩;rw[bi_,hd] at d0
       rcases bg_.1 d0 with h|h
       ·exact b7 u h
       ·simp only[Option.toList_some,bj_] at h;rw[h];exact J
     | cons y r=>
      rw[hu,a4_] at he;have D:=q_ (show badT (.alts p l)=y::(r++za3 ((l.take q).map PT.kind++[t.kind]) (l.drop (q+1))) by rw[badT,he]);replace hu:=q_ hu;clear he Z
      go_wp2_with (go_at_call 81;refine hC.o.mono ?_;rintro e w5 ⟨v5,rfl,F,G⟩;rw[hu.o] at G;obtain⟨g5,e8,rfl,a9⟩:=G;replace F:=q_ F;replace a9:=q_ a9)
      try go_ret
      rw[Q.o];have A:=a6.o.trans d.o u_;have Y:=A.size;refine⟨_,rfl,A.trans F.o u_,?_⟩;rw[D.o];exact⟨g5,by omega,rfl,a9.o⟩
  ·have e2:¬ ((q:Int)<(l.length:Int)):=by omega
   rw[bq_ (by omega),za3] at he;have D:=q_ (show badT (.alts p l)=[] by rw[badT,he]);replace b:=q_ b;clear he
   go_wp2_with fail
   try go_ret
   rw[Q.o];refine⟨.nilIface,rfl,E.o.trans b.o u_,?_⟩;rw[D.o]
theorem zsn:∀ (n:Nat) (t:PT),SizeOf.sizeOf t<=n->fewB t->shT t->zhi t:=by
 intro n
 induction n with
 | zero=>intro t h;cases t<;>simp at h
 | succ n ih=>
  intro t h hb hs
  cases t with
  | leaf c p=>exact zso c p
  | wrap c p t=>
   unfold fewB at hb;unfold shT at hs;exact zsm c p t (ih t (by simp at h;omega) hb hs.2)
  | alts p ts=>
   unfold fewB at hb;unfold shT at hs
   have b:∀ t∈ts,shT t:=by
    have:=hs.2;clear hs hb h
    induction ts with
    | nil=>intro t a;simp at a
    | cons x r ihr=>
     unfold shTs at this;intro t a
     rcases ap_.1 a with rfl|a
     ·exact this.1
     ·exact ihr this.2 t a
   refine zsp p ts hb.1 (λ t a=>?_) (λ t a=>ih t (by have:=List.sizeOf_lt_of_mem a;simp at h;omega) (hb.2 t a) (b t a));have:=b t a
   cases t with
   | wrap c p t=>unfold shT at this;exact this.1
   | leaf c p=>trivial
   | alts p l=>trivial
open Go.RowKit
theorem vu_.append {n:List PF}{ys:List Value}(h:vu_ w P s fs xs) (k:vu_ w P s n ys) (hl:xs.length=fs.length*4):vu_ w P s (fs++n) (xs++ys):=λ i f e=>by
 by_cases o:i<fs.length
 ·rw[au_ o] at e;obtain⟨a,b,c,d,h1,g,j,l,m⟩:=h i f e;exact⟨a,b,c,d,by rw[au_ (by omega)];exact h1,by rw[au_ (by omega)];exact g,by rw[au_ (by omega)];exact j,by rw[au_ (by omega)];exact l,m⟩
 ·rw[ar_ (by omega)] at e;obtain⟨a,b,c,d,h1,g,j,l,m⟩:=k _ f e;refine⟨a,b,c,d,?_,?_,?_,?_,m⟩
  ·rw[ar_ (by omega),show 4*i-xs.length=4*(i-fs.length) by omega];exact h1
  ·rw[ar_ (by omega),show 4*i+1-xs.length=4*(i-fs.length)+1 by omega];exact g
  ·rw[ar_ (by omega),show 4*i+2-xs.length=4*(i-fs.length)+2 by omega];exact j
  ·rw[ar_ (by omega),show 4*i+3-xs.length=4*(i-fs.length)+3 by omega];exact l
theorem vu_.one (h:vu_ w P s fs xs) (hl:xs.length=fs.length*4):∀ u∈xs,u.oneCell'=true:=by
 intro u hu;obtain⟨j,f⟩:=List.mem_iff_getElem?.1 hu;have r:=(as_.1 f).1
 have o:j / 4<fs.length:=by omega
 obtain⟨a,b,c,d,h1,i,k,l,rfl,rfl,n,g⟩:=h (j / 4) _ (an_ o)
 have p:j=4*(j / 4)\/j=4*(j / 4)+1\/j=4*(j / 4)+2\/j=4*(j / 4)+3:=by omega
 rcases p with e|e|e|e
 ·rw[<- e,f] at h1;simp only[ag_] at h1;rw[h1];rfl
 ·rw[<- e,f] at i;simp only[ag_] at i;rw[i];rfl
 ·rw[<- e,f] at k;simp only[ag_] at k;obtain⟨T,x,q⟩:=n.iface;rw[k,q];rfl
 ·rw[<- e,f] at l;simp only[ag_] at l
  have:∃ m,d=.pointer m:=by
   unfold DfV at g;split at g
   ·exact⟨_,g⟩
   ·obtain⟨g',v,_,e,_⟩:=g;exact⟨_,e⟩
  obtain⟨m,q⟩:=this;rw[l,q];rfl
theorem zij {d:PD}(h:ds[q]?=some d):zf_ (ds.take (q+1))=zf_ (ds.take q)++d.body.fs:=by
 unfold zf_;rw[bi_,h];simp
def zxx (w0:World) (P:Nat->Prop) (s:BA) (ds:List PD) (m:Nat) (fv v:Value) (W:World):Prop:=
 ∃ (q:Nat) (ys:List Value),v=.int .i64 (q:Int)/\q<=ds.length/\ds.length+1-q<=m/\Fr w0 W (λ _=>False)/\W.ownsRow w0.heap.size 149 4 fv (zf_ (ds.take q)).length ys/\vu_ W P s (zf_ (ds.take q)) ys
theorem zmh (q:Nat):(zf_ (ds.take q)).length<=(zf_ ds).length:=by
 have h:zf_ ds=zf_ (ds.take q)++zf_ (ds.drop q):=by
  unfold zf_;rw[<- a8_,List.take_append_drop]
 rw[h,ah_];omega
theorem zfl {rv:Value}(D:DRow w P s ds sv xs) (f0:(zf_ ds).length<=300) (O:∀ g,P g->g<w.heap.size) :
 Calls prog 80 #[.agg #[sv,rv]] w λ e w'=>∃ fv ys,e=.returned fv/\Fr w w' (λ _=>False)/\j8_ w' (λ g=>P g\/w.heap.size<=g) s (zf_ ds) fv ys:=by
 refine hq_ λ e4 Q_=>?_;obtain⟨sa,sc,rfl⟩:=zo_ D.row;have e9:=D.len;obtain⟨w0,L⟩:∃ W,W=w.alloc (.cells #[.slice sa ds.length sc,rv] 85):=⟨_,rfl⟩
 have K:Fr w w0 (λ _=>False):=by rw[L];exact(Fr.refl w _).alloc _
 have f3:w0.heap.size=w.heap.size+1:=by rw[L];simp
 have V:=q_ (D.fr K u_);have a7:H_ (zxx w0 P s ds (ds.length+1) (.slice none 0 0) (.int .i64 0) w0):=q_ ⟨0,[],rfl,ak_ _,by omega,Fr.refl _ _,World.ownsRow_nil _ _ _ _,λ i f e=>by simp[zf_] at e⟩;replace K:=q_ K;replace O:=q_ O;clear D
 go_in
 go_wp2_with fail
 rw[<- L];clear L
 go_loopg [3,11] (ds.length+1) (λ m u v W=>zxx w0 P s ds m u v W)
 case atStart=>exact a7.o
 case round=>
  clear a7;obtain⟨q,ys,rfl,hq,hm,y,c,C⟩:=hrel;have f2:=y.size;obtain⟨n,hn⟩:∃ n,(zf_ (ds.take q)).length=n:=⟨_,rfl⟩;rw[hn] at c;obtain⟨l,r,rfl⟩:=zo_ c
  by_cases R:q<ds.length
  ·have d8:(q:Int)<(ds.length:Int):=by omega
   have hd:ds[q]?=some ds[q]:=an_ R;generalize ds[q]=d at hd;obtain⟨g,e5,b9⟩:=zh_ V.o.row (by omega);cases b9;have X:=V.o.fr y u_;obtain⟨T,x,c0,c1,c2,hb⟩:=X.cells hd;have z:=zij hd;have Q:=zmh (ds:=ds) (q+1);rw[z,ah_] at Q;rw[hn] at Q;obtain⟨pl,a6⟩:∃ p,d.place=p:=⟨_,rfl⟩;obtain⟨lt,a3⟩:∃ p,d.letter=p:=⟨_,rfl⟩;rw[a6] at c0;rw[a3] at c1;have A:=(Fr.refl wr (λ _=>False)).alloc (.cells #[.int .i64 (pl:Int),.int .u8 (lt:Int),.iface T x] 132);have H:=za_ c A u_;have E:=C.fr A u_;have J:=hb.fr A u_;have G:=y.trans A u_;clear c C X A a6 a3;generalize b5:d.body=bd at hb J z Q;clear b5;have U:H_ (∀ W,bd.fs=[]->Fr (wr.alloc (.cells #[.int .i64 (pl:Int),.int .u8 (lt:Int),.iface T x] 132)) W (λ _=>False)->zxx w0 P s ds (ds.length+1-(q+1)) (.slice l n r) (.int .i64 ((q:Int)+1)) W):=q_ (λ W a0 F=>⟨q+1,ys,rfl,R,l_,G.trans F u_,by rw[z,a0,bc_,hn];exact za_ H F u_,by rw[z,a0,bc_];exact E.fr F u_⟩)
   cases hb with
   | enum p ho hP hu=>
    have Y:=x2_ 216 (by decide);clear ho hP hu J H E G
    go_wp2_with fail
    go_roundg (ds.length+1-(q+1))
    case measure=>omega
    case rel=>exact U.o _ rfl ((Fr.refl _ _).alloc _)
   | bytes p k=>
    have Y:=x2_ 233 (by decide);clear J H E G
    go_wp2_with fail
    go_roundg (ds.length+1-(q+1))
    case measure=>omega
    case rel=>exact U.o _ rfl ((Fr.refl _ _).alloc _)
   | recd p ho hP h=>
    rename_i fs f4 zs;have Y:=j1_;obtain⟨M,a,rfl⟩:=zo_ ho;obtain⟨ti,a2,d0,d1,d2⟩:=info_parts znk;have B:=(Fr.refl (wr.alloc (.cells #[.int .i64 (pl:Int),.int .u8 (lt:Int),.iface 211 (.agg #[.int .i64 (p:Int),.slice M fs.length a])] 132)) (λ _=>False)).alloc (.cells #[.int .i64 (p:Int),.slice M fs.length a] 211);have I:=q_ (za_ H B u_);have a9:=q_ (E.fr B u_);have b6:=q_ (G.trans B u_)
    have e8:fs.length<=300:=by have:(PB.recd fs).fs.length=fs.length:=rfl;omega
    have a4:=ho.1;have e2:=q_ (h.one a4);have a8:=q_ ((h.fr ((Fr.refl wr (λ _=>False)).alloc (.cells #[.int .i64 (pl:Int),.int .u8 (lt:Int),.iface 211 (.agg #[.int .i64 (p:Int),.slice M fs.length a])] 132)) u_).fr B u_);clear J H E G B
    rcases ho.2 with⟨e,f1⟩|⟨b,e6,e7,e,k1,k2,k3,k4,k5,k6⟩
    ·have b7:fs=[]:=List.length_eq_zero_iff.1 (by omega);subst b7;simp only[ao_,Value.slice.injEq,true_and] at e;obtain⟨rfl,rfl⟩:=e;clear ho h hP
     go_wp2_with (at_builtin;go_must (refine wpList_append_own_none rfl _ _ 143 rfl w0.heap.size 149 ti 4 zfa a2 (.slice l n r) n ys rfl I.o rfl ?_))
     go_roundg (ds.length+1-(q+1))
     case measure=>omega
     case rel=>exact U.o _ rfl ((Fr.refl _ _).alloc _)
    ·have e':M=some ⟨b,0,none⟩:=by cases e;rfl
     subst e'
     have e1:=q_ (λ (W:World) (F:Fr wr W (λ _=>False)) j u (d6:zs[j]?=some u)=>(show W.cell? ((⟨b,0,none⟩:Addr).add j)=some u from by
      have:=zp_ (za_ ho F u_) rfl d6
      unfold Addr.add
      split
      ·rename_i h0;rw[h0] at this;exact this
      ·simpa using this))
     have Z:=q_ (λ g (hg:P g)=>show ¬ (Value.slice l n r).ownBlock=some g from λ e0=>by have:=I.o.lt g e0;have:=O.o g hg;omega);have b4:=q_ (show Fr wr ((wr.alloc (.cells #[.int .i64 (pl:Int),.int .u8 (lt:Int),.iface 211 (.agg #[.int .i64 (p:Int),.slice (some ⟨b,0,none⟩) fs.length a])] 132)).alloc (.cells #[.int .i64 (p:Int),.slice (some ⟨b,0,none⟩) fs.length a] 211)) (λ _=>False) from((Fr.refl wr _).alloc _).alloc _);clear ho h hP e k2 k6
     go_wp2_with (at_builtin;go_must (refine wpList_append_own_at _ rfl _ _ 143 rfl w0.heap.size 149 ti _ 4 40 zfa a2 d0 d1 d2 rfl (by decide) (.slice l n r) n ys rfl I.o ⟨b,0,none⟩ fs.length a zs rfl a4 (e1.o _ b4.o) e2.o ?b1 ?b2 ?b3 ?_)
                  case b1=>unfold maxLen;omega
                  case b2=>omega
                  case b3=>simp;omega
                  intro v5 w5 S a1 d9 d7
                  obtain⟨a5,c5,rfl⟩:=zo_ S
                  have hG:=q_ a1
                  have hO:=q_ S
                  clear a1 d7 d9 S)
     go_roundg (ds.length+1-(q+1))
     case measure=>omega
     case rel=>
      have N:Fr ((wr.alloc (.cells #[.int .i64 (pl:Int),.int .u8 (lt:Int),.iface 211 (.agg #[.int .i64 (p:Int),.slice (some ⟨b,0,none⟩) fs.length a])] 132)).alloc (.cells #[.int .i64 (p:Int),.slice (some ⟨b,0,none⟩) fs.length a] 211)) w5 (λ g=>(Value.slice l n r).ownBlock=some g):=Fr.grown (Fr.refl _ _) hG.o (λ k e _=>e);refine⟨q+1,ys++zs,rfl,R,l_,b6.o.trans N (λ e3 hy e=>by have:=I.o.lt e3 e;omega),?_,?_⟩
      ·rw[z,ah_,hn];exact hO.o
      ·rw[z];exact vu_.append (a9.o.fr N Z.o) (a8.o.fr N Z.o) (by rw[hn];exact I.o.1)
  ·have d8:¬ ((q:Int)<(ds.length:Int)):=by omega
   rw[bu_ (by omega)] at hn C;have b8:=q_ (show j8_ wr (λ g=>P g\/w.heap.size<=g) s (zf_ ds) (.slice l n r) ys from⟨by rw[hn];exact yq_ c,λ g e=>.inr (by have:=c.lt g e;omega),C.mono (λ g _ hg=>.inl hg)⟩);replace y:=q_ y;clear c C
   go_wp2_with fail
   try go_ret
   rw[Q_.o];exact⟨_,ys,rfl,K.o.trans y.o u_,b8.o⟩
open Go.RowKit
theorem zu1 {f:PF}(h:fs[q]?=some f):(fs.drop q).flatMap (λ f=>badT f.ty)=badT f.ty++(fs.drop (q+1)).flatMap (λ f=>badT f.ty):=by
 have hl:=(as_.1 h).1;rw[a7_ hl,bl_,(as_.1 h).2]
theorem zel {rv:Value}{z:TypeId}{A:Value}(D:DRow w P s ds sv xs) (j:TyV w P t rv) (M:ErrV 2 w z A) (a4:(zf_ ds).length<=300) (U:∀ f∈zf_ ds,fewB f.ty/\shT f.ty) (V:fewB t/\shT t) (O:∀ g,P g->g<w.heap.size) :
 Calls prog 52 #[.agg #[sv,rv]] w (xb_ w (.iface z A) (ji_ ds t)):=by
 refine hq_ λ a6 K=>?_;obtain⟨Z,sc,rfl⟩:=zo_ D.row;obtain⟨E,rx,rfl⟩:=j.iface;have h:Fr w (w.alloc (.cells #[.slice Z ds.length sc,.iface E rx] 85)) (λ _=>False):=(Fr.refl w _).alloc _;have G:=Blk.new w #[.slice Z ds.length sc,.iface E rx] 85;have L:=q_ (zfl (rv:=.iface E rx) (D.fr h u_) a4 (λ g hg=>a5_ (O g hg) h.size));have a2:=q_ (j.fr h u_);have N:=q_ (M.fr h id);replace G:=q_ G;replace h:=q_ h;clear D M j O
 go_in
 go_wp2_with (go_at_call 80;refine L.o.mono ?_;rintro e w1 ⟨fv,ys,rfl,i,k⟩;obtain⟨fa,fc,rfl⟩:=zo_ k.row;replace i:=q_ i;replace k:=q_ k)
 have a0:H_ (∃ q:Nat,Value.int .i64 0=.int .i64 (q:Int)/\q<=(zf_ ds).length/\(zf_ ds).length+1-q<=(zf_ ds).length+1/\Fr w1 w1 (λ _=>False)/\ji_ ds t=((zf_ ds).drop q).flatMap (λ f=>badT f.ty)++badT t):=q_ ⟨0,rfl,ak_ _,by omega,Fr.refl _ _,rfl⟩
 go_loopg [9] ((zf_ ds).length+1) (λ m v W=>∃ q:Nat,v=.int .i64 (q:Int)/\q<=(zf_ ds).length/\(zf_ ds).length+1-q<=m/\Fr w1 W (λ _=>False)/\ji_ ds t=((zf_ ds).drop q).flatMap (λ f=>badT f.ty)++badT t)
 case atStart=>exact a0.o
 case round=>
  clear a0 L;obtain⟨q,rfl,hq,hm,c,he⟩:=hrel
  by_cases I:q<(zf_ ds).length
  ·have a5:(q:Int)<((zf_ ds).length:Int):=by omega
   have hd:(zf_ ds)[q]?=some (zf_ ds)[q]:=an_ I;have J:(zf_ ds)[q]∈zf_ ds:=a0_ I;generalize (zf_ ds)[q]=f at hd J;obtain⟨g,a7,a3⟩:=zh_ k.o.row (by omega);cases a3;obtain⟨T,x,d,c0,c1,c2,c3,j,a1⟩:=(k.o.fr c u_).cells hd;rw[zu1 hd] at he;obtain⟨l,S⟩:∃ l,f.letter=l:=⟨_,rfl⟩;obtain⟨pl,X⟩:∃ p,f.place=p:=⟨_,rfl⟩;rw[S] at c1;rw[X] at c0;have u:=(Fr.refl wr (λ _=>False)).alloc (.cells #[.int .i64 (pl:Int),.int .u8 (l:Int),.iface T x,.pointer d] 149);have B:=q_ (zsn _ f.ty l_ (U f J).1 (U f J).2 _ _ _ z A (j.fr u u_) (((N.o.fr i.o id).fr c id).fr u id));have R:=q_ (c.trans u u_);clear u j a1 c S X
   cases hu:badT f.ty with
   | nil=>
    rw[hu,ba_] at he;replace he:=q_ he;replace hu:=q_ hu
    go_wp2_with (go_at_call 81;refine B.o.mono ?_;rintro e w3 ⟨F,rfl,a,b⟩;rw[hu.o] at b;replace b:F=.nilIface:=b;subst b;replace a:=q_ a)
    go_roundg ((zf_ ds).length+1-(q+1))
    case measure=>omega
    case rel=>exact⟨q+1,rfl,I,l_,R.o.trans a.o u_,he.o⟩
   | cons y r=>
    rw[hu,a4_,a4_] at he;replace he:=q_ he;replace hu:=q_ hu
    go_wp2_with (go_at_call 81;refine B.o.mono ?_;rintro e w3 ⟨F,rfl,a,b⟩;rw[hu.o] at b;obtain⟨g3,a8,rfl,H⟩:=b;replace a:=q_ a;replace H:=q_ H)
    try go_ret
    rw[K.o];have n:=(h.o.trans i.o u_).trans R.o u_;have Y:=n.size;refine⟨_,rfl,n.trans a.o u_,?_⟩;rw[he.o];exact⟨g3,by omega,rfl,H.o⟩
  ·have a5:¬ ((q:Int)<((zf_ ds).length:Int)):=by omega
   rw[bq_ (by omega),b0_,ba_] at he;have Q:=c.blk (i.o.blk G.o id) id;have s1:=Q.c1;have B:=q_ (zsn _ t l_ V.1 V.2 wr P (.iface E rx) z A ((a2.o.fr i.o u_).fr c u_) ((N.o.fr i.o id).fr c id));replace he:=q_ he;replace c:=q_ c;clear Q
   go_wp2_with (go_at_call 81;refine B.o.mono ?_;rintro e w3 ⟨F,rfl,a,b⟩;replace a:=q_ a;replace b:=q_ b)
   try go_ret
   rw[K.o];have n:=(h.o.trans i.o u_).trans c.o u_;have Y:=n.size;refine⟨F,rfl,n.trans a.o u_,?_⟩;rw[he.o];have C:=b.o
   cases hu:badT t with
   | nil=>rw[hu] at C;exact C
   | cons y r=>rw[hu] at C;exact C.less Y
end Go.Proofs.YtiifagiebikmdaaGreatDoor
