import Derived.Test.YtiifagiebikmdaaGreatDoorW21
import Derived.Test.YtiifagiebikmdaaGreatDoorW22
import Derived.Test.YtiifagiebikmdaaGreatDoorA00
set_option maxHeartbeats 16000000
set_option maxRecDepth 100000
set_option linter.unusedSimpArgs false
open Go.Proofs.Tryz
namespace Go.Proofs.YtiifagiebikmdaaGreatDoor
open Go.RowKit
variable {w w':World}{q g b m cap x c:Nat}{ds:List PD}{P S:Nat->Prop}{s:BA}{xs:List Value}{sv ex rv:Value}{et:TypeId}{fs:List PF}{d:PD}{t:PT}{seen:List Nat}{p:Int}{l:List (Nat×Nat)}{f:PF}
theorem zro (c:Nat) (ds:List PD):∀ b a,(look b c ds).map Prod.fst=(look a c ds).map Prod.fst:=by
 induction ds with
 | nil=>intro b a;rfl
 | cons d r ih=>
  intro b a;simp only[look];split
  ·rfl
  ·exact ih _ _
theorem zr1 (c:Nat):zc_ [] c=none:=rfl
theorem zpg (d:PD) (a:List PD) (c:Nat):zc_ (d::a) c=if d.letter=c then some d.body else zc_ a c:=by
 unfold zc_;simp only[look];split
 ·rfl
 ·exact zro c a _ _
theorem zpf (h:ds[q]?=some d) (c:Nat):zc_ (ds.drop q) c=if d.letter=c then some d.body else zc_ (ds.drop (q+1)) c:=by
 have hl:=(as_.1 h).1;rw[a7_ hl,zpg,(as_.1 h).2]
structure DRow (w:World) (P:Nat->Prop) (s:BA) (ds:List PD) (sv:Value) (xs:List Value):Prop where
 row:w.ownsRow 0 132 3 sv ds.length xs
 off:∀ g,sv.ownBlock=some g->P g
 V:zd6 w P s ds xs
 len:ds.length<=6
theorem DRow.fr (h:DRow w P s ds sv xs) (e:Fr w w' S) (a:∀ g,P g->¬ S g):DRow w' P s ds sv xs:=
 ⟨za_ h.row e (λ g hg=>a g (h.off g hg)),h.off,h.V.fr e a,h.len⟩
theorem DRow.cells (h:DRow w P s ds (.slice (some ⟨g,0,none⟩) m cap) xs)(k:ds[q]?=some d) :
 ∃ T x,w.cell? ⟨g,q*3,none⟩=some (.int .i64 (d.place:Int))/\w.cell? ⟨g,q*3+1,none⟩=some (.int .u8 (d.letter:Int))/\w.cell? ⟨g,q*3+2,none⟩=some (.iface T x)/\vn_ w P s d.body (.iface T x):=by
 obtain⟨c,h1,a,e,i⟩:=h.V q d k;obtain⟨T,x,rfl⟩:=i.iface;have j:=zl4 h.row;subst j;rw[a2_] at h1 a e;exact⟨T,x,zp_ h.row rfl h1,zp_ h.row rfl a,zp_ h.row rfl e,i⟩
def zn3 (w:World) (P:Nat->Prop) (s:BA) (ds:List PD) (c:Nat) (e:Ending) (w':World):Prop:=
 ∃ v,e=.returned v/\Fr w w' (λ _=>False)/\match zc_ ds c with|none=>v=.nilIface|some b=>vn_ w' P s b v
theorem zap (c:Nat) (D:DRow w P s ds sv xs) :
 Calls prog 76 #[.agg #[sv,rv],.int .u8 (c:Int)] w (zn3 w P s ds c):=by
 refine hq_ λ z h=>?_;obtain⟨u,y,rfl⟩:=zo_ D.row;have B:=D.len;have j:H_ (∃ q:Nat,Value.int .i64 0=.int .i64 (q:Int)/\q<=ds.length/\ds.length+1-q<=ds.length+1/\Fr w (w.alloc (.cells #[.slice u ds.length y,rv] 85)) (λ _=>False)/\zc_ ds c=zc_ (ds.drop q) c):=q_ ⟨0,rfl,ak_ _,by omega,(Fr.refl w _).alloc _,rfl⟩;replace D:=q_ D
 go_in
 go_wp2_with fail
 go_loopg [10] (ds.length+1) (λ m v W=>∃ q:Nat,v=.int .i64 (q:Int)/\q<=ds.length/\ds.length+1-q<=m/\Fr w W (λ _=>False)/\zc_ ds c=zc_ (ds.drop q) c)
 case atStart=>exact j.o
 case round=>
  clear j;obtain⟨q,rfl,E,C,a,he⟩:=hrel
  by_cases i:q<ds.length
  ·have r:(q:Int)<(ds.length:Int):=by omega
   have hd:ds[q]?=some ds[q]:=an_ i;generalize ds[q]=d at hd;obtain⟨g,cap,n⟩:=zh_ D.o.row (by omega);cases n;have e:=D.o.fr a u_;obtain⟨T,x,c0,c1,c2,hb⟩:=e.cells hd;have k:=q_ (hb.fr ((Fr.refl wr (λ _=>False)).alloc (.cells #[.int .i64 (d.place:Int),.int .u8 (d.letter:Int),.iface T x] 132)) u_);rw[zpf hd] at he;replace e:=q_ e;replace hb:=q_ hb;replace a:=q_ a
   by_cases hc:d.letter=c
   ·rw[if_pos hc] at he;replace he:=q_ he;subst hc
    go_wp2_with fail
    try go_ret
    rw[h.o];refine⟨_,rfl,a.o.alloc _,?_⟩;rw[he.o];exact k.o
   ·rw[if_neg hc] at he;replace he:=q_ he
    have A:((d.letter:Int)==(c:Int))=false:=by simp;omega
    go_wp2_with fail
    go_roundg (ds.length+1-(q+1))
    case measure=>omega
    case rel=>exact⟨q+1,rfl,i,l_,a.o.alloc _,he.o⟩
  ·have r:¬ ((q:Int)<(ds.length:Int)):=by omega
   rw[bq_ (by omega),zr1] at he;replace he:=q_ he;replace a:=q_ a
   go_wp2_with fail
   try go_ret
   rw[h.o];refine⟨.nilIface,rfl,a.o,?_⟩;rw[he.o]
open Go.RowKit
theorem zaw (v:Value) (w:World):(Instr.typeAssert (.iface 198 v) 83 198 true).run prog w=.ok (.tuple #[v,.bool true]) w:=by kernel_rfl
theorem zgy (w:World):(do pure (Value.tuple #[<- zeroValue 198,.bool false]):Sem Value).run prog w=.ok (.tuple #[.agg #[.int .i64 0],.bool false]) w:=by kernel_rfl
theorem zm_ (u:TypeId) (h:u≠198) (v:Value) (w:World):(Instr.typeAssert (.iface u v) 83 198 true).run prog w=.ok (.tuple #[.agg #[.int .i64 0],.bool false]) w:=by
 have e:(Instr.typeAssert (.iface u v) 83 198 true).run prog w=(if u=198 then (pure (Value.tuple #[v,.bool true]):Sem Value) else (do pure (Value.tuple #[<- zeroValue 198,.bool false]))).run prog w:=by kernel_rfl
 rw[e,if_neg h];exact zgy w
theorem zcf (v:Value) (w:World):(Instr.typeAssert (.iface 199 v) 83 199 true).run prog w=.ok (.tuple #[v,.bool true]) w:=by kernel_rfl
theorem zk4 (w:World):(do pure (Value.tuple #[<- zeroValue 199,.bool false]):Sem Value).run prog w=.ok (.tuple #[.agg #[.int .i64 0],.bool false]) w:=by kernel_rfl
theorem zy_ (u:TypeId) (h:u≠199) (v:Value) (w:World):(Instr.typeAssert (.iface u v) 83 199 true).run prog w=.ok (.tuple #[.agg #[.int .i64 0],.bool false]) w:=by
 have e:(Instr.typeAssert (.iface u v) 83 199 true).run prog w=(if u=199 then (pure (Value.tuple #[v,.bool true]):Sem Value) else (do pure (Value.tuple #[<- zeroValue 199,.bool false]))).run prog w:=by kernel_rfl
 rw[e,if_neg h];exact zk4 w
theorem zgc (v:Value) (w:World):(Instr.typeAssert (.iface 200 v) 83 200 true).run prog w=.ok (.tuple #[v,.bool true]) w:=by kernel_rfl
theorem zpv (w:World):(do pure (Value.tuple #[<- zeroValue 200,.bool false]):Sem Value).run prog w=.ok (.tuple #[.agg #[.int .i64 0],.bool false]) w:=by kernel_rfl
theorem yn_ (u:TypeId) (h:u≠200) (v:Value) (w:World):(Instr.typeAssert (.iface u v) 83 200 true).run prog w=.ok (.tuple #[.agg #[.int .i64 0],.bool false]) w:=by
 have e:(Instr.typeAssert (.iface u v) 83 200 true).run prog w=(if u=200 then (pure (Value.tuple #[v,.bool true]):Sem Value) else (do pure (Value.tuple #[<- zeroValue 200,.bool false]))).run prog w:=by kernel_rfl
 rw[e,if_neg h];exact zpv w
theorem zd1 (v:Value) (w:World):(Instr.typeAssert (.iface 201 v) 83 201 true).run prog w=.ok (.tuple #[v,.bool true]) w:=by kernel_rfl
theorem zmu (w:World):(do pure (Value.tuple #[<- zeroValue 201,.bool false]):Sem Value).run prog w=.ok (.tuple #[.agg #[.int .i64 0],.bool false]) w:=by kernel_rfl
theorem yk_ (u:TypeId) (h:u≠201) (v:Value) (w:World):(Instr.typeAssert (.iface u v) 83 201 true).run prog w=.ok (.tuple #[.agg #[.int .i64 0],.bool false]) w:=by
 have e:(Instr.typeAssert (.iface u v) 83 201 true).run prog w=(if u=201 then (pure (Value.tuple #[v,.bool true]):Sem Value) else (do pure (Value.tuple #[<- zeroValue 201,.bool false]))).run prog w:=by kernel_rfl
 rw[e,if_neg h];exact zmu w
theorem zd0 (v:Value) (w:World):(Instr.typeAssert (.iface 202 v) 83 202 true).run prog w=.ok (.tuple #[v,.bool true]) w:=by kernel_rfl
theorem zms (w:World):(do pure (Value.tuple #[<- zeroValue 202,.bool false]):Sem Value).run prog w=.ok (.tuple #[.agg #[.int .i64 0],.bool false]) w:=by kernel_rfl
theorem yx_ (u:TypeId) (h:u≠202) (v:Value) (w:World):(Instr.typeAssert (.iface u v) 83 202 true).run prog w=.ok (.tuple #[.agg #[.int .i64 0],.bool false]) w:=by
 have e:(Instr.typeAssert (.iface u v) 83 202 true).run prog w=(if u=202 then (pure (Value.tuple #[v,.bool true]):Sem Value) else (do pure (Value.tuple #[<- zeroValue 202,.bool false]))).run prog w:=by kernel_rfl
 rw[e,if_neg h];exact zms w
theorem zag (v:Value) (w:World):(Instr.typeAssert (.iface 205 v) 83 205 true).run prog w=.ok (.tuple #[v,.bool true]) w:=by kernel_rfl
theorem zmv (w:World):(do pure (Value.tuple #[<- zeroValue 205,.bool false]):Sem Value).run prog w=.ok (.tuple #[.agg #[.int .i64 0,.nilIface],.bool false]) w:=by kernel_rfl
theorem yg_ (u:TypeId) (h:u≠205) (v:Value) (w:World):(Instr.typeAssert (.iface u v) 83 205 true).run prog w=.ok (.tuple #[.agg #[.int .i64 0,.nilIface],.bool false]) w:=by
 have e:(Instr.typeAssert (.iface u v) 83 205 true).run prog w=(if u=205 then (pure (Value.tuple #[v,.bool true]):Sem Value) else (do pure (Value.tuple #[<- zeroValue 205,.bool false]))).run prog w:=by kernel_rfl
 rw[e,if_neg h];exact zmv w
theorem zbj (v:Value) (w:World):(Instr.typeAssert (.iface 206 v) 83 206 true).run prog w=.ok (.tuple #[v,.bool true]) w:=by kernel_rfl
theorem zpu (w:World):(do pure (Value.tuple #[<- zeroValue 206,.bool false]):Sem Value).run prog w=.ok (.tuple #[.agg #[.int .i64 0,.nilIface],.bool false]) w:=by kernel_rfl
theorem xh_ (u:TypeId) (h:u≠206) (v:Value) (w:World):(Instr.typeAssert (.iface u v) 83 206 true).run prog w=.ok (.tuple #[.agg #[.int .i64 0,.nilIface],.bool false]) w:=by
 have e:(Instr.typeAssert (.iface u v) 83 206 true).run prog w=(if u=206 then (pure (Value.tuple #[v,.bool true]):Sem Value) else (do pure (Value.tuple #[<- zeroValue 206,.bool false]))).run prog w:=by kernel_rfl
 rw[e,if_neg h];exact zpu w
theorem jq_ (v:Value) (w:World):(Instr.typeAssert (.iface 220 v) 83 220 true).run prog w=.ok (.tuple #[v,.bool true]) w:=by kernel_rfl
theorem zk3 (w:World):(do pure (Value.tuple #[<- zeroValue 220,.bool false]):Sem Value).run prog w=.ok (.tuple #[.agg #[.int .i64 0,.slice none 0 0],.bool false]) w:=by kernel_rfl
theorem y0_ (u:TypeId) (h:u≠220) (v:Value) (w:World):(Instr.typeAssert (.iface u v) 83 220 true).run prog w=.ok (.tuple #[.agg #[.int .i64 0,.slice none 0 0],.bool false]) w:=by
 have e:(Instr.typeAssert (.iface u v) 83 220 true).run prog w=(if u=220 then (pure (Value.tuple #[v,.bool true]):Sem Value) else (do pure (Value.tuple #[<- zeroValue 220,.bool false]))).run prog w:=by kernel_rfl
 rw[e,if_neg h];exact zk3 w
theorem zby (v:Value) (w:World):(Instr.typeAssert (.iface 209 v) 83 209 true).run prog w=.ok (.tuple #[v,.bool true]) w:=by kernel_rfl
theorem zmt (w:World):(do pure (Value.tuple #[<- zeroValue 209,.bool false]):Sem Value).run prog w=.ok (.tuple #[.agg #[.int .i64 0,.int .u8 0],.bool false]) w:=by kernel_rfl
theorem jr_ (u:TypeId) (h:u≠209) (v:Value) (w:World):(Instr.typeAssert (.iface u v) 83 209 true).run prog w=.ok (.tuple #[.agg #[.int .i64 0,.int .u8 0],.bool false]) w:=by
 have e:(Instr.typeAssert (.iface u v) 83 209 true).run prog w=(if u=209 then (pure (Value.tuple #[v,.bool true]):Sem Value) else (do pure (Value.tuple #[<- zeroValue 209,.bool false]))).run prog w:=by kernel_rfl
 rw[e,if_neg h];exact zmt w
theorem j1_ (v:Value) (w:World):(Instr.typeAssert (.iface 211 v) 83 211 true).run prog w=.ok (.tuple #[v,.bool true]) w:=by kernel_rfl
theorem ziq (w:World):(do pure (Value.tuple #[<- zeroValue 211,.bool false]):Sem Value).run prog w=.ok (.tuple #[.agg #[.int .i64 0,.slice none 0 0],.bool false]) w:=by kernel_rfl
theorem x2_ (u:TypeId) (h:u≠211) (v:Value) (w:World):(Instr.typeAssert (.iface u v) 83 211 true).run prog w=.ok (.tuple #[.agg #[.int .i64 0,.slice none 0 0],.bool false]) w:=by
 have e:(Instr.typeAssert (.iface u v) 83 211 true).run prog w=(if u=211 then (pure (Value.tuple #[v,.bool true]):Sem Value) else (do pure (Value.tuple #[<- zeroValue 211,.bool false]))).run prog w:=by kernel_rfl
 rw[e,if_neg h];exact ziq w
theorem zd2 (v:Value) (w:World):(Instr.typeAssert (.iface 216 v) 83 216 true).run prog w=.ok (.tuple #[v,.bool true]) w:=by kernel_rfl
theorem zmw (w:World):(do pure (Value.tuple #[<- zeroValue 216,.bool false]):Sem Value).run prog w=.ok (.tuple #[.agg #[.int .i64 0,.slice none 0 0,.pointer none],.bool false]) w:=by kernel_rfl
theorem zgd (u:TypeId) (h:u≠216) (v:Value) (w:World):(Instr.typeAssert (.iface u v) 83 216 true).run prog w=.ok (.tuple #[.agg #[.int .i64 0,.slice none 0 0,.pointer none],.bool false]) w:=by
 have e:(Instr.typeAssert (.iface u v) 83 216 true).run prog w=(if u=216 then (pure (Value.tuple #[v,.bool true]):Sem Value) else (do pure (Value.tuple #[<- zeroValue 216,.bool false]))).run prog w:=by kernel_rfl
 rw[e,if_neg h];exact zmw w
theorem zge (v:Value) (w:World):(Instr.typeAssert (.iface 233 v) 83 233 true).run prog w=.ok (.tuple #[v,.bool true]) w:=by kernel_rfl
open Go.RowKit
def xb_ (w:World) (cause:Value) (L:List Nat) (e:Ending) (w':World):Prop:=
 ∃ v,e=.returned v/\Fr w w' (λ _=>False)/\match L with | []=>v=.nilIface|x::_=>yd_ w' w.heap.size v (x:Int) cause
def ErrV (g:Nat) (w:World) (et:TypeId) (ex:Value):Prop:=w.cell? ⟨g,0,none⟩=some (.iface et ex)
theorem ErrV.fr (h:ErrV g w et ex) (i:Fr w w' S) (e:¬ S g):ErrV g w' et ex:=
 (World.cell?_of_block (a:=⟨g,0,none⟩) (i.block _ (World.block_lt_of_cell? w ⟨g,0,none⟩ h) e)).trans h
theorem vf_ (p:Int) (w:World) :
 Calls prog 77 #[.int .i64 p] w λ e w'=>e=.returned (.int .i64 p)/\w'=w:=by
 go_in
 go_wp2
 go_ret
 exact⟨rfl,rfl⟩
theorem zda (c:Nat):jv_ c≠205/\jv_ c≠206/\jv_ c≠220/\jv_ c≠209/\jv_ c≠211/\jv_ c≠216/\jv_ c≠233:=by
 unfold jv_
 repeat' split
 all_goals decide
def zgk (t:PT):Prop:=∀ (w:World) (P:Nat->Prop) (s:BA) (ds:List PD) (sv rv v:Value) (xs:List Value) (et:TypeId) (ex:Value),DRow w P s ds sv xs->TyV w P t v->ErrV 1 w et ex->
 Calls prog 79 #[.agg #[sv,rv],v] w (xb_ w (.iface et ex) (useF (zc_ ds) (zr_ t)))
theorem zp9 (c p:Nat) (hc:yc_ c=true):zgk (.leaf c p):=by
 intro w P s ds sv rv v xs et ex D a i;refine hq_ λ n e=>?_;have j:=q_ (show useF (zc_ ds) (zr_ (.leaf c p))=[] by rw[zr_,if_pos hc];rfl)
 have k:v=.iface (jv_ c) (.agg #[.int .i64 (p:Int)]):=by
  cases a with
  | base _ _ h=>rfl
  | name _ _ h=>
   simp only[yc_,ax_,beq_iff_eq] at hc;simp only[z5_,a1_,decide_eq_true_eq] at h;omega
 subst k;clear a D i;obtain⟨u,hu⟩:∃ u,u=jv_ c:=⟨_,rfl⟩;rw[<- hu];have hn:=zda c;rw[<- hu] at hn;have r:=yg_ u hn.1;have y:=xh_ u hn.2.1;have z:=y0_ u hn.2.2.1;have A:=jr_ u hn.2.2.2.1;clear hu hn
 go_in
 go_wp2_with fail
 try go_ret
 rw[e.o];refine⟨.nilIface,rfl,(Fr.refl w _).alloc _,?_⟩;rw[j.o]
theorem zp7 (c p:Nat) (t:PT) (I:zgk t):zgk (.wrap c p t):=by
 intro w P s ds sv rv v xs et ex D H F;refine hq_ λ M E=>?_
 obtain⟨k,C,rfl⟩:∃ k,TyV w P t k/\v=.iface (zb3 c) (.agg #[.int .i64 (p:Int),k]):=by
  cases H with
  | wrap _ _ h=>exact⟨_,h,rfl⟩
 obtain⟨z,A,rfl⟩:=C.iface;obtain⟨u,y,rfl⟩:=zo_ D.row
 have G:H_ (∀ T,Calls prog 79 #[.agg #[.slice u ds.length y,rv],.iface z A] ((w.alloc (.cells #[.slice u ds.length y,rv] 85)).alloc (.cells #[.int .i64 (p:Int),.iface z A] T)) (xb_ ((w.alloc (.cells #[.slice u ds.length y,rv] 85)).alloc (.cells #[.int .i64 (p:Int),.iface z A] T)) (.iface et ex) (useF (zc_ ds) (zr_ t)))):=q_ (λ T=>by
  have B:Fr w ((w.alloc (.cells #[.slice u ds.length y,rv] 85)).alloc (.cells #[.int .i64 (p:Int),.iface z A] T)) (λ _=>False):=((Fr.refl w _).alloc _).alloc _
  exact I _ P s ds _ _ _ _ _ _ (D.fr B u_) (C.fr B u_) (F.fr B id))
 clear D H F C I
 by_cases hc:c=91
 ·subst hc;simp only[zb3,if_true];have J:=zag
  go_in
  go_wp2_with (go_at_call 79;refine(G.o _).mono ?_;rintro e L ⟨k,rfl,a,j⟩;replace a:=q_ a;replace j:=q_ j)
  try go_ret
  rw[E.o];have K:=a.o.size;refine⟨k,rfl,(((Fr.refl w (λ _=>False)).alloc _).alloc _).trans a.o u_,?_⟩;rw[zr_];have i:=j.o
  cases n:useF (zc_ ds) (zr_ t) with
  | nil=>rw[n] at i;exact i
  | cons x r=>rw[n] at i;exact i.less (by simp;omega)
 ·simp only[zb3,if_neg hc];have J:=yg_ 206 (by decide);have N:=zbj
  go_in
  go_wp2_with (go_at_call 79;refine(G.o _).mono ?_;rintro e L ⟨k,rfl,a,j⟩;replace a:=q_ a;replace j:=q_ j)
  try go_ret
  rw[E.o];have K:=a.o.size;refine⟨k,rfl,(((Fr.refl w (λ _=>False)).alloc _).alloc _).trans a.o u_,?_⟩;rw[zr_];have i:=j.o
  cases n:useF (zc_ ds) (zr_ t) with
  | nil=>rw[n] at i;exact i
  | cons x r=>rw[n] at i;exact i.less (by simp;omega)
theorem zob (c p:Nat) (hc:z5_ c=true):zgk (.leaf c p):=by
 intro w P s ds sv rv v xs et ex D M L;refine hq_ λ T I=>?_
 have F:¬ yc_ c=true:=λ h=>by
  simp only[yc_,ax_,beq_iff_eq] at h;simp only[z5_,a1_,decide_eq_true_eq] at hc;omega
 have R:v=.iface 209 (.agg #[.int .i64 (p:Int),.int .u8 (c:Int)]):=by
  cases M with
  | base _ _ h=>exact absurd h F
  | name _ _ h=>rfl
 subst R;obtain⟨G,H,rfl⟩:=zo_ D.row
 have z:=q_ (show useF (zc_ ds) (zr_ (.leaf c p))=if (zc_ ds c).isNone=true then [p] else [] by
  rw[zr_,if_neg F];unfold useF;rw[List.filter_cons];split<;>rfl)
 have n:Fr w ((w.alloc (.cells #[.slice G ds.length H,rv] 85)).alloc (.cells #[.int .i64 (p:Int),.int .u8 (c:Int)] 209)) (λ _=>False):=((Fr.refl w _).alloc _).alloc _;have J:=q_ (zap (rv:=rv) c (D.fr n u_));have E:=L.fr n id;have A:=Blk.new (w.alloc (.cells #[.slice G ds.length H,rv] 85)) #[.int .i64 (p:Int),.int .u8 (c:Int)] 209
 have N:(w.alloc (.cells #[.slice G ds.length H,rv] 85)).heap.size=w.heap.size+1:=by simp
 rw[N] at A;replace n:=q_ n;replace E:=q_ E;replace A:=q_ A;clear M D L F N;have U:=yg_ 209 (by decide);have V:=xh_ 209 (by decide);have X:=y0_ 209 (by decide)
 have Y:=zby
 cases he:zc_ ds c with
 | some b=>
  rw[he] at z;replace he:=q_ he
  go_in
  go_wp2_with (go_at_call 76;refine J.o.mono ?_;rintro e r ⟨O,rfl,j,k⟩;rw[he.o] at k;obtain⟨Z,bx,rfl⟩:=k.iface;replace j:=q_ j;clear k)
  try go_ret
  rw[I.o];refine⟨.nilIface,rfl,n.o.trans j.o u_,?_⟩;rw[z.o]
  rfl
 | none=>
  rw[he] at z;replace he:=q_ he
  go_in
  go_wp2_with (go_at_call 76;refine J.o.mono ?_;rintro e r ⟨O,rfl,j,k⟩;rw[he.o] at k;replace k:O=.nilIface:=k;subst k;have B:=(j.blk A.o id).c0;have u:=E.o.fr j id;replace j:=q_ j;replace u:_=_:=u)
  refine zx_ 7 (λ W=>W.cell? ⟨w.heap.size+1,0,none⟩=some (.int .i64 (p:Int))/\W.cell? ⟨1,0,none⟩=some (.iface et ex)) (by kernel_rfl) ?_;refine ta_ 0 rfl (by kernel_rfl) (λ _ _ _ h=>h) (by rintro W ⟨h1,C⟩;go_simp<;>rfl) ?_;refine ta_ 1 rfl (by kernel_rfl) (λ _ _ _ h=>h) (by rintro W ⟨h1,C⟩;go_simp<;>rfl) ?_;refine ta_ 3 rfl (by kernel_rfl) (λ _ _ _ h=>h) (by rintro W ⟨h1,C⟩;go_simp<;>rfl) ?_;refine ze_ 2 rfl (by kernel_rfl) (λ _=>⟨B,u⟩) (λ K i=>?_);go_simp;refine(vf_ (p:Int) _).mono ?_;rintro e w' ⟨rfl,rfl⟩;refine i _ _ ?_;clear i K;refine ta_ 4 rfl (by kernel_rfl) (λ _ _ _ h=>h) (by rintro W ⟨h1,C⟩;go_simp<;>rfl) ?_;refine ze_ 5 rfl (by kernel_rfl) (λ _=>⟨B,u⟩) (λ K i=>?_);go_simp;refine i _ _ ?_;clear i K;have y:∀ {a:Addr} {x:Value},r.cell? a=some x->(r.drew.alloc (.cells #[.int .i64 (p:Int),.iface et ex] 141)).cell? a=some x:=@λ a x h=>(World.cell?_alloc_lt (r.drew) _ a (by exact World.block_lt_of_cell? r a h)).trans h;refine ze_ 6 rfl (by kernel_rfl) (λ _=>⟨y B,y u⟩) (λ K i=>?_);go_simp;refine i _ _ ?_;clear i K;refine ze_ 7 rfl (by kernel_rfl) (λ _=>⟨y B,y u⟩) (λ K i=>?_);go_simp;refine i _ _ ?_;clear i K;refine zq_ (by kernel_rfl) (λ k=>absurd k (by decide)) ?_ _
  go_wp2_with fail
  try go_ret
  rw[I.o];have Q:=(n.o.trans j.o u_).size;refine⟨_,rfl,((n.o.trans j.o u_).alloc _).drew,?_⟩;rw[z.o];exact⟨r.heap.size,Q,rfl,(Blk.new r _ _).drew⟩
open Go.RowKit
theorem zi9 {l:List PT}(h:l[q]?=some t):zs_ (l.drop q)=zr_ t++zs_ (l.drop (q+1)):=by
 have hl:=(as_.1 h).1;rw[a7_ hl,zs_,(as_.1 h).2]
theorem zf6 {l:List PT}{X:Nat->Value}(ho:w.ownsRow 0 83 1 (.slice (some ⟨g,0,none⟩) m cap) l.length ((List.range l.length).map X)) (h:∀ i t,l[i]?=some t->TyV w P t (X i))(a:l[q]?=some t) :
 ∃ T x,w.cell? ⟨g,q,none⟩=some (.iface T x)/\TyV w P t (.iface T x):=by
 have j:=h q t a;obtain⟨T,x,e⟩:=j.iface;have hl:=(as_.1 a).1;have k:=zl4 ho;subst k;refine⟨T,x,zp_ ho rfl ?_,e▸j⟩;rw[bk_,List.getElem?_range hl,bw_,e]
theorem zqa (p:Nat) (l:List PT) (a6:l.length<=300) (G:∀ t∈l,zgk t):zgk (.alts p l):=by
 intro w P s ds sv rv v xs et ex D Q J;refine hq_ λ a4 H=>?_
 obtain⟨X,u,ho,hP,M,rfl⟩:∃ X u,w.ownsRow 0 83 1 u l.length ((List.range l.length).map X)/\(∀ g,u.ownBlock=some g->P g)/\(∀ i t,l[i]?=some t->TyV w P t (X i))/\v=.iface 220 (.agg #[.int .i64 (p:Int),u]):=by
  cases Q with
  | alts _ X ho hP h=>exact⟨X,_,ho,hP,h,rfl⟩
 clear Q;obtain⟨A,B,rfl⟩:=zo_ D.row;obtain⟨ba,bc,rfl⟩:=zo_ ho;obtain⟨w0,z⟩:∃ W,W=(w.alloc (.cells #[.slice A ds.length B,rv] 85)).alloc (.cells #[.int .i64 (p:Int),.slice ba l.length bc] 220):=⟨_,rfl⟩
 have j:Fr w w0 (λ _=>False):=by rw[z];exact((Fr.refl w _).alloc _).alloc _
 have C:Blk w0 w.heap.size [.slice A ds.length B,rv] 85:=by rw[z];exact(Blk.new w #[.slice A ds.length B,rv] 85).alloc _
 have U:=q_ (D.fr j u_);have a0:=q_ (J.fr j id);have O:=q_ (za_ ho j u_);have a1:=q_ (λ i t e=>(M i t e).fr j u_);replace C:=q_ C;replace j:=q_ j;clear D J ho M;have R:H_ (∃ q:Nat,Value.int .i64 0=.int .i64 (q:Int)/\q<=l.length/\l.length+1-q<=l.length+1/\Fr w0 w0 (λ _=>False)/\useF (zc_ ds) (zr_ (.alts p l))=useF (zc_ ds) (zs_ (l.drop q))):=q_ ⟨0,rfl,ak_ _,by omega,Fr.refl _ _,by rw[zr_];rfl⟩;have V:=yg_ 220 (by decide);have Y:=xh_ 220 (by decide);have Z:=jq_;replace G:=q_ G
 go_in
 go_wp2_with fail
 rw[<- z];clear V Y Z
 go_loopg [33] (l.length+1) (λ m v W=>∃ q:Nat,v=.int .i64 (q:Int)/\q<=l.length/\l.length+1-q<=m/\Fr w0 W (λ _=>False)/\useF (zc_ ds) (zr_ (.alts p l))=useF (zc_ ds) (zs_ (l.drop q)))
 case atStart=>exact R.o
 case round=>
  clear R z;obtain⟨q,rfl,hq,hm,a,he⟩:=hrel;have K:=a.blk C.o id;have s0:=K.c0;have s1:=K.c1
  by_cases F:q<l.length
  ·have a3:(q:Int)<(l.length:Int):=by omega
   have hd:l[q]?=some l[q]:=an_ F;have N:l[q]∈l:=a0_ F;generalize l[q]=t at hd N;obtain⟨g,cap,a2⟩:=zh_ O.o (by omega);cases a2;obtain⟨T,x,c0,L⟩:=zf6 (za_ O.o a u_) (λ i t e=>(a1.o i t e).fr a u_) hd;have I:=q_ (G.o t N wr P s ds (.slice A ds.length B) rv (.iface T x) xs et ex (U.o.fr a u_) L (a0.o.fr a id));rw[zi9 hd,zaj] at he;replace a:=q_ a;clear L
   cases hu:useF (zc_ ds) (zr_ t) with
   | nil=>
    rw[hu,ba_] at he;replace he:=q_ he;replace hu:=q_ hu
    go_wp2_with (go_at_call 79;refine I.o.mono ?_;rintro e w2 ⟨u,rfl,k,n⟩;rw[hu.o] at n;replace n:u=.nilIface:=n;subst n;replace k:=q_ k)
    go_roundg (l.length+1-(q+1))
    case measure=>omega
    case rel=>exact⟨q+1,rfl,F,l_,a.o.trans k.o u_,he.o⟩
   | cons y r=>
    rw[hu,a4_] at he;replace he:=q_ he;replace hu:=q_ hu
    go_wp2_with (go_at_call 79;refine I.o.mono ?_;rintro e w2 ⟨u,rfl,k,n⟩;rw[hu.o] at n;obtain⟨g2,a5,rfl,E⟩:=n;replace k:=q_ k;replace E:=q_ E)
    try go_ret
    rw[H.o];have a7:=(j.o.trans a.o u_).size;refine⟨_,rfl,(j.o.trans a.o u_).trans k.o u_,?_⟩;rw[he.o];exact⟨g2,by omega,rfl,E.o⟩
  ·have a3:¬ ((q:Int)<(l.length:Int)):=by omega
   rw[bq_ (by omega),zs_] at he;replace he:=q_ he;replace a:=q_ a
   go_wp2_with fail
   try go_ret
   rw[H.o];refine⟨.nilIface,rfl,j.o.trans a.o u_,?_⟩;rw[he.o]
   rfl
def fewB:PT->Prop
 | .leaf c _=>yc_ c=true\/z5_ c=true
 | .wrap _ _ t=>fewB t
 | .alts _ ts=>ts.length<=300/\∀ t∈ts,fewB t
theorem zp8:∀ (n:Nat) (t:PT),SizeOf.sizeOf t<=n->fewB t->zgk t:=by
 intro n
 induction n with
 | zero=>intro t h;cases t<;>simp at h
 | succ n ih=>
  intro t h hb
  cases t with
  | leaf c p=>
   unfold fewB at hb
   rcases hb with hb|hb
   ·exact zp9 c p hb
   ·exact zob c p hb
  | wrap c p t=>
   unfold fewB at hb;exact zp7 c p t (ih t (by simp at h;omega) hb)
  | alts p ts=>
   unfold fewB at hb;exact zqa p ts hb.1 (λ t a=>ih t (by have:=List.sizeOf_lt_of_mem a;simp at h;omega) (hb.2 t a))
theorem zzx (s:BA) (hs:s.size<=300) (f:Nat) :
 (∀ i t j,i<=s.size->pTyp s f i=.ok (t,j)->fewB t)/\(∀ i ts j,i<=s.size->x0_ s f i=.ok (ts,j)->i+ts.length<=j/\∀ t∈ts,fewB t):=by
 induction f with
 | zero=>exact⟨λ i t j _ h=>by simp[pTyp] at h,λ i t j _ h=>by simp[x0_] at h⟩
 | succ f ih=>
  obtain⟨v,o⟩:=ih;have C:=(zet s f).1;have B:=(zet s f).2;refine⟨λ i t j e h=>?_,λ i t j e h=>?_⟩
  ·rw[jl_] at h;unfold za6 at h;split at h
   ·rename_i hb;simp only[ae_,ad_] at h;obtain⟨rfl,rfl⟩:=h;unfold fewB;exact .inl hb
   ·split at h
    ·rename_i hb;have hl:=zj_ (s:=s) (i:=i) (by omega)
     cases a:pTyp s f (i+1) with
     | error k=>rw[a] at h;simp at h
     | ok r=>
      obtain⟨y,j'⟩:=r;rw[a] at h;simp only at h;split at h
      ·simp only[ae_,ad_] at h;obtain⟨rfl,rfl⟩:=h;unfold fewB;exact v _ _ _ (by omega) a
      ·simp at h
    ·split at h
     ·rename_i hb;have hl:=zj_ (s:=s) (i:=i) (by omega)
      cases a:x0_ s f (i+1) with
      | error k=>rw[a] at h;simp at h
      | ok r=>
       obtain⟨y,j'⟩:=r;rw[a] at h;simp only at h;split at h
       ·simp only[ae_,ad_] at h;obtain⟨rfl,rfl⟩:=h;have h1:=o _ _ _ (by omega) a;have A:=(B (i+1) (by omega)).1 _ _ a;unfold fewB;exact⟨by omega,h1.2⟩
       ·simp at h
     ·split at h
      ·rename_i hb;simp only[ae_,ad_] at h;obtain⟨rfl,rfl⟩:=h;unfold fewB;exact .inr hb
      ·simp at h
  ·rw[vr_] at h;unfold zgn at h
   cases a:pTyp s f i with
   | error k=>rw[a] at h;simp at h
   | ok r=>
    obtain⟨y,j'⟩:=r;rw[a] at h;have h1:=v _ _ _ e a;have A:=(C i e).1 _ _ a;simp only at h;split at h
    ·rename_i E;have hl:=zj_ (s:=s) (i:=j') (by omega)
     cases n:x0_ s f (j'+1) with
     | error k=>rw[n] at h;simp at h
     | ok r=>
      obtain⟨ts,k⟩:=r;rw[n] at h;simp only[ae_,ad_] at h;obtain⟨rfl,rfl⟩:=h;obtain⟨D,z⟩:=o _ _ _ (by omega) n;refine⟨by simp;omega,λ u hu=>?_⟩
      rcases ap_.1 hu with rfl|hu
      ·exact h1
      ·exact z u hu
    ·simp only[ae_,ad_] at h;obtain⟨rfl,rfl⟩:=h;exact⟨by simp;omega,λ u hu=>by rw[bj_] at hu;subst hu;exact h1⟩
theorem zve (hs:s.size<=300){i:Nat}{j:Nat}(a:i<=s.size) (h:pT s i=.ok (t,j)):fewB t:=(zzx s hs _).1 i t j a h
open Go.RowKit
def vo_ (w:World) (b:Nat) (seen:List Nat):Prop:=
 ∃ cs,Blk w b cs 240/\cs.length=26/\∀ k,k<26->cs[k]?=some (.bool (decide (97+k∈seen)))
theorem vo_.fr (h:vo_ w b seen) (i:Fr w w' S) (e:¬ S b):vo_ w' b seen:=by
 obtain⟨cs,h1,a⟩:=h;exact⟨cs,i.blk h1 e,a⟩
theorem vo_.same {l m:List Nat}(h:vo_ w b l) (e:∀ x,x∈l↔x∈m):vo_ w b m:=by
 obtain⟨cs,h1,a,i⟩:=h;refine⟨cs,h1,a,λ k hk=>?_⟩;rw[i k hk];simp only[e]
theorem vo_.add {k:Nat}(h:vo_ w b seen) (hk:k<26):vo_ (w.setCell ⟨b,k,none⟩ (.bool true)) b (seen++[97+k]):=by
 obtain⟨cs,h1,a,i⟩:=h;refine⟨cs.set k (.bool true),h1.set k _,by simpa using a,λ q j=>?_⟩
 by_cases e:q=k
 ·subst e;rw[List.getElem?_set_self (by omega)]
  simp
 ·rw[by_ (Ne.symm e),i q j]
  simp[e]
theorem zb5 (h:zi_ x=true):∃ k,x=97+k/\k<26:=by
 simp only[zi_,a1_,decide_eq_true_eq] at h;exact⟨x-97,by omega,by omega⟩
theorem zna (h:vo_ w b seen) (a:zi_ x=true) :
 Calls prog 140 #[.pointer (some ⟨b,0,none⟩),.agg #[.int .i64 p,.int .u8 (x:Int)]] w λ e w'=>e=.returned (.bool (decide (x∈seen)))/\Fr w w' (λ _=>False):=by
 refine hq_ λ r i=>?_;obtain⟨k,hk,n⟩:=zb5 a
 have y:IntKind.u8.wrap ((x:Int)-97)=(k:Int):=by rw[IntKind.wrap_u8];omega
 have c0:(w.alloc (.cells #[.int .i64 p,.int .u8 (x:Int)] 146)).cell? ⟨b,k,none⟩=some (.bool (decide (x∈seen))):=by
  obtain⟨cs,h1,u,j⟩:=h;rw[(h1.alloc _).cell k,j k n,hk]
 have hb:b<(w.alloc (.cells #[.int .i64 p,.int .u8 (x:Int)] 146)).heap.size:=World.block_lt_of_cell? _ ⟨b,k,none⟩ c0
 have v:(k:Int)<26:=by omega
 clear h a hk
 go_in
 go_wp2_with fail
 go_quiet (fail)
 go_wp2_with fail
 try go_ret
 rw[i.o];exact⟨rfl,((Fr.refl w _).alloc _).still (zd_.drewN _ _)⟩
theorem znb (h:vo_ w b seen) (v:zi_ x=true) :
 Calls prog 139 #[.pointer (some ⟨b,0,none⟩),.agg #[.int .i64 p,.int .u8 (x:Int)]] w λ e w'=>e=.returned (.bool (!decide (x∈seen)))/\Fr w w' (λ g=>g=b)/\vo_ w' b (seen++[x]):=by
 refine hq_ λ F z=>?_;obtain⟨k,hk,C⟩:=zb5 v
 have L:IntKind.u8.wrap ((x:Int)-97)=(k:Int):=by rw[IntKind.wrap_u8];omega
 have J:(k:Int)<26:=by omega
 have h0:=h.fr ((Fr.refl w (λ _=>False)).alloc (.cells #[.int .i64 p,.int .u8 (x:Int)] 146)) id;have B:=q_ (zna (p:=p) h0 v);have u:=Blk.new w #[.int .i64 p,.int .u8 (x:Int)] 146
 have I:b<w.heap.size:=by obtain⟨cs,h1,_⟩:=h;exact h1.lt
 replace h0:=q_ h0;replace u:=q_ u;replace hk:=q_ hk;clear h v
 by_cases j:x∈seen
 ·have hd:=q_ (show decide (x∈seen)=true from decide_eq_true j);replace j:=q_ j
  go_in
  go_wp2_with (go_at_call 140;refine B.o.mono ?_;rintro e w1 ⟨rfl,a⟩;rw[hd.o];replace a:=q_ a)
  try go_ret
  rw[z.o];refine⟨by rw[hd.o];rfl,(((Fr.refl w _).alloc _).trans a.o v_),(h0.o.fr a.o id).same (λ N=>?_)⟩;rw[bg_,bj_];exact⟨λ q=>.inl q,λ q=>by rcases q with q|rfl;exact q;exact j.o⟩
 ·have hd:=q_ (show decide (x∈seen)=false from decide_eq_false j)
  go_in
  go_wp2_with (go_at_call 140;refine B.o.mono ?_;rintro e w1 ⟨rfl,a⟩;rw[hd.o];have y:=(a.blk u.o id).c1;have n:=h0.o.fr a id;have M:=a.size;replace a:=q_ a)
  have G:w1.cell? ⟨b,k,none⟩=some (.bool (decide (97+k∈seen))):=by obtain⟨cs,r,E,A⟩:=n;rw[r.cell k,A k C]
  have H:w1.frozen? ⟨b,k,none⟩=false:=by obtain⟨cs,r,E,A⟩:=n;exact r.thaw k
  have D:=q_ (n.add C);replace n:=q_ n;refine zx_ 6 (λ W=>W.cell? ⟨w.heap.size,1,none⟩=some (.int .u8 (x:Int))) (by kernel_rfl) ?_;refine ta_ 0 rfl (by kernel_rfl) (λ _ _ _ h=>h) (by intro W h1;go_simp<;>rfl) ?_;refine ta_ 1 rfl (by kernel_rfl) (λ _ _ _ h=>h) (by intro W h1;go_simp<;>rfl) ?_;refine ta_ 2 rfl (by kernel_rfl) (λ _ _ _ h=>h) (by intro W h1;go_simp<;>rfl) ?_;refine ta_ 3 rfl (by kernel_rfl) (λ _ _ _ h=>h) (by intro W h1;go_simp<;>rfl) ?_;refine ze_ 4 rfl (by kernel_rfl) (λ _=>y) (λ K i=>?_);go_simp;refine i _ _ ?_;clear i K;refine ze_ 5 rfl (by kernel_rfl) (λ _=>y) (λ K i=>?_);go_simp;refine i _ _ ?_;clear i K;refine ze_ 6 rfl (by kernel_rfl) (λ _=>y) (λ K i=>?_);go_simp;refine i _ _ ?_;clear i K;refine zq_ (by kernel_rfl) (λ j=>absurd j (by decide)) ?_ _
  go_wp2_with fail
  try go_ret
  rw[z.o];rw[hk.o] at hd⊢;refine⟨by rw[hd.o];rfl,?_,?_⟩
  ·exact((((Fr.refl w _).alloc _).trans a.o v_).drew).setCell _ _ (λ _=>rfl)
  ·exact D.o
open Go.RowKit
def zj3:Array Value:=(List.replicate 26 (Value.bool false)).toArray
theorem zm6 (w:World):vo_ (w.alloc (.cells zj3 240)) w.heap.size []:=by
 refine⟨List.replicate 26 (Value.bool false),Blk.new w zj3 _,by simp,λ k hk=>?_⟩;rw[List.getElem?_replicate,if_pos hk]
 simp
theorem zj1:(#[.bool false,.bool false,.bool false,.bool false,.bool false,.bool false,.bool false,.bool false,.bool false,.bool false,.bool false,.bool false,.bool false,.bool false,.bool false,.bool false,.bool false,.bool false,.bool false,.bool false,.bool false,.bool false,.bool false,.bool false,.bool false,.bool false]:Array Value)=zj3:=rfl
structure j8_ (w:World) (P:Nat->Prop) (s:BA) (fs:List PF) (fv:Value) (ys:List Value):Prop where
 row:w.ownsRow 0 149 4 fv fs.length ys
 off:∀ g,fv.ownBlock=some g->P g
 V:vu_ w P s fs ys
theorem j8_.fr (h:j8_ w P s fs sv xs) (e:Fr w w' S) (a:∀ g,P g->¬ S g):j8_ w' P s fs sv xs:=
 ⟨za_ h.row e (λ g hg=>a g (h.off g hg)),h.off,h.V.fr e a⟩
theorem j8_.cells (h:j8_ w P s fs (.slice (some ⟨g,0,none⟩) m cap) xs)(v:fs[q]?=some f) :
 ∃ T x d,w.cell? ⟨g,q*4,none⟩=some (.int .i64 (f.place:Int))/\w.cell? ⟨g,q*4+1,none⟩=some (.int .u8 (f.letter:Int))/\w.cell? ⟨g,q*4+2,none⟩=some (.iface T x)/\w.cell? ⟨g,q*4+3,none⟩=some (.pointer d)/\TyV w P f.ty (.iface T x)/\DfV w P s f.dflt (.pointer d):=by
 obtain⟨a,b,c,d,h1,k,n,o,rfl,rfl,r,i⟩:=h.V q f v;obtain⟨T,x,rfl⟩:=r.iface
 obtain⟨j,rfl⟩:∃ j,d=.pointer j:=by
  unfold DfV at i;split at i
  ·exact⟨_,i⟩
  ·obtain⟨g',y,_,e,_⟩:=i;exact⟨_,e⟩
 have u:=zl4 h.row;subst u;rw[a2_] at h1 k n o;exact⟨T,x,j,zp_ h.row rfl h1,zp_ h.row rfl k,zp_ h.row rfl n,zp_ h.row rfl o,r,i⟩
theorem zry {env:Nat->Option PB}(h:fs[q]?=some f) (seen:List Nat):fldF env seen (fs.drop q)=(if f.letter∈seen then [f.place] else [])++(useF env (zr_ f.ty)++fldF env (seen++[f.letter]) (fs.drop (q+1))):=by
 have hl:=(as_.1 h).1;rw[a7_ hl,fldF,(as_.1 h).2]
theorem zjc (h:fs[q]?=some f):(fs.take (q+1)).map PF.letter=(fs.take q).map PF.letter++[f.letter]:=by
 rw[bi_,h];simp
def zzp (w0:World) (bS:Nat) (env:Nat->Option PB) (fs:List PF) (m:Nat) (v:Value) (W:World):Prop:=
 ∃ q:Nat,v=.int .i64 (q:Int)/\q<=fs.length/\fs.length+1-q<=m/\Fr w0 W (λ g=>g=bS)/\vo_ W bS ((fs.take q).map PF.letter)/\fldF env [] fs=fldF env ((fs.take q).map PF.letter) (fs.drop q)
theorem zem {fv:Value}{ys:List Value}(D:DRow w P s ds sv xs) (F:j8_ w P s fs fv ys) (hE:ErrV 1 w et ex) (hl:fs.length<=300) (e9:∀ f∈fs,zi_ f.letter=true) (e5:∀ f∈fs,fewB f.ty) (Y:∀ g,P g->g<w.heap.size) :
 Calls prog 109 #[.agg #[sv,rv],.agg #[.int .i64 p,fv]] w (xb_ w (.iface et ex) (fldF (zc_ ds) [] fs)):=by
 refine hq_ λ f0 Q_=>?_;obtain⟨O,Q,rfl⟩:=zo_ D.row;obtain⟨fa,fc,rfl⟩:=zo_ F.row;have e6:=World.block_lt_of_cell? w ⟨1,0,none⟩ hE;obtain⟨R,N⟩:∃ W,W=(w.alloc (.cells #[.slice O ds.length Q,rv] 85)).alloc (.cells #[.int .i64 p,.slice fa fs.length fc] 211):=⟨_,rfl⟩
 have b7:R.heap.size=w.heap.size+2:=by rw[N];simp
 have d2:Fr w R (λ _=>False):=by rw[N];exact((Fr.refl w _).alloc _).alloc _
 have d1:Blk R w.heap.size [.slice O ds.length Q,rv] 85:=by rw[N];exact(Blk.new w #[.slice O ds.length Q,rv] 85).alloc _
 obtain⟨w0,H⟩:∃ W,W=R.alloc (.cells zj3 240):=⟨_,rfl⟩
 have C:Fr w w0 (λ _=>False):=by rw[H];exact d2.alloc _
 have a4:Blk w0 w.heap.size [.slice O ds.length Q,rv] 85:=by rw[H];exact d1.alloc _
 have d0:vo_ w0 (w.heap.size+2) []:=by rw[H,<- b7];exact zm6 R
 have f3:w0.heap.size=w.heap.size+3:=by rw[H];simp[b7]
 have D0:=q_ (D.fr C u_);have F0:=q_ (F.fr C u_);have e3:=q_ (hE.fr C id);have e1:H_ (zzp w0 (w.heap.size+2) (zc_ ds) fs (fs.length+1) (.int .i64 0) w0):=q_ ⟨0,rfl,ak_ _,by omega,Fr.refl _ _,d0,rfl⟩;replace a4:=q_ a4;replace C:=q_ C
 have a8:1≠w.heap.size+2:=by omega
 have Y:=q_ Y;clear D F hE d0 b7 d2 d1 e6
 go_in
 go_wp2_with fail
 rw[zj1,<- N,<- H];clear N H
 go_loopg [12] (fs.length+1) (λ m v W=>zzp w0 (w.heap.size+2) (zc_ ds) fs m v W)
 case atStart=>exact e1.o
 case round=>
  clear e1;obtain⟨q,rfl,hq,hm,n,M,he⟩:=hrel;have f2:=n.size;have hS:=n.blk a4.o (by omega)
  by_cases a9:q<fs.length
  ·have e8:(q:Int)<(fs.length:Int):=by omega
   have hd:fs[q]?=some fs[q]:=an_ a9;have b4:fs[q]∈fs:=a0_ a9;generalize fs[q]=f at hd b4;have a6:=e9 f b4;obtain⟨g,cap,e7⟩:=zh_ F0.o.row (by omega);cases e7
   have b5:∀ g,P g->¬ g=w.heap.size+2:=λ g hg=>by have:=Y.o g hg;omega
   obtain⟨T,x,d,c0,c1,c2,c3,hT,e2⟩:=(F0.o.fr n b5).cells hd;obtain⟨l,d6⟩:∃ l,f.letter=l:=⟨_,rfl⟩;obtain⟨pl,d7⟩:∃ p,f.place=p:=⟨_,rfl⟩;obtain⟨ty,d9⟩:∃ t,f.ty=t:=⟨_,rfl⟩;have a1:=e5 f b4;rw[zry hd] at he;have a2:=zjc hd;rw[d6] at a6 c1 he a2;rw[d7] at c0 he;rw[d9] at hT he a1;have u:=(Fr.refl wr (λ _=>False)).alloc (.cells #[.int .i64 (pl:Int),.int .u8 (l:Int),.iface T x,.pointer d] 149);have I:=Blk.new wr #[.int .i64 (pl:Int),.int .u8 (l:Int),.iface T x,.pointer d] 149
   have e0:(wr.alloc (.cells #[.int .i64 (pl:Int),.int .u8 (l:Int),.iface T x,.pointer d] 149)).heap.size=wr.heap.size+1:=by simp
   have X:=q_ (znb (p:=(pl:Int)) (M.fr u id) a6);have a5:=hT.fr u u_;have D1:=(D0.o.fr n b5).fr u u_;have E1:=(e3.o.fr n a8).fr u id;have U:=u.blk hS id;have b9:=q_ ((C.o.trans n (λ a3 hy e=>by omega)).trans u u_);have e4:=q_ (n.trans u v_);replace a5:=q_ a5;replace D1:=q_ D1;replace E1:=q_ E1;replace U:=q_ U;replace I:=q_ I;replace e0:=q_ e0;replace a1:=q_ a1;clear hT e2 u d6 d7 d9 hS n M a6 b5;obtain⟨seen,M⟩:∃ l,(fs.take q).map PF.letter=l:=⟨_,rfl⟩;rw[M] at he a2 X;clear M
   by_cases a0:l∈seen
   ·have Z:=q_ (show(!decide (l∈seen))=false by rw[decide_eq_true a0];rfl);rw[if_pos a0] at he;replace he:=q_ he
    go_wp2_with (go_at_call 139;refine X.o.mono ?_;rintro e j ⟨rfl,i,z⟩;rw[Z.o];have n0:=(i.blk I.o (by omega)).c0;have G:=E1.o.fr i a8;replace i:=q_ i;replace G:_=_:=G;clear z)
    refine zx_ 8 (λ W=>W.cell? ⟨wr.heap.size,0,none⟩=some (.int .i64 (pl:Int))/\W.cell? ⟨1,0,none⟩=some (.iface et ex)) (by kernel_rfl) ?_;refine ta_ 0 rfl (by kernel_rfl) (λ _ _ _ h=>h) (by rintro W ⟨h1,y⟩;go_simp<;>rfl) ?_;refine ta_ 1 rfl (by kernel_rfl) (λ _ _ _ h=>h) (by rintro W ⟨h1,y⟩;go_simp<;>rfl) ?_;refine ta_ 2 rfl (by kernel_rfl) (λ _ _ _ h=>h) (by rintro W ⟨h1,y⟩;go_simp<;>rfl) ?_;refine ta_ 4 rfl (by kernel_rfl) (λ _ _ _ h=>h) (by rintro W ⟨h1,y⟩;go_simp<;>rfl) ?_;refine ze_ 3 rfl (by kernel_rfl) (λ _=>⟨n0,G⟩) (λ K k=>?_);go_simp;refine(vf_ (pl:Int) _).mono ?_;rintro e w' ⟨rfl,rfl⟩;refine k _ _ ?_;clear k K;refine ta_ 5 rfl (by kernel_rfl) (λ _ _ _ h=>h) (by rintro W ⟨h1,y⟩;go_simp<;>rfl) ?_;refine ze_ 6 rfl (by kernel_rfl) (λ _=>⟨n0,G⟩) (λ K k=>?_);go_simp;refine k _ _ ?_;clear k K;have V:∀ {a:Addr} {x:Value},j.cell? a=some x->(j.drew.alloc (.cells #[.int .i64 (pl:Int),.iface et ex] 141)).cell? a=some x:=@λ a x h=>(World.cell?_alloc_lt (j.drew) _ a (by exact World.block_lt_of_cell? j a h)).trans h;refine ze_ 7 rfl (by kernel_rfl) (λ _=>⟨V n0,V G⟩) (λ K k=>?_);go_simp;refine k _ _ ?_;clear k K;refine ze_ 8 rfl (by kernel_rfl) (λ _=>⟨V n0,V G⟩) (λ K k=>?_);go_simp;refine k _ _ ?_;clear k K;refine zq_ (by kernel_rfl) (λ hm=>absurd hm (by decide)) ?_ _
    go_wp2_with fail
    try go_ret
    rw[Q_.o];have L:=b9.o.trans i.o (λ a3 hy e=>by omega);have d8:=L.size;refine⟨_,rfl,(L.alloc _).drew,?_⟩;rw[he.o];exact⟨j.heap.size,d8,rfl,(Blk.new j _ _).drew⟩
   ·have Z:=q_ (show(!decide (l∈seen))=true by rw[decide_eq_false a0];rfl);rw[if_neg a0,ba_] at he
    have b6:∀ g,P g->¬ g=w.heap.size+2:=λ g hg=>by have:=Y.o g hg;omega
    have b8:H_ (∀ j,Fr (wr.alloc (.cells #[.int .i64 (pl:Int),.int .u8 (l:Int),.iface T x,.pointer d] 149)) j (λ g=>g=w.heap.size+2)->Calls prog 79 #[.agg #[.slice O ds.length Q,rv],.iface T x] j (xb_ j (.iface et ex) (useF (zc_ ds) (zr_ ty)))):=q_ (λ j y=>zp8 _ ty l_ a1.o j P s ds _ rv _ xs et ex (D1.o.fr y b6) (a5.o.fr y b6) (E1.o.fr y a8));clear b6
    cases hu:useF (zc_ ds) (zr_ ty) with
    | nil=>
     rw[hu,ba_] at he;replace he:=q_ he;replace hu:=q_ hu
     go_wp2_with (first
      |(go_at_call 139;refine X.o.mono ?_;rintro e j ⟨rfl,i,z⟩;rw[Z.o];have J:=i.blk I.o (by omega);have B:=i.blk U.o (by omega);have n2:=J.c2;have s0:=B.c0;have s1:=B.c1;replace i:=q_ i;replace z:=q_ z;clear J B)
      |(go_at_call 79;refine(b8.o j i.o).mono ?_;rintro e w3 ⟨v3,rfl,A,E⟩;rw[hu.o] at E;replace E:v3=.nilIface:=E;subst E;replace A:=q_ A))
     go_roundg (fs.length+1-(q+1))
     case measure=>omega
     case rel=>exact⟨q+1,rfl,a9,l_,(e4.o.trans i.o u_).trans A.o v_,by rw[a2];exact z.o.fr A.o id,by rw[a2];exact he.o⟩
    | cons a3 r=>
     rw[hu,a4_] at he;replace he:=q_ he;replace hu:=q_ hu
     go_wp2_with (first
      |(go_at_call 139;refine X.o.mono ?_;rintro e j ⟨rfl,i,z⟩;rw[Z.o];have J:=i.blk I.o (by omega);have B:=i.blk U.o (by omega);have n2:=J.c2;have s0:=B.c0;have s1:=B.c1;replace i:=q_ i;replace z:=q_ z;clear J B)
      |(go_at_call 79;refine(b8.o j i.o).mono ?_;rintro e w3 ⟨v3,rfl,A,E⟩;rw[hu.o] at E;obtain⟨g3,f1,rfl,a7⟩:=E;replace A:=q_ A;replace a7:=q_ a7))
     try go_ret
     rw[Q_.o];have L:=b9.o.trans i.o (λ a3 hy e=>by omega);have d8:=L.size;refine⟨_,rfl,L.trans A.o u_,?_⟩;rw[he.o];exact⟨g3,by omega,rfl,a7.o⟩
  ·have e8:¬ ((q:Int)<(fs.length:Int)):=by omega
   rw[bq_ (by omega),fldF] at he;replace he:=q_ he;replace n:=q_ n
   go_wp2_with fail
   try go_ret
   rw[Q_.o];refine⟨.nilIface,rfl,C.o.trans n.o (λ a3 hy e=>by omega),?_⟩;rw[he.o]
open Go.RowKit
theorem vw_ :∀ {q:Nat}{c p:Nat},l[q]?=some (c,p)->(yp_ l)[q*2]?=some (.int .i64 (p:Int))/\(yp_ l)[q*2+1]?=some (.int .u8 (c:Int)):=by
 induction l with
 | nil=>intro q c p h;simp at h
 | cons x r ih=>
  intro q c p h
  have hc:yp_ (x::r)=.int .i64 (x.2:Int) :: .int .u8 (x.1:Int)::yp_ r:=by simp[yp_]
  rw[hc]
  cases q with
  | zero=>
   simp only[aa_,ag_] at h;subst h;exact⟨rfl,rfl⟩
  | succ q=>
   rw[ab_] at h;have:=ih h;rw[show(q+1)*2=q*2+1+1 by omega];exact this
theorem zr6 {p:Nat}(h:l[q]?=some (c,p)) (seen:List Nat):dupS seen (l.drop q)=(if c∈seen then [p] else [])++dupS (seen++[c]) (l.drop (q+1)):=by
 have hl:=(as_.1 h).1;rw[a7_ hl,dupS,(as_.1 h).2]
theorem zm4 {p:Nat}(h:l[q]?=some (c,p)):(l.take (q+1)).map Prod.fst=(l.take q).map Prod.fst++[c]:=by
 rw[bi_,h];simp
def zzo (w0:World) (bS:Nat) (l:List (Nat×Nat)) (m:Nat) (v:Value) (W:World):Prop:=
 ∃ q:Nat,v=.int .i64 (q:Int)/\q<=l.length/\l.length+1-q<=m/\Fr w0 W (λ g=>g=bS)/\vo_ W bS ((l.take q).map Prod.fst)/\dupS [] l=dupS ((l.take q).map Prod.fst) (l.drop q)
theorem zdi {u:Value}{o:Option (Nat×Nat)}(ho:w.ownsRow 0 146 2 sv l.length (yp_ l)) (a5:∀ g,sv.ownBlock=some g->P g) (G:UnkV w P o u) (hE:ErrV 1 w et ex) (hl:l.length<=300) (e6:∀ q∈l,zi_ q.1=true) (e7:∀ c p,o=some (c,p)->zi_ c=true) (U:∀ g,P g->g<w.heap.size) :
 Calls prog 110 #[.agg #[.int .i64 p,sv,u]] w (xb_ w (.iface et ex) (dupS [] l++unkF l o)):=by
 refine hq_ λ e8 T=>?_;obtain⟨sa,sc,rfl⟩:=zo_ ho
 obtain⟨d,rfl⟩:∃ d,u=.pointer d:=by
  unfold UnkV at G;split at G
  ·exact⟨_,G⟩
  ·obtain⟨g',_,e,_⟩:=G;exact⟨_,e⟩
 have e2:1<w.heap.size:=World.block_lt_of_cell? w ⟨1,0,none⟩ hE;obtain⟨R,Q⟩:∃ W,W=w.alloc (.cells #[.int .i64 p,.slice sa l.length sc,.pointer d] 216):=⟨_,rfl⟩
 have a9:R.heap.size=w.heap.size+1:=by rw[Q];simp
 have b9:Fr w R (λ _=>False):=by rw[Q];exact(Fr.refl w _).alloc _
 have b8:Blk R w.heap.size [.int .i64 p,.slice sa l.length sc,.pointer d] 216:=by rw[Q];exact Blk.new w #[.int .i64 p,.slice sa l.length sc,.pointer d] 216
 obtain⟨w0,H⟩:∃ W,W=R.alloc (.cells zj3 240):=⟨_,rfl⟩
 have E:Fr w w0 (λ _=>False):=by rw[H];exact b9.alloc _
 have a1:Blk w0 w.heap.size [.int .i64 p,.slice sa l.length sc,.pointer d] 216:=by rw[H];exact b8.alloc _
 have b7:vo_ w0 (w.heap.size+1) []:=by rw[H,<- a9];exact zm6 R
 have f0:w0.heap.size=w.heap.size+2:=by rw[H];simp[a9]
 have d2:=q_ (za_ ho E u_);have d8:=q_ (G.fr E u_);have b6:=q_ (hE.fr E id);have d7:H_ (zzo w0 (w.heap.size+1) l (l.length+1) (.int .i64 0) w0):=q_ ⟨0,rfl,ak_ _,by omega,Fr.refl _ _,b7,rfl⟩;replace a1:=q_ a1;replace E:=q_ E
 have a3:1≠w.heap.size+1:=by omega
 replace U:=q_ U;replace a5:=q_ a5;clear ho G hE b7 a9 b9 b8 e2
 go_in
 go_wp2_with fail
 rw[zj1,<- Q,<- H];clear Q H
 go_loopg [9] (l.length+1) (λ m v W=>zzo w0 (w.heap.size+1) l m v W)
 case atStart=>exact d7.o
 case round=>
  clear d7;obtain⟨q,rfl,hq,Y,z,B,he⟩:=hrel;have e9:=z.size;have N:=z.blk a1.o (by omega)
  by_cases a4:q<l.length
  ·have e4:(q:Int)<(l.length:Int):=by omega
   have hd:l[q]?=some l[q]:=an_ a4;have d1:l[q]∈l:=a0_ a4;generalize l[q]=f at hd d1;obtain⟨c,pl⟩:=f;have d0:zi_ c=true:=e6 _ d1;obtain⟨g,cap,e3⟩:=zh_ d2.o (by omega);cases e3
   have e5:¬ g=w.heap.size+1:=by have:=U.o g (a5.o g rfl);omega
   have a6:=za_ d2.o z (λ g' e=>by simp only[Value.ownBlock,ag_] at e;subst e;exact e5);have c0:=zp_ a6 rfl (vw_ hd).1;have c1:=zp_ a6 rfl (vw_ hd).2;rw[zr6 hd] at he;have a8:=zm4 hd;have I:=(Fr.refl wr (λ _=>False)).alloc (.cells #[.int .i64 (pl:Int),.int .u8 (c:Int)] 146);have N1:=Blk.new wr #[.int .i64 (pl:Int),.int .u8 (c:Int)] 146;have a0:=q_ (znb (p:=(pl:Int)) (B.fr I id) d0);have E1:=(b6.o.fr z a3).fr I id;have L:=q_ ((E.o.trans z (λ b4 hy e=>by omega)).trans I u_);have e0:=q_ (z.trans I v_);replace E1:=q_ E1;replace N1:=q_ N1;clear I N z B d0 a6;obtain⟨seen,B⟩:∃ l',(l.take q).map Prod.fst=l':=⟨_,rfl⟩;rw[B] at he a8 a0;clear B
   by_cases V:c∈seen
   ·have D:=q_ (show(!decide (c∈seen))=false by rw[decide_eq_true V];rfl);rw[if_pos V] at he;replace he:=q_ he
    go_wp2_with (go_at_call 139;refine a0.o.mono ?_;rintro e k ⟨rfl,j,O⟩;rw[D.o];have C:=(j.blk N1.o (by omega)).c0;have n:=E1.o.fr j a3;replace j:=q_ j;replace n:_=_:=n;clear O)
    refine zx_ 7 (λ W=>W.cell? ⟨wr.heap.size,0,none⟩=some (.int .i64 (pl:Int))/\W.cell? ⟨1,0,none⟩=some (.iface et ex)) (by kernel_rfl) ?_;refine ta_ 0 rfl (by kernel_rfl) (λ _ _ _ h=>h) (by rintro W ⟨h1,A⟩;go_simp<;>rfl) ?_;refine ta_ 1 rfl (by kernel_rfl) (λ _ _ _ h=>h) (by rintro W ⟨h1,A⟩;go_simp<;>rfl) ?_;refine ta_ 3 rfl (by kernel_rfl) (λ _ _ _ h=>h) (by rintro W ⟨h1,A⟩;go_simp<;>rfl) ?_;refine ze_ 2 rfl (by kernel_rfl) (λ _=>⟨C,n⟩) (λ K i=>?_);go_simp;refine(vf_ (pl:Int) _).mono ?_;rintro e w' ⟨rfl,rfl⟩;refine i _ _ ?_;clear i K;refine ta_ 4 rfl (by kernel_rfl) (λ _ _ _ h=>h) (by rintro W ⟨h1,A⟩;go_simp<;>rfl) ?_;refine ze_ 5 rfl (by kernel_rfl) (λ _=>⟨C,n⟩) (λ K i=>?_);go_simp;refine i _ _ ?_;clear i K;have y:∀ {a:Addr} {x:Value},k.cell? a=some x->(k.drew.alloc (.cells #[.int .i64 (pl:Int),.iface et ex] 141)).cell? a=some x:=@λ a x h=>(World.cell?_alloc_lt (k.drew) _ a (by exact World.block_lt_of_cell? k a h)).trans h;refine ze_ 6 rfl (by kernel_rfl) (λ _=>⟨y C,y n⟩) (λ K i=>?_);go_simp;refine i _ _ ?_;clear i K;refine ze_ 7 rfl (by kernel_rfl) (λ _=>⟨y C,y n⟩) (λ K i=>?_);go_simp;refine i _ _ ?_;clear i K;refine zq_ (by kernel_rfl) (λ Y=>absurd Y (by decide)) ?_ _
    go_wp2_with fail
    try go_ret
    rw[T.o];have J:=L.o.trans j.o (λ b4 hy e=>by omega);have a7:=J.size;refine⟨_,rfl,(J.alloc _).drew,?_⟩;rw[he.o];exact⟨k.heap.size,a7,rfl,(Blk.new k _ _).drew⟩
   ·have D:=q_ (show(!decide (c∈seen))=true by rw[decide_eq_false V];rfl);rw[if_neg V,ba_] at he;replace he:=q_ he
    go_wp2_with (go_at_call 139;refine a0.o.mono ?_;rintro e k ⟨rfl,j,O⟩;rw[D.o];replace j:=q_ j;replace O:=q_ O)
    go_roundg (l.length+1-(q+1))
    case measure=>omega
    case rel=>exact⟨q+1,rfl,a4,l_,e0.o.trans j.o u_,by rw[a8];exact O.o,by rw[a8];exact he.o⟩
  ·have e4:¬ ((q:Int)<(l.length:Int)):=by omega
   have d6:q=l.length:=by omega
   rw[bq_ (by omega),dupS] at he;rw[d6,List.take_length] at B;have c2:=N.c2;have a2:=d8.o.fr z (λ g hg e=>by have:=U.o g hg;omega);have e1:=b6.o.fr z a3;have L:=q_ (E.o.trans z (λ b4 hy e=>by omega));replace B:=q_ B;replace N:=q_ N;replace e1:=q_ e1;clear z d6
   cases o with
   | none=>
    have hn:d=none:=by
     have:Value.pointer d=.pointer none:=a2;cases this;rfl
    subst hn;have M:=q_ (show dupS [] l++unkF l none=[] by rw[he];rfl);clear a2 he
    go_wp2_with fail
    try go_ret
    rw[T.o];refine⟨.nilIface,rfl,L.o,?_⟩;rw[M.o]
   | some r=>
    obtain⟨c,pl⟩:=r;obtain⟨g,hg,d9,hB⟩:∃ g,P g/\Value.pointer d=.pointer (some ⟨g,0,none⟩)/\Blk wr g [.int .i64 (pl:Int),.int .u8 (c:Int)] 146:=a2;cases d9;have b0:=hB.c0;have b1:=hB.c1;have b5:=q_ (zna (p:=(pl:Int)) B.o (e7 c pl rfl));replace hB:=q_ hB
    by_cases X:c∈l.map Prod.fst
    ·have D:=q_ (show decide (c∈l.map Prod.fst)=true from decide_eq_true X);have M:=q_ (show dupS [] l++unkF l (some (c,pl))=[] by rw[he];simp only[unkF];rw[if_pos X];rfl);clear he
     go_wp2_with (go_at_call 140;refine b5.o.mono ?_;rintro e k ⟨rfl,j⟩;rw[D.o];replace j:=q_ j)
     try go_ret
     rw[T.o];refine⟨.nilIface,rfl,L.o.trans j.o u_,?_⟩;rw[M.o]
    ·have D:=q_ (show decide (c∈l.map Prod.fst)=false from decide_eq_false X);have M:=q_ (show dupS [] l++unkF l (some (c,pl))=[pl] by rw[he];simp only[unkF];rw[if_neg X];rfl);clear he
     go_wp2_with (go_at_call 140;refine b5.o.mono ?_;rintro e k ⟨rfl,j⟩;rw[D.o];have C:=(j.blk hB.o id).c0;have Z:=(j.blk N.o id).c2;have n:=e1.o.fr j id;replace j:=q_ j;replace n:_=_:=n)
     refine zx_ 10 (λ W=>W.cell? ⟨w.heap.size,2,none⟩=some (.pointer (some ⟨g,0,none⟩))/\W.cell? ⟨g,0,none⟩=some (.int .i64 (pl:Int))/\W.cell? ⟨1,0,none⟩=some (.iface et ex)) (by kernel_rfl) ?_;refine ta_ 0 rfl (by kernel_rfl) (λ _ _ _ h=>h) (by rintro W ⟨h1,A,F⟩;go_simp<;>rfl) ?_;refine ta_ 1 rfl (by kernel_rfl) (λ _ _ _ h=>h) (by rintro W ⟨h1,A,F⟩;go_simp<;>rfl) ?_;refine ta_ 2 rfl (by kernel_rfl) (λ _ _ _ h=>h) (by rintro W ⟨h1,A,F⟩;go_simp<;>rfl) ?_;refine ta_ 3 rfl (by kernel_rfl) (λ _ _ _ h=>h) (by rintro W ⟨h1,A,F⟩;go_simp<;>rfl) ?_;refine ta_ 4 rfl (by kernel_rfl) (λ _ _ _ h=>h) (by rintro W ⟨h1,A,F⟩;go_simp<;>rfl) ?_;refine ta_ 6 rfl (by kernel_rfl) (λ _ _ _ h=>h) (by rintro W ⟨h1,A,F⟩;go_simp<;>rfl) ?_;refine ze_ 5 rfl (by kernel_rfl) (λ _=>⟨Z,C,n⟩) (λ K i=>?_);go_simp;refine(vf_ (pl:Int) _).mono ?_;rintro e w' ⟨rfl,rfl⟩;refine i _ _ ?_;clear i K;refine ta_ 7 rfl (by kernel_rfl) (λ _ _ _ h=>h) (by rintro W ⟨h1,A,F⟩;go_simp<;>rfl) ?_;refine ze_ 8 rfl (by kernel_rfl) (λ _=>⟨Z,C,n⟩) (λ K i=>?_);go_simp;refine i _ _ ?_;clear i K;have y:∀ {a:Addr} {x:Value},k.cell? a=some x->(k.drew.alloc (.cells #[.int .i64 (pl:Int),.iface et ex] 141)).cell? a=some x:=@λ a x h=>(World.cell?_alloc_lt (k.drew) _ a (by exact World.block_lt_of_cell? k a h)).trans h;refine ze_ 9 rfl (by kernel_rfl) (λ _=>⟨y Z,y C,y n⟩) (λ K i=>?_);go_simp;refine i _ _ ?_;clear i K;refine ze_ 10 rfl (by kernel_rfl) (λ _=>⟨y Z,y C,y n⟩) (λ K i=>?_);go_simp;refine i _ _ ?_;clear i K;refine zq_ (by kernel_rfl) (λ Y=>absurd Y (by decide)) ?_ _
     go_wp2_with fail
     try go_ret
     rw[T.o];have J:=L.o.trans j.o (λ b4 hy e=>e);have a7:=J.size;refine⟨_,rfl,(J.alloc _).drew,?_⟩;rw[M.o];exact⟨k.heap.size,a7,rfl,(Blk.new k _ _).drew⟩
open Go.RowKit
def plB:PB->Prop
 | .recd fs=>fs.length<=300/\(∀ f∈fs,zi_ f.letter=true)/\∀ f∈fs,fewB f.ty
 | .enum l o=>l.length<=300/\(∀ q∈l,zi_ q.1=true)/\∀ c p,o=some (c,p)->zi_ c=true
 | .bytes _=>True
theorem zgq {v:Value}{b:PB}(D:DRow w P s ds sv xs) (hb:vn_ w P s b v) (z:ErrV 1 w et ex) (j:plB b) (B:∀ g,P g->g<w.heap.size) :
 Calls prog 78 #[.agg #[sv,rv],v] w (xb_ w (.iface et ex) (zdz (zc_ ds) b)):=by
 refine hq_ λ Q F=>?_;obtain⟨L,M,rfl⟩:=zo_ D.row
 cases hb with
 | recd p ho hP h=>
  rename_i fs fv ys;obtain⟨G,H,rfl⟩:=zo_ ho;have a:Fr w ((w.alloc (.cells #[.slice L ds.length M,rv] 85)).alloc (.cells #[.int .i64 (p:Int),.slice G fs.length H] 211)) (λ _=>False):=((Fr.refl w _).alloc _).alloc _;have C:=a.size;have I:=q_ (zem (rv:=rv) (p:=(p:Int)) (D.fr a u_) ((⟨ho,hP,h⟩:j8_ w P s fs _ _).fr a u_) (z.fr a id) j.1 j.2.1 j.2.2 (λ g hg=>a5_ (B g hg) C));replace a:=q_ a;have K:=j1_;clear D ho hP h z j B
  go_in
  go_wp2_with (go_at_call 109;refine I.o.mono ?_;rintro e O ⟨J,rfl,k,y⟩;replace k:=q_ k;replace y:=q_ y)
  try go_ret
  rw[F.o];refine⟨J,rfl,a.o.trans k.o u_,?_⟩;have i:=y.o;rw[zdz]
  cases A:fldF (zc_ ds) [] fs with
  | nil=>rw[A] at i;exact i
  | cons x r=>rw[A] at i;exact i.less C
 | enum p ho hP hu=>
  rename_i l o lv u;obtain⟨G,H,rfl⟩:=zo_ ho
  obtain⟨d,rfl⟩:∃ d,u=.pointer d:=by
   have E:=hu;unfold UnkV at E;split at E
   ·exact⟨_,E⟩
   ·obtain⟨g',_,e,_⟩:=E;exact⟨_,e⟩
  have a:Fr w ((w.alloc (.cells #[.slice L ds.length M,rv] 85)).alloc (.cells #[.int .i64 (p:Int),.slice G l.length H,.pointer d] 216)) (λ _=>False):=((Fr.refl w _).alloc _).alloc _;have C:=a.size;have I:=q_ (zdi (p:=(p:Int)) (za_ ho a u_) hP (hu.fr a u_) (z.fr a id) j.1 j.2.1 j.2.2 (λ g hg=>a5_ (B g hg) C));replace a:=q_ a;have K:=x2_ 216 (by decide);have N:=zd2;clear D ho hP hu z j B
  go_in
  go_wp2_with (go_at_call 110;refine I.o.mono ?_;rintro e O ⟨J,rfl,k,y⟩;replace k:=q_ k;replace y:=q_ y)
  try go_ret
  rw[F.o];refine⟨J,rfl,a.o.trans k.o u_,?_⟩;have i:=y.o;rw[zdz]
  cases A:dupS [] l++unkF l o with
  | nil=>rw[A] at i;exact i
  | cons x r=>rw[A] at i;exact i.less C
 | bytes p n=>
  have K:=x2_ 233 (by decide);have N:=zgd 233 (by decide);clear D z j B
  go_in
  go_wp2_with fail
  try go_ret
  rw[F.o];exact⟨.nilIface,rfl,(Fr.refl w _).alloc _,rfl⟩
theorem DRow.pre (h:DRow w P s ds (.slice (some ⟨g,0,none⟩) m cap) xs)(B:q<=ds.length):DRow w P s (ds.take q) (.slice (some ⟨g,0,none⟩) q cap) (xs.take (q*3)):=by
 have a:(ds.take q).length=q:=by rw[List.length_take];omega
 refine⟨?_,λ g' e=>h.off g' e,λ i d e=>?_,by rw[a];have:=h.len;omega⟩
 ·rw[a];obtain⟨h1,v⟩:=h.row;refine⟨by rw[List.length_take,h1];omega,.inr ?_⟩
  rcases v with⟨e,_⟩|⟨g',A,u,e,j,k,r,n,y,z⟩
  ·cases e
  ·cases e;refine⟨g,cap,u,rfl,j,k,by omega,n,y,?_⟩;rw[<- z,List.take_take]
   congr 1
   omega
 ·have o:=(as_.1 e).1;rw[a] at o;rw[b2_,if_pos o] at e;obtain⟨c,j,k,r,n⟩:=h.V i d e;exact⟨c,by rw[b2_,if_pos (by omega)];exact j,by rw[b2_,if_pos (by omega)];exact k,by rw[b2_,if_pos (by omega)];exact r,n⟩
theorem zsd {env:Nat->Option PB}(h:ds[q]?=some d) (seen:List Nat):defF env seen (ds.drop q)=(if d.letter∈seen then [d.place] else [])++(zdz env d.body++defF env (seen++[d.letter]) (ds.drop (q+1))):=by
 have hl:=(as_.1 h).1;rw[a7_ hl,defF,(as_.1 h).2]
theorem zqh (h:ds[q]?=some d):(ds.take (q+1)).map PD.letter=(ds.take q).map PD.letter++[d.letter]:=by
 rw[bi_,h];simp
theorem zg9 :zc_ ds c=none↔c∉ds.map PD.letter:=by
 unfold zc_;rw[<- zfv 0 c ds];cases look 0 c ds<;>simp
theorem zfk (D:DRow w P s ds sv xs) (hT:TyV w P t rv) (hE:ErrV 1 w et ex) (e2:∀ d∈ds,plB d.body) (d9:fewB t) (b6:∀ g,P g->g<w.heap.size) :
 Calls prog 51 #[.agg #[sv,rv]] w (xb_ w (.iface et ex) (j3_ ds t)):=by
 refine hq_ λ e3 Q_=>?_;obtain⟨sa,B,rfl⟩:=zo_ D.row;obtain⟨L,rx,rfl⟩:=hT.iface;have e8:=D.len;obtain⟨w0,a5⟩:∃ W,W=w.alloc (.cells #[.slice sa ds.length B,.iface L rx] 85):=⟨_,rfl⟩
 have C:Fr w w0 (λ _=>False):=by rw[a5];exact(Fr.refl w _).alloc _
 have a6:Blk w0 w.heap.size [.slice sa ds.length B,.iface L rx] 85:=by rw[a5];exact Blk.new w #[.slice sa ds.length B,.iface L rx] 85
 have U:=q_ (D.fr C u_);have d8:=q_ (hT.fr C u_);have b5:=q_ (hE.fr C id);have d7:=q_ (λ g (hg:P g)=>a5_ (b6 g hg) C.size);have d6:H_ (∃ q:Nat,Value.int .i64 0=.int .i64 (q:Int)/\q<=ds.length/\ds.length+1-q<=ds.length+1/\Fr w0 w0 (λ _=>False)/\defF (zc_ ds) [] ds=defF (zc_ ds) ((ds.take q).map PD.letter) (ds.drop q)):=q_ ⟨0,rfl,ak_ _,by omega,Fr.refl _ _,rfl⟩;replace a6:=q_ a6;replace C:=q_ C;clear D hE hT b6
 go_in
 go_wp2_with fail
 rw[<- a5];clear a5
 go_loopg [3,10] (ds.length+1) (λ m u v W=>∃ q:Nat,v=.int .i64 (q:Int)/\q<=ds.length/\ds.length+1-q<=m/\Fr w0 W (λ _=>False)/\defF (zc_ ds) [] ds=defF (zc_ ds) ((ds.take q).map PD.letter) (ds.drop q))
 case atStart=>exact d6.o
 case round=>
  clear d6;obtain⟨q,rfl,hq,hm,z,he⟩:=hrel;have f1:=z.size;have J:=z.blk a6.o id;have e6:w.heap.size<wr.heap.size:=J.lt;have s0:=J.c0;have s1:=J.c1
  by_cases a9:q<ds.length
  ·have e1:(q:Int)<(ds.length:Int):=by omega
   have hd:ds[q]?=some ds[q]:=an_ a9;have b9:ds[q]∈ds:=a0_ a9;generalize ds[q]=d at hd b9;obtain⟨g,cap,e0⟩:=zh_ U.o.row (by omega);cases e0;have V:=U.o.fr z u_;obtain⟨T,x,c0,c1,c2,hb⟩:=V.cells hd
   have e9:q<=B:=by
    obtain⟨_,A⟩:=U.o.row
    rcases A with⟨e,_⟩|⟨g',e4,e5,e,k1,k2,k3,k4,k5,k6⟩
    ·cases e
    ·cases e;omega
   have f0:(q:Int)<=(B:Int):=by omega
   have a3:=e2 d b9;rw[zsd hd] at he;have a4:=zqh hd;obtain⟨l,b8⟩:∃ l,d.letter=l:=⟨_,rfl⟩;obtain⟨pl,d1⟩:∃ p,d.place=p:=⟨_,rfl⟩;obtain⟨b,b7⟩:∃ b,d.body=b:=⟨_,rfl⟩;rw[b8] at c1 he a4;rw[d1] at c0 he;rw[b7] at hb he a3;have E:=((Fr.refl wr (λ _=>False)).alloc (.cells #[.int .i64 (pl:Int),.int .u8 (l:Int),.iface T x] 132)).alloc (.cells #[.slice (some ⟨g,0,none⟩) q B,.nilIface] 85);have N:=(Blk.new wr #[.int .i64 (pl:Int),.int .u8 (l:Int),.iface T x] 132).alloc (.cells #[.slice (some ⟨g,0,none⟩) q B,.nilIface] 85);have O:=q_ (zap (rv:=.nilIface) l ((V.pre hq).fr E u_));have D1:=V.fr E u_;have B1:=hb.fr E u_;have E1:=(b5.o.fr z id).fr E id;have X:=E.blk J id;have a1:=q_ (z.trans E u_);replace D1:=q_ D1;replace B1:=q_ B1;replace E1:=q_ E1;replace X:=q_ X;replace N:=q_ N;replace a3:=q_ a3;clear E hb V b8 d1 b7 J
   by_cases a0:l∈(ds.take q).map PD.letter
   ·rw[if_pos a0] at he;have R:=q_ (show j3_ ds t=pl::(zdz (zc_ ds) b++defF (zc_ ds) ((ds.take q).map PD.letter++[l]) (ds.drop (q+1))++useF (zc_ ds) (zr_ t)) by unfold j3_;rw[he];rfl)
    obtain⟨Y,a7⟩:∃ Y,zc_ (ds.take q) l=some Y:=by
     cases h:zc_ (ds.take q) l with
     | none=>exact absurd a0 (zg9.1 h)
     | some Y=>exact⟨Y,rfl⟩
    replace a7:=q_ a7;clear he a4
    go_wp2_with (go_at_call 76;refine O.o.mono ?_;rintro e k ⟨M,rfl,i,j⟩;rw[a7.o] at j;obtain⟨bT,bx,rfl⟩:=j.iface;have n0:=(i.blk N.o id).c0;have I:=E1.o.fr i id;replace i:=q_ i;replace I:_=_:=I;clear j)
    refine zx_ 7 (λ W=>W.cell? ⟨wr.heap.size,0,none⟩=some (.int .i64 (pl:Int))/\W.cell? ⟨1,0,none⟩=some (.iface et ex)) (by kernel_rfl) ?_;refine ta_ 0 rfl (by kernel_rfl) (λ _ _ _ h=>h) (by rintro W ⟨h1,A⟩;go_simp<;>rfl) ?_;refine ta_ 1 rfl (by kernel_rfl) (λ _ _ _ h=>h) (by rintro W ⟨h1,A⟩;go_simp<;>rfl) ?_;refine ta_ 3 rfl (by kernel_rfl) (λ _ _ _ h=>h) (by rintro W ⟨h1,A⟩;go_simp<;>rfl) ?_;refine ze_ 2 rfl (by kernel_rfl) (λ _=>⟨n0,I⟩) (λ K n=>?_);go_simp;refine(vf_ (pl:Int) _).mono ?_;rintro e w' ⟨rfl,rfl⟩;refine n _ _ ?_;clear n K;refine ta_ 4 rfl (by kernel_rfl) (λ _ _ _ h=>h) (by rintro W ⟨h1,A⟩;go_simp<;>rfl) ?_;refine ze_ 5 rfl (by kernel_rfl) (λ _=>⟨n0,I⟩) (λ K n=>?_);go_simp;refine n _ _ ?_;clear n K;have Z:∀ {a:Addr} {x:Value},k.cell? a=some x->(k.drew.alloc (.cells #[.int .i64 (pl:Int),.iface et ex] 141)).cell? a=some x:=@λ a x h=>(World.cell?_alloc_lt (k.drew) _ a (by exact World.block_lt_of_cell? k a h)).trans h;refine ze_ 6 rfl (by kernel_rfl) (λ _=>⟨Z n0,Z I⟩) (λ K n=>?_);go_simp;refine n _ _ ?_;clear n K;refine ze_ 7 rfl (by kernel_rfl) (λ _=>⟨Z n0,Z I⟩) (λ K n=>?_);go_simp;refine n _ _ ?_;clear n K;refine zq_ (by kernel_rfl) (λ hm=>absurd hm (by decide)) ?_ _
    go_wp2_with fail
    try go_ret
    rw[Q_.o];have Q:=(C.o.trans a1.o u_).trans i.o u_;have d2:=Q.size;refine⟨_,rfl,(Q.alloc _).drew,?_⟩;rw[R.o];exact⟨k.heap.size,d2,rfl,(Blk.new k _ _).drew⟩
   ·rw[if_neg a0,ba_] at he;have d0:=q_ (zg9.2 a0);have b4:H_ (∀ k,Fr ((wr.alloc (.cells #[.int .i64 (pl:Int),.int .u8 (l:Int),.iface T x] 132)).alloc (.cells #[.slice (some ⟨g,0,none⟩) q B,.nilIface] 85)) k (λ _=>False)->Calls prog 78 #[.agg #[.slice (some ⟨g,0,none⟩) ds.length B,.iface L rx],.iface T x] k (xb_ k (.iface et ex) (zdz (zc_ ds) b))):=q_ (λ k A=>zgq (D1.o.fr A u_) (B1.o.fr A u_) (E1.o.fr A id) a3.o (λ g hg=>a5_ (d7.o g hg) (ai_ a1.o.size A.size)))
    cases hu:zdz (zc_ ds) b with
    | nil=>
     rw[hu,ba_] at he;replace he:=q_ he;replace hu:=q_ hu
     go_wp2_with (first
      |(go_at_call 76;refine O.o.mono ?_;rintro e k ⟨M,rfl,i,j⟩;rw[d0.o] at j;replace j:M=.nilIface:=j;subst j;have n2:=(i.blk N.o id).c2;have F:=i.blk X.o id;have z0:=F.c0;have z1:=F.c1;replace i:=q_ i;clear F)
      |(go_at_call 78;refine(b4.o k i.o).mono ?_;rintro e w3 ⟨v3,rfl,G,H⟩;rw[hu.o] at H;replace H:v3=.nilIface:=H;subst H;replace G:=q_ G))
     go_roundg (ds.length+1-(q+1))
     case measure=>omega
     case rel=>exact⟨q+1,rfl,a9,l_,(a1.o.trans i.o u_).trans G.o u_,by rw[a4];exact he.o⟩
    | cons y r=>
     rw[hu,a4_] at he;have R:=q_ (show j3_ ds t=y::(r++defF (zc_ ds) ((ds.take q).map PD.letter++[l]) (ds.drop (q+1))++useF (zc_ ds) (zr_ t)) by unfold j3_;rw[he];rfl);clear he a4;replace hu:=q_ hu
     go_wp2_with (first
      |(go_at_call 76;refine O.o.mono ?_;rintro e k ⟨M,rfl,i,j⟩;rw[d0.o] at j;replace j:M=.nilIface:=j;subst j;have n2:=(i.blk N.o id).c2;have F:=i.blk X.o id;have z0:=F.c0;have z1:=F.c1;replace i:=q_ i;clear F)
      |(go_at_call 78;refine(b4.o k i.o).mono ?_;rintro e w3 ⟨v3,rfl,G,H⟩;rw[hu.o] at H;obtain⟨g3,e7,rfl,a8⟩:=H;replace G:=q_ G;replace a8:=q_ a8))
     try go_ret
     rw[Q_.o];have Q:=(C.o.trans a1.o u_).trans i.o u_;have d2:=Q.size;refine⟨_,rfl,Q.trans G.o u_,?_⟩;rw[R.o];exact⟨g3,by omega,rfl,a8.o⟩
  ·have e1:¬ ((q:Int)<(ds.length:Int)):=by omega
   rw[bq_ (by omega),defF] at he;have R:=q_ (show j3_ ds t=useF (zc_ ds) (zr_ t) by unfold j3_;rw[he];rfl);have O:=q_ (zp8 _ t l_ d9 wr P s ds (.slice sa ds.length B) (.iface L rx) (.iface L rx) xs et ex (U.o.fr z u_) (d8.o.fr z u_) (b5.o.fr z id));replace z:=q_ z;clear he J
   go_wp2_with (go_at_call 79;refine O.o.mono ?_;rintro e k ⟨M,rfl,i,j⟩;replace i:=q_ i;replace j:=q_ j)
   try go_ret
   rw[Q_.o];have hF:=C.o.trans z.o u_;have hs:=hF.size;refine⟨M,rfl,hF.trans i.o u_,?_⟩;rw[R.o];have a2:=j.o
   cases hu:useF (zc_ ds) (zr_ t) with
   | nil=>rw[hu] at a2;exact a2
   | cons y r=>rw[hu] at a2;exact a2.less hs
end Go.Proofs.YtiifagiebikmdaaGreatDoor
