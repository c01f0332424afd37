import Derived.Test.YthmjjpkjgjklmaaGreatDoorW26
import Derived.Test.YthmjjpkjgjklmaaGreatDoorW19
import Derived.Test.YthmjjpkjgjklmaaGreatDoorW17
import Derived.Test.YthmjjpkjgjklmaaGreatDoorA00
set_option maxHeartbeats 16000000
set_option maxRecDepth 100000
set_option linter.unusedSimpArgs false
open Go.Proofs.Tryz
namespace Go.Proofs.YthmjjpkjgjklmaaGreatDoor
open Go.RowKit
variable {k lo a e q:Nat}{v:Value}{f:PF}{t:PT}{fs:List PF}{blk:Nat->Nat}{d:PD}
section
variable {w:World} {P:Nat->Prop} {s:BA} {g:Nat} {cs:List Value} (hb:Blk w g cs 224) (x:Value)
theorem zdq (hb:Blk w g cs 224) (x:Value){b n:Nat}{xs:List Value}(ho:w.ownsRow b e k v n xs) (hne:e≠224):(w.setCell ⟨g,2,none⟩ x).ownsRow b e k v n xs:=by
 refine zb_ ho (Fr.one w ⟨g,2,none⟩ x) (λ g' hg' e'=>?_);have e'':g'=g:=e';subst e''
 rcases ho.2 with⟨e0,_⟩|⟨g2,cap,cur,rfl,_,h2,_⟩
 ·rw[e0] at hg';simp[Value.ownBlock] at hg'
 ·simp only[Value.ownBlock,ad_] at hg';subst hg';unfold Blk at hb;rw[hb] at h2;simp only[ad_,Obj.cells.injEq] at h2;exact hne h2.2.1.symm
theorem TyV.put (hb:Blk w g cs 224) (x:Value)(h:TyV w P t v):TyV (w.setCell ⟨g,2,none⟩ x) P t v:=by
 induction h with
 | base c p h=>exact .base c p h
 | name c p h=>exact .name c p h
 | wrap c p h ih=>exact .wrap c p ih
 | alts p X ho hP h ih=>exact .alts p X (zdq hb x ho (by decide)) hP ih
theorem DfV.put (hb:Blk w g cs 224) (x:Value) (hx:IfV x){o:Option (Nat×Nat)}{d:Value}(h:DfV w P s o d):DfV (w.setCell ⟨g,2,none⟩ x) P s o d:=by
 match o with
 | none=>exact h
 | some (a,e)=>
  obtain⟨g',x',h1,h2,h3,h4⟩:=h
  by_cases hg:g'=g
  ·subst hg;exact⟨g',x,h1,h2,hx,h4.set 2 x⟩
  ·exact⟨g',x',h1,h2,h3,h4.other (a:=⟨g,2,none⟩) x hg⟩
theorem vi_.put (hb:Blk w g cs 224) (x:Value) (hx:IfV x){ys:List Value}(h:vi_ w P s fs ys):vi_ (w.setCell ⟨g,2,none⟩ x) P s fs ys:=λ i f e=>by
 obtain⟨a,b,c,d,h1,h2,h3,h4,h5⟩:=h i f e;exact⟨a,b,c,d,h1,h2,h3,h4,h5.1,h5.2.1,h5.2.2.1.put hb x,h5.2.2.2.put hb x hx⟩
theorem vj_.put (hb:Blk w g cs 224) (x:Value) (hx:IfV x){fv:Value}{ys:List Value}(h:vj_ w P s fs fv ys):vj_ (w.setCell ⟨g,2,none⟩ x) P s fs fv ys:=
 ⟨zdq hb x h.row (by decide),h.off,h.V.put hb x hx⟩
theorem UnkV.put (hb:Blk w g cs 224) (x:Value){o:Option (Nat×Nat)}{d:Value}(h:UnkV w P o d):UnkV (w.setCell ⟨g,2,none⟩ x) P o d:=by
 match o with
 | none=>exact h
 | some (a,e)=>
  obtain⟨g',h1,h2,h4⟩:=h;refine⟨g',h1,h2,h4.other (a:=⟨g,2,none⟩) x (λ e'=>?_)⟩;have e'':g'=g:=e';subst e'';unfold Blk at hb h4;rw[hb] at h4;simp only[ad_,Obj.cells.injEq] at h4;exact absurd h4.2.1 (by decide)
theorem xo_.put (hb:Blk w g cs 224) (x:Value) (hx:IfV x){b:PB}(h:xo_ w P s b v):xo_ (w.setCell ⟨g,2,none⟩ x) P s b v:=by
 cases h with
 | recd p ho hP h=>exact .recd p (zdq hb x ho (by decide)) hP (h.put hb x hx)
 | enum p ho hP h=>exact .enum p (zdq hb x ho (by decide)) hP (h.put hb x)
 | bytes p n=>exact .bytes p n
theorem DRow.put (hb:Blk w g cs 224) (x:Value) (hx:IfV x){ds:List PD}{sv:Value}{xs:List Value}(h:DRow w P s ds sv xs):DRow (w.setCell ⟨g,2,none⟩ x) P s ds sv xs:=
 ⟨zdq hb x h.row (by decide),h.off,λ i d e=>by
  obtain⟨c,h1,h2,h3,h4⟩:=h.V i d e
  exact⟨c,h1,h2,h3,h4.put hb x hx⟩,h.len⟩
end
theorem DRow.mono {w:World}{P Q:Nat->Prop}{s:BA}{ds:List PD}{sv:Value}{xs:List Value}(h:DRow w P s ds sv xs) (hQ:∀ g,g<w.heap.size->P g->Q g):DRow w Q s ds sv xs:=
 ⟨h.row,λ g e=>hQ g (h.row.lt g e).2 (h.off g e),h.V.mono hQ,h.len⟩
theorem zwo {s:BA}{env:Nat->Option PB}(h:fs[q]?=some f):(fs.drop q).flatMap (dfB s env)=dfB s env f++(fs.drop (q+1)).flatMap (dfB s env):=by
 have hl:=(ao_.1 h).1;rw[bh_ hl,be_,(ao_.1 h).2]
structure RDM (w0 w:World) (P:Nat->Prop) (s:BA) (ds:List PD) (sv rv:Value) (xs:List Value) (fv:Value) (ys:List Value) (W:World):Prop where
 fr:Fr w W P
 D:DRow W P s ds sv xs
 F:vj_ W (λ g=>P g\/w.heap.size+1<=g) s (zd_ ds) fv ys
 B:Blk W w.heap.size [sv,rv] 90
 G:y1_ w0 W
 T:∀ t x,TyV w P t x->TyV W P t x
section
variable {w0 w W W':World} {P:Nat->Prop} {s:BA} {ds:List PD} {sv rv:Value} {xs:List Value} {fv:Value} {ys:List Value}
theorem RDM.new (M:RDM w0 w P s ds sv rv xs fv ys W) (hk:w0.heap.size<=w.heap.size) (hf:Fr W W' (λ _=>False)):RDM w0 w P s ds sv rv xs fv ys W':=
 ⟨M.fr.trans hf v_,M.D.fr hf u_,M.F.fr hf u_,hf.blk M.B id,M.G.fr hf (ah_ hk M.fr.size) (λ _ f=>f.elim),λ t x h=>(M.T t x h).fr hf u_⟩
theorem RDM.put (M:RDM w0 w P s ds sv rv xs fv ys W) (hk:w0.heap.size<=w.heap.size) (hPK:∀ g,P g->w0.heap.size<=g){g:Nat}{cs:List Value}(hb:Blk W g cs 224) (hg:P g\/w.heap.size+1<=g) (x:Value) (hx:IfV x):RDM w0 w P s ds sv rv xs fv ys (W.setCell ⟨g,2,none⟩ x):=by
 have hgk:w0.heap.size<=g:=by
  rcases hg with h|h
  ·exact hPK g h
  ·omega
 refine⟨M.fr.setCell ⟨g,2,none⟩ x (λ h=>?_),M.D.put hb x hx,M.F.put hb x hx,M.B.other (a:=⟨g,2,none⟩) x (λ e=>?_),M.G.fr (Fr.one W ⟨g,2,none⟩ x) (ah_ hk M.fr.size) (λ g' e=>?_),λ t y h=>(M.T t y h).put hb x⟩
 ·rcases hg with h'|h'
  ·exact h'
  ·have:g<w.heap.size:=h;omega
 ·have e':w.heap.size=g:=e;have hB:=M.B;rw[e'] at hB;unfold Blk at hb hB;rw[hb] at hB;simp only[ad_,Obj.cells.injEq] at hB;exact absurd hB.2.1 (by decide)
 ·have e':g'=g:=e;omega
end
open Go.RowKit
def zrb (blk:Nat->Nat) (f:PF) (d:Value):Prop:=∀ a e,f.dflt=some (a,e)->d=.pointer (some ⟨blk a,0,none⟩)
structure zu0 (P:Nat->Prop) (ds:List PD) (blk:Nat->Nat):Prop where
 off:∀ f∈zd_ ds,∀ a e,f.dflt=some (a,e)->P (blk a)
 ne:∀ (i j:Nat) (f g:PF) (a e a' e':Nat),(zd_ ds)[i]?=some f->(zd_ ds)[j]?=some g->f.dflt=some (a,e)->g.dflt=some (a',e')->i≠j->blk a≠blk a'
def zh3 (lo:Nat) (s:BA) (ds:List PD) (blk:Nat->Nat) (W:World) (f:PF):Prop:=
 ∀ a e,f.dflt=some (a,e)->∃ x d,xn_ (za_ ds) true f.ty (s.extract a e)=some d/\Blk W (blk a) [.int .i64 (a:Int),.string (s.extract a e),x] 224/\DaV (za_ ds) W (λ g=>lo<=g) d f.ty x
theorem zh3.fr {s:BA}{ds:List PD}{W W':World}{S:Nat->Prop}(h:zh3 lo s ds blk W f) (hf:Fr W W' S) (hS:∀ g,lo<=g->¬ S g) (hb:∀ a e,f.dflt=some (a,e)->¬ S (blk a)):zh3 lo s ds blk W' f:=λ a e he=>by
 obtain⟨x,d,h1,h2,h3⟩:=h a e he;exact⟨x,d,h1,hf.blk h2 (hb a e he),h3.fr hf hS⟩
def zgy (w W:World):Prop:=∀ (b:Nat) (e:TypeId) (k:Nat) (v:Value) (n:Nat) (ys:List Value),e≠224->w.ownsRow b e k v n ys->W.ownsRow b e k v n ys
theorem zgy.new {w W W':World}(h:zgy w W) (hf:Fr W W' (λ _=>False)):zgy w W':=λ b e k v n ys he ho=>zb_ (h b e k v n ys he ho) hf u_
theorem zgy.put {w W:World}{g:Nat}{cs:List Value}{x:Value}(h:zgy w W) (hb:Blk W g cs 224):zgy w (W.setCell ⟨g,2,none⟩ x):=λ b e k v n ys he ho=>zdq hb x (h b e k v n ys he ho) he
def zuu (w:World) (P:Nat->Prop) (s:BA) (ds:List PD) (sv:Value) (xs:List Value) (nt:TypeId) (nx:Value) (blk:Nat->Nat) (L:List Nat) (e:Ending) (w':World):Prop:=
 ∃ v,e=.returned v/\Fr w w' P/\match L with | []=>v=.nilIface/\DRow w' P s ds sv xs/\(∀ t x,TyV w P t x->TyV w' P t x)/\(∀ f∈zd_ ds,zh3 w.heap.size s ds blk w' f)/\zgy w w'|y::_=>∃ ev,z9_ w' w.heap.size v (y:Int) ev/\ErrD w' w.heap.size nt nx ev
def zel (lo:Nat) (s:BA) (ds:List PD) (blk:Nat->Nat) (q:Nat) (W:World):Prop:=∀ i f,i<q->(zd_ ds)[i]?=some f->zh3 lo s ds blk W f
theorem zel.new {s:BA}{ds:List PD}{W W':World}(h:zel lo s ds blk q W) (hf:Fr W W' (λ _=>False)):zel lo s ds blk q W':=λ i f hi hd=>(h i f hi hd).fr hf u_ (λ _ _ _ f=>f)
theorem zel.put {P:Nat->Prop}{s:BA}{ds:List PD}{W:World}{x:Value}{d:DT}(h:zel lo s ds blk q W) (K:zu0 P ds blk) (hP:∀ g,P g->g<lo) (hd:(zd_ ds)[q]?=some f) (he:f.dflt=some (a,e)) (hr:xn_ (za_ ds) true f.ty (s.extract a e)=some d) (hb:Blk W (blk a) [.int .i64 (a:Int),.string (s.extract a e),x] 224) (hv:DaV (za_ ds) W (λ g=>lo<=g) d f.ty v):zel lo s ds blk (q+1) (W.setCell ⟨blk a,2,none⟩ v):=by
 have hmem:=ak_ hd;have hlo:=hP _ (K.off f hmem a e he);have hf:Fr W (W.setCell ⟨blk a,2,none⟩ v) (λ g=>g=blk a):=Fr.one W ⟨blk a,2,none⟩ v;intro i g hi hg
 by_cases hq:i=q
 ·subst hq;rw[hd] at hg;cases hg;intro a' e' he';rw[he] at he';cases he';exact⟨v,d,hr,hb.set 2 v,hv.fr hf (λ g h1 h2=>by omega)⟩
 ·exact(h i g (by omega) hg).fr hf (λ g h1 h2=>by omega) (λ a' e' he' h2=>K.ne i q g f a' e' a e hg hd he' he hq h2)
theorem zfu {w0 w:World}{P:Nat->Prop}{s:BA}{ds:List PD}{sv:Value}{rT:TypeId}{rx:Value}{xs:List Value}{nt:TypeId}{nx:Value}(D:DRow w P s ds sv xs) (hG:y1_ w0 w) (hk:w0.heap.size<=w.heap.size) (hPK:∀ g,P g->w0.heap.size<=g) (hPw:∀ g,P g->g<w.heap.size) (hE:ErrV 3 w0 nt nx) (hs:s.size<=300) (hlf:(zd_ ds).length<=300) (hok:∀ f∈zd_ ds,okT (za_ ds) f.ty) (hen:v0_ ds) (hI:yi_ w0) (hQ:yd_ w0) (hN:zh2 w0) (hXr:zus (zrb blk) w ds sv) (KB:zu0 P ds blk) :
 Calls prog 79 #[.agg #[sv,.iface rT rx]] w (zuu w P s ds sv xs nt nx blk (zda s ds)):=by
 refine hq_ λ POST Q_=>?_;obtain⟨sa,sc,rfl⟩:=zf_ D.row;have hf0:Fr w (w.alloc (.cells #[.slice sa ds.length sc,.iface rT rx] 90)) (λ _=>False):=(Fr.refl w _).alloc _
 have hz0:(w.alloc (.cells #[.slice sa ds.length sc,.iface rT rx] 90)).heap.size=w.heap.size+1:=by simp
 have hC0:=zsd (rv:=.iface rT rx) (D.fr hf0 u_) hlf (λ g hg=>bl_ (hPw g hg) hf0.size) (λ W g q cap m d p fs fv zs hW=>hXr W g q cap m d p fs fv zs (hf0.trans hW u_));replace KB:=q_ KB;rw[hz0] at hC0;have hM0:H_ (∀ w1 fv ys,Fr (w.alloc (.cells #[.slice sa ds.length sc,.iface rT rx] 90)) w1 (λ _=>False)->vj_ w1 (λ g=>P g\/w.heap.size+1<=g) s (zd_ ds) fv ys->RDM w0 w P s ds (.slice sa ds.length sc) (.iface rT rx) xs fv ys w1):=q_ (λ w1 fv ys hf hF=>⟨(hf0.mono v_).trans hf v_,(D.fr hf0 u_).fr hf u_,hF,hf.blk (Blk.new w #[.slice sa ds.length sc,.iface rT rx] 90) id,(hG.fr hf0 hk (λ _ f=>f.elim)).fr hf (by omega) (λ _ f=>f.elim),λ t x h=>(h.fr hf0 u_).fr hf u_⟩);have hK0:=q_ (λ (w1:World) (hf1:Fr (w.alloc (.cells #[.slice sa ds.length sc,.iface rT rx] 90)) w1 (λ _=>False))=>(show zgy w w1 from λ b e k v n ys _ ho=>zb_ (zb_ ho hf0 u_) hf1 u_));replace hC0:=q_ hC0;clear D hf0 hz0 hG
 go_in
 go_wp2_with (go_at_call 107;refine hC0.o.mono ?_;rintro e w1 ⟨fv,ys,rfl,hf1,hF,hLx⟩;replace hLx:=q_ hLx;have M1:=hM0.o w1 fv ys hf1 hF;obtain⟨fa,fc,rfl⟩:=zf_ hF.row;replace M1:=q_ M1;replace hf1:=q_ hf1;clear hF)
 have start:H_ (∃ q:Nat,Value.int .i64 0=.int .i64 (q:Int)/\q<=(zd_ ds).length/\(zd_ ds).length+1-q<=(zd_ ds).length+1/\RDM w0 w P s ds (.slice sa ds.length sc) (.iface rT rx) xs (.slice fa (zd_ ds).length fc) ys w1/\zda s ds=((zd_ ds).drop q).flatMap (dfB s (za_ ds))/\zel w.heap.size s ds blk q w1/\zgy w w1):=q_ ⟨0,rfl,aj_ _,by omega,M1.o,rfl,(λ i f h=>absurd h (Nat.not_lt_zero _)),hK0.o w1 hf1.o⟩;clear M1 hC0 hM0 hK0 hf1
 go_loopg [10] ((zd_ ds).length+1) (λ m v W=>∃ q:Nat,v=.int .i64 (q:Int)/\q<=(zd_ ds).length/\(zd_ ds).length+1-q<=m/\RDM w0 w P s ds (.slice sa ds.length sc) (.iface rT rx) xs (.slice fa (zd_ ds).length fc) ys W/\zda s ds=((zd_ ds).drop q).flatMap (dfB s (za_ ds))/\zel w.heap.size s ds blk q W/\zgy w W)
 case atStart=>exact start.o
 case round=>
  clear start;obtain⟨q,rfl,hq,hm,M,he,hFl,hKr⟩:=hrel
  by_cases hlt:q<(zd_ ds).length
  ·have hlt':(q:Int)<((zd_ ds).length:Int):=by omega
   have hd:(zd_ ds)[q]?=some (zd_ ds)[q]:=am_ hlt;have hmem:(zd_ ds)[q]∈zd_ ds:=bd_ hlt;generalize (zd_ ds)[q]=f at hd hmem;obtain⟨g,cap,hgc⟩:=zk_ M.F.row (by omega);cases hgc;obtain⟨T,x,d,c0,c1,c2,c3,hT,hDf⟩:=M.F.cells hd
   have hAt:zrb blk f (.pointer d):=by
    have hlen:ys.length=(zd_ ds).length*4:=M.F.row.1;obtain⟨u,hu⟩:∃ u,ys[4*q+3]?=some u:=⟨_,am_ (by omega)⟩;have hc:=zs_ M.F.row rfl hu;rw[bo_] at hc;rw[hc] at c3;cases c3;exact hLx.o q f _ hd hu
   rw[zwo hd] at he;obtain⟨l,hl0⟩:∃ l,f.letter=l:=⟨_,rfl⟩;obtain⟨pl,hpl⟩:∃ p,f.place=p:=⟨_,rfl⟩;rw[hl0] at c1;rw[hpl] at c0;have hoky:=hok f hmem;have A1:=(Fr.refl wr (λ _=>False)).alloc (.cells #[.int .i64 (pl:Int),.int .u8 (l:Int),.iface T x,.pointer d] 220);have N1:=Blk.new wr #[.int .i64 (pl:Int),.int .u8 (l:Int),.iface T x,.pointer d] 220;have M1:=M.new hk A1;have hFl1:=q_ (hFl.new A1);have hKr1:=q_ (hKr.new A1);clear hl0 hpl hFl hKr
   cases hdf:f.dflt with
   | none=>
    rw[hdf] at hDf
    have hdn:d=none:=by
     have:Value.pointer d=.pointer none:=hDf;cases this;rfl
    subst hdn;have he':=q_ (show zda s ds=((zd_ ds).drop (q+1)).flatMap (dfB s (za_ ds)) by rw[he];unfold dfB;rw[hdf];rfl);replace M1:=q_ M1;clear hDf hT A1 N1 he M
    go_wp2_with fail
    go_roundg ((zd_ ds).length+1-(q+1))
    case measure=>omega
    case rel=>exact⟨q+1,rfl,hlt,l_,M1.o,he'.o,(λ i g hi hg=>by
     by_cases hiq:i=q
     ·subst hiq;rw[hd] at hg;cases hg;intro a e h;rw[hdf] at h;cases h
     ·exact hFl1.o i g (by omega) hg),hKr1.o⟩
   | some ae=>
    obtain⟨a,en⟩:=ae;rw[hdf] at hDf;obtain⟨gd,xd,hgP,hdg,hIf,hBd⟩:=hDf;cases hdg
    obtain rfl:gd=blk a:=by have:=hAt a en hdf;cases this;rfl
    replace hdf:=q_ hdf;replace hd:=q_ hd;clear hAt
    have hdfb:dfB s (za_ ds) f=if (xn_ (za_ ds) true f.ty (s.extract a en)).isSome=true then [] else [a]:=by unfold dfB;rw[hdf.o]
    rw[hdfb] at he;have hBd1:=A1.blk hBd id;have hsw:=A1.size;have A1d:=A1.drew;have M1d:=M.new hk A1d;have hC:=zm5 (s:=s.extract a en) (P:=λ g=>(P g\/w.heap.size+1<=g)/\g<wr.heap.size) (rT:=rT) (rx:=rx) (M1d.D.mono (λ g _ h=>⟨.inl h,by have:=hPw g h;have:=M.fr.size;omega⟩)) ((hT.mono (Q:=λ g=>(P g\/w.heap.size+1<=g)/\g<wr.heap.size) (λ g h1 h2=>⟨h2,h1⟩)).fr A1d u_) M1d.G (ah_ hk M1d.fr.size) (λ g hg=>by have:=A1d.size;omega) hE (by rw[as_];omega) hoky hen hI hQ hN;have s0:=M1.B.c0;have s1:=M1.B.c1;have n2:=N1.c2;have n3:=N1.c3;have d1:=hBd1.c1;have hsz1:=q_ (M1d.fr.size:w.heap.size<=(wr.alloc (.cells #[.int .i64 (pl:Int),.int .u8 (l:Int),.iface T x,.pointer (some ⟨blk a,0,none⟩)] 220)).drew.heap.size);have hcalls:=q_ (And.intro M1d (And.intro (A1d.blk hBd id) (And.intro N1.drew hC)));clear M1 hBd1 N1 hC hT A1 hdfb hBd M M1d A1d
    go_wp2_with fail
    obtain⟨M1,hBd1,N1,hC⟩:=hcalls.o;have hfr:=q_ (show w.heap.size<=(wr.alloc (.cells #[.int .i64 (pl:Int),.int .u8 (l:Int),.iface T x,.pointer (some ⟨blk a,0,none⟩)] 220)).drew.heap.size from M1.fr.size);refine z8_ (λ W=>W.cell? ⟨w.heap.size,0,none⟩=some (.slice sa ds.length sc)/\W.cell? ⟨w.heap.size,1,none⟩=some (.iface rT rx)/\W.cell? ⟨wr.heap.size,2,none⟩=some (.iface T x)/\W.cell? ⟨wr.heap.size,3,none⟩=some (.pointer (some ⟨blk a,0,none⟩))/\W.cell? ⟨blk a,1,none⟩=some (.string (s.extract a en))) (by kernel_rfl) ?_;refine tA_ 0 rfl (by kernel_rfl) (λ _ _ _ h=>h) (by rintro W ⟨h1,h2,h3,h4,h5⟩;go_simp<;>rfl) ?_;refine tA_ 1 rfl (by kernel_rfl) (λ _ _ _ h=>h) (by rintro W ⟨h1,h2,h3,h4,h5⟩;go_simp<;>rfl) ?_;refine tA_ 2 rfl (by kernel_rfl) (λ _ _ _ h=>h) (by rintro W ⟨h1,h2,h3,h4,h5⟩;go_simp<;>rfl) ?_;refine tA_ 3 rfl (by kernel_rfl) (λ _ _ _ h=>h) (by rintro W ⟨h1,h2,h3,h4,h5⟩;go_simp<;>rfl) ?_;refine tA_ 4 rfl (by kernel_rfl) (λ _ _ _ h=>h) (by rintro W ⟨h1,h2,h3,h4,h5⟩;go_simp<;>rfl) ?_;refine tA_ 5 rfl (by kernel_rfl) (λ _ _ _ h=>h) (by rintro W ⟨h1,h2,h3,h4,h5⟩;go_simp<;>rfl) ?_;refine tA_ 6 rfl (by kernel_rfl) (λ _ _ _ h=>h) (by rintro W ⟨h1,h2,h3,h4,h5⟩;go_simp<;>rfl) ?_;refine tA_ 7 rfl (by kernel_rfl) (λ _ _ _ h=>h) (by rintro W ⟨h1,h2,h3,h4,h5⟩;go_simp<;>rfl) ?_;refine zr_ 8 rfl (by kernel_rfl) ⟨s0,s1,n2,n3,d1⟩ (λ K hK=>?_);go_simp;refine hC.mono ?_;rintro e w2 ⟨v2,ev2,rfl,hf2,hm2⟩;refine hK _ _ ?_;clear hK K;have M2:=M1.new hk hf2;have hFl2:=q_ ((hFl1.o.new ((Fr.refl _ _).drew)).new hf2);have hKr2:=q_ ((hKr1.o.new ((Fr.refl _ _).drew)).new hf2);have N2:=hf2.blk N1 id;have B2:=hf2.blk hBd1 id;have x0:=M2.B.c0;have x1:=M2.B.c1;have m2:=N2.c2;have m3:=N2.c3;obtain⟨b0,b1,b2⟩:=B2.d3;have bg:=B2.thaw 2;clear hC M1 hBd1 N1 hcalls s0 s1 n2 n3 d1 c0 c1 c2 c3;refine tA_ 9 rfl (by kernel_rfl) (λ _ _ _ h=>h) (by rintro W ⟨h1,h2,h3,h4,h5⟩;go_simp<;>rfl) ?_;refine tA_ 10 rfl (by kernel_rfl) (λ _ _ _ h=>h) (by rintro W ⟨h1,h2,h3,h4,h5⟩;go_simp<;>rfl) ?_;refine tA_ 11 rfl (by kernel_rfl) (λ _ _ _ h=>h) (by rintro W ⟨h1,h2,h3,h4,h5⟩;go_simp<;>rfl) ?_;refine tA_ 12 rfl (by kernel_rfl) (λ _ _ _ h=>h) (by rintro W ⟨h1,h2,h3,h4,h5⟩;go_simp<;>rfl) ?_;refine tA_ 13 rfl (by kernel_rfl) (λ _ _ _ h=>h) (by rintro W ⟨h1,h2,h3,h4,h5⟩;go_simp<;>rfl) ?_;refine z5_ (by kernel_rfl) ⟨x0,x1,m2,m3,b1⟩ ?_ _;replace M2:=q_ M2;replace B2:=q_ B2;replace hf2:=q_ hf2;clear x0 x1 m2 b1 N2
    cases hrd:xn_ (za_ ds) true f.ty (s.extract a en) with
    | some dd=>
     rw[hrd] at hm2 he;simp only[Option.isSome_some,if_true] at he;rw[bp_] at he;obtain⟨rfl,hDa⟩:=hm2;obtain⟨dT,dx,rfl⟩:=hDa.iface;have hKr3:=q_ (hKr2.o.put (x:=.iface dT dx) B2.o);have hFl3:=q_ (hFl2.o.put KB.o hPw hd.o hdf.o hrd B2.o (hDa.mono (λ g _ hg=>ah_ hsz1.o hg)));replace he:=q_ he;clear b0 hrd hDa
     go_wp2_with fail
     go_roundg ((zd_ ds).length+1-(q+1))
     case measure=>omega
     case rel=>exact⟨q+1,rfl,hlt,l_,M2.o.put hk hPK B2.o hgP (.iface dT dx) (.inr ⟨_,_,rfl⟩),he.o,hFl3.o,hKr3.o⟩
    | none=>
     rw[hrd] at hm2 he;simp only[cb_,az_,if_false] at he;obtain⟨rfl,hErr⟩:=hm2;obtain⟨eT,ex,rfl⟩:=hErr.iface;replace he:=q_ he;replace hErr:=q_ hErr;clear b2 bg hrd
     go_wp2_with (go_at_call 104;refine(vg_ (a:Int) _).mono ?_;rintro e w3 ⟨rfl,hw3⟩;rw[hw3];clear hw3)
     try go_ret
     rw[Q_.o];have hs2:=M2.o.fr.size;have A3:Fr w2 (w2.alloc (.cells #[.int .i64 (a:Int),.iface eT ex] 212)) (λ _=>False):=(Fr.refl w2 _).alloc _;refine⟨_,rfl,M2.o.fr.trans A3 v_,?_⟩;rw[he.o];exact⟨.iface eT ex,⟨w2.heap.size,hs2,rfl,Blk.new w2 _ _⟩,(hErr.o.fr A3 u_).less (by have:=hfr.o;omega)⟩
  ·have hlt':¬ ((q:Int)<((zd_ ds).length:Int)):=by omega
   rw[bu_ (by omega),bx_] at he;replace he:=q_ he;replace M:=q_ M
   go_wp2_with fail
   try go_ret
   rw[Q_.o];refine⟨.nilIface,rfl,M.o.fr,?_⟩;rw[he.o]
   exact⟨rfl,M.o.D,M.o.T,(λ f hf=>by
    obtain⟨i,hi⟩:=List.getElem?_of_mem hf
    exact hFl i f (by have:=(ao_.1 hi).1;omega) hi),hKr⟩
open Go.RowKit
theorem zdp {w:World}{b b':Nat}{e:TypeId}{n:Nat}{xs xs':List Value}(h:w.ownsRow b e k v n xs) (h':w.ownsRow b' e k v n xs'):xs=xs':=by
 have h1:xs.length=n*k:=h.1;have h2:xs'.length=n*k:=h'.1
 rcases bw_ n with h0|h0
 ·subst h0;rw[Nat.zero_mul] at h1 h2;rw[ca_ h1,ca_ h2]
 ·obtain⟨g,cap,rfl⟩:=zk_ h h0
  apply List.ext_getElem?
  intro j
  by_cases hj:j<n*k
  ·obtain⟨x,hx⟩:∃ x,xs[j]?=some x:=⟨_,am_ (by omega)⟩;obtain⟨y,hy⟩:∃ y,xs'[j]?=some y:=⟨_,am_ (by omega)⟩;have a:=zs_ h rfl hx;have c:=zs_ h' rfl hy;rw[a] at c;cases c;rw[hx,hy]
  ·rw[bm_ (by omega),bm_ (by omega)]
theorem zee {ds:List PD}{i:Nat}(hd:ds[k]?=some d) (hf:d.body.fs[i]?=some f):(zd_ ds)[(zd_ (ds.take k)).length+i]?=some f:=by
 have hk:=(ao_.1 hd).1
 have h:zd_ ds=zd_ (ds.take (k+1))++zd_ (ds.drop (k+1)):=by
  unfold zd_;rw[<- a5_,List.take_append_drop]
 have hi:=(ao_.1 hf).1;rw[h,ji_ hd,List.append_assoc,aw_ (by omega),Nat.add_sub_cancel_left,av_ hi];exact hf
theorem zec {ds:List PD}{k':Nat}(hd:ds[k]?=some d) (hk:k<k'):(zd_ (ds.take k)).length+d.body.fs.length<=(zd_ (ds.take k')).length:=by
 have h:=zck (ds:=ds.take k') (k+1);rw[List.take_take,Nat.min_eq_left (by omega),ji_ hd,al_] at h;exact h
def DfAt (w:World) (P:Nat->Prop) (s:BA) (ds:List PD) (xs:List Value) (a g:Nat):Prop:=
 ∃ (k:Nat) (d:PD) (fs:List PF) (p:Nat) (fv:Value) (zs:List Value) (i:Nat) (f:PF) (e:Nat) (x:Value),ds[k]?=some d/\d.body=.recd fs/\xs[3*k+2]?=some (.iface 263 (.agg #[.int .i64 (p:Int),fv]))/\w.ownsRow 0 220 4 fv fs.length zs/\fs[i]?=some f/\f.dflt=some (a,e)/\zs[4*i+3]?=some (.pointer (some ⟨g,0,none⟩))/\P g/\Blk w g [.int .i64 (a:Int),.string (s.extract a e),x] 224
theorem DfAt.uniq {w:World}{P:Nat->Prop}{s:BA}{ds:List PD}{xs:List Value}{g g':Nat}(hp:zq_ s=.ok (ds,t)) (h:DfAt w P s ds xs a g) (h':DfAt w P s ds xs a g'):g=g':=by
 obtain⟨k,d,fs,p,fv,zs,i,f,e,x,h1,h2,h3,h4,h5,h6,h7,_,_⟩:=h;obtain⟨k',d',fs',p',fv',zs',i',f',e',x',h1',h2',h3',h4',h5',h6',h7',_,_⟩:=h'
 have hb:d.body.fs=fs:=by rw[h2];rfl
 have hb':d'.body.fs=fs':=by rw[h2'];rfl
 have g1:=zee h1 (by rw[hb];exact h5);have g2:=zee h1' (by rw[hb'];exact h5');have hi:=(ao_.1 h5).1;have hi':=(ao_.1 h5').1
 have hidx:(zd_ (ds.take k)).length+i=(zd_ (ds.take k')).length+i':=by
  by_cases hx:(zd_ (ds.take k)).length+i=(zd_ (ds.take k')).length+i'
  ·exact hx
  ·exact absurd rfl (z0d hp _ _ f f' a e a e' g1 g2 h6 h6' hx)
 have hkk:k=k':=by
  rcases Nat.lt_trichotomy k k' with hl|hl|hl
  ·have:=zec h1 hl;rw[hb] at this;omega
  ·exact hl
  ·have:=zec h1' hl;rw[hb'] at this;omega
 subst hkk;rw[h1] at h1';cases h1';rw[h2] at h2';cases h2';rw[h3] at h3';simp only[ad_,Value.iface.injEq,Value.agg.injEq,true_and] at h3'
 obtain rfl:fv=fv':=by
  have:=congrArg (λ l:Array Value=>l[1]?) h3'
  simpa using this
 have hz:=zdp h4 h4';subst hz
 have hii:i=i':=by omega
 subst hii;rw[h7] at h7';cases h7'
 rfl
open Classical in
noncomputable def blkOf (w:World) (P:Nat->Prop) (s:BA) (ds:List PD) (xs:List Value) (a:Nat):Nat:=if h:∃ g,DfAt w P s ds xs a g then h.choose else 0
theorem zfh {w:World}{P:Nat->Prop}{s:BA}{ds:List PD}{xs:List Value}{g:Nat}(hp:zq_ s=.ok (ds,t)) (h:DfAt w P s ds xs a g):blkOf w P s ds xs a=g:=by
 unfold blkOf;have he:∃ g,DfAt w P s ds xs a g:=⟨g,h⟩;rw[dif_pos he];exact DfAt.uniq hp he.choose_spec h
theorem zt3 {w:World}{P:Nat->Prop}{s:BA}{ds:List PD}{sv:Value}{xs:List Value}(D:DRow w P s ds sv xs){i:Nat}(hd:ds[k]?=some d) (hb:d.body=.recd fs) (hf:fs[i]?=some f) (he:f.dflt=some (a,e)) :
 ∃ p fv zs g,xs[3*k+2]?=some (.iface 263 (.agg #[.int .i64 ((p:Nat):Int),fv]))/\w.ownsRow 0 220 4 fv fs.length zs/\(∀ b,fv.ownBlock=some b->P b)/\zs[4*i+3]?=some (.pointer (some ⟨g,0,none⟩))/\DfAt w P s ds xs a g:=by
 obtain⟨c,_,_,h3,h4⟩:=D.V k d hd;rw[hb] at h4
 cases h4 with
 | recd p ho hP h=>
  rename_i fv zs;obtain⟨c0,c1,c2,c3,q0,q1,q2,q3,hF⟩:=h i f hf;have hDf:=hF.2.2.2;rw[he] at hDf;obtain⟨g,x,hg,rfl,_,hB⟩:=hDf;exact⟨p,fv,zs,g,h3,ho,hP,q3,k,d,fs,p,fv,zs,i,f,e,x,hd,hb,h3,ho,hf,he,q3,hg,hB⟩
theorem zqy {w:World}{P:Nat->Prop}{s:BA}{ds:List PD}{sv:Value}{xs:List Value}(D:DRow w P s ds sv xs) (hp:zq_ s=.ok (ds,t)):zus (zrb (blkOf w P s ds xs)) w ds sv/\zu0 P ds (blkOf w P s ds xs):=by
 have mem:∀ f∈zd_ ds,∀ a e,f.dflt=some (a,e)->∃ g,DfAt w P s ds xs a g:=λ f hf a e he=>by
  unfold zd_ at hf;obtain⟨d,hd,hfd⟩:=List.mem_flatMap.1 hf;obtain⟨k,hk⟩:=List.getElem?_of_mem hd
  cases hb:d.body with
  | recd fs=>
   rw[hb] at hfd;obtain⟨i,hi⟩:=List.getElem?_of_mem (show f∈fs from hfd);obtain⟨_,_,_,g,_,_,_,_,h⟩:=zt3 D hk hb hi he;exact⟨g,h⟩
  | enum l o=>rw[hb] at hfd;exact absurd hfd bf_
  | bytes n=>rw[hb] at hfd;exact absurd hfd bf_
 refine⟨λ W g q cap m d p fs fv zs hW hsv hd hb hc ho i f dd hf hdd a e he=>?_,⟨λ f hf a e he=>?_,λ i j f g a e a' e' hf hg hfa hga hne heq=>?_⟩⟩
 ·obtain⟨p0,fv0,zs0,g0,h1,h2,h3,h4,h5⟩:=zt3 D hd hb hf he;subst hsv;have hm:=zsk D.row;subst hm;have hcw:=zs_ (zb_ D.row hW u_) rfl h1;rw[show 3*q+2=q*3+2 by omega,hc] at hcw;simp only[ad_,Value.iface.injEq,Value.agg.injEq,true_and] at hcw
  obtain rfl:fv=fv0:=by
   have:=congrArg (λ l:Array Value=>l[1]?) hcw
   simpa using this
  have hz:=zdp ho (zb_ h2 hW u_);subst hz;rw[h4] at hdd;cases hdd;rw[zfh hp h5]
 ·obtain⟨g,h⟩:=mem f hf a e he;rw[zfh hp h];obtain⟨_,_,_,_,_,_,_,_,_,_,_,_,_,_,_,_,_,hP,_⟩:=h;exact hP
 ·have hne':=z0d hp i j f g a e a' e' hf hg hfa hga hne;obtain⟨b,h⟩:=mem f (ak_ hf) a e hfa;obtain⟨b',h'⟩:=mem g (ak_ hg) a' e' hga;rw[zfh hp h,zfh hp h'] at heq;subst heq;obtain⟨_,_,_,_,_,_,_,_,_,_,_,_,_,_,_,_,_,_,hB⟩:=h;obtain⟨_,_,_,_,_,_,_,_,_,_,_,_,_,_,_,_,_,_,hB'⟩:=h';have c:=hB.cell 0;have c':=hB'.cell 0;rw[c] at c';simp only[aa_,ad_,Value.int.injEq,true_and] at c';omega
def zgw (X:PF->Value->Prop) (w:World) (ds:List PD) (xs:List Value):Prop:=
 ∀ (q:Nat) (d:PD) (p:Nat) (fs:List PF) (fv:Value) (zs:List Value),ds[q]?=some d->d.body=.recd fs->xs[3*q+2]?=some (.iface 263 (.agg #[.int .i64 (p:Int),fv]))->w.ownsRow 0 220 4 fv fs.length zs->zjg X fs zs
theorem zus.cells {X:PF->Value->Prop}{w:World}{P:Nat->Prop}{s:BA}{ds:List PD}{sv:Value}{xs:List Value}(h:zus X w ds sv) (D:DRow w P s ds sv xs):zgw X w ds xs:=λ q d p fs fv zs hd hb hx ho=>by
 have hq:=(ao_.1 hd).1;obtain⟨g,cap,hgc⟩:=zk_ D.row (by omega);have hc:=zs_ D.row hgc hx;rw[show 3*q+2=q*3+2 by omega] at hc;exact h w g q cap ds.length d p fs fv zs (Fr.refl _ _) hgc hd hb hc ho
theorem zgw.to {X:PF->Value->Prop}{w w':World}{P:Nat->Prop}{s:BA}{ds:List PD}{sv:Value}{xs:List Value}(h:zgw X w ds xs) (D:DRow w P s ds sv xs) (hk:∀ fv n zs,(∀ g,fv.ownBlock=some g->P g)->w.ownsRow 0 220 4 fv n zs->w'.ownsRow 0 220 4 fv n zs):zgw X w' ds xs:=λ q d p fs fv zs hd hb hx ho=>by
 obtain⟨c,_,_,h3,h4⟩:=D.V q d hd;rw[hb] at h4;have h3':=h3;rw[hx] at h3'
 cases h4 with
 | recd p0 ho0 hP h0=>
  simp only[ad_,Value.iface.injEq,Value.agg.injEq,true_and] at h3';rename_i fv0 zs0
  obtain rfl:fv=fv0:=by
   have:=congrArg (λ l:Array Value=>l[1]?) h3'
   simpa using this
  have hz:=zdp ho (hk _ _ _ hP ho0);subst hz;exact h q d p fs fv zs hd hb hx ho0
def Dfs (lo:Nat) (P:Nat->Prop) (w:World) (s:BA) (ds:List PD) (xs:List Value):Prop:=
 ∃ blk,zgw (zrb blk) w ds xs/\zu0 P ds blk/\∀ f∈zd_ ds,zh3 lo s ds blk w f
theorem Dfs.fr {P S:Nat->Prop}{w w':World}{s:BA}{ds:List PD}{sv:Value}{xs:List Value}(h:Dfs lo P w s ds xs) (D:DRow w P s ds sv xs) (hf:Fr w w' S) (hS:∀ g,P g->¬ S g) (hL:∀ g,lo<=g->¬ S g):Dfs lo P w' s ds xs:=by
 obtain⟨blk,h1,h2,h3⟩:=h;exact⟨blk,h1.to D (λ fv n zs hP ho=>zb_ ho hf (λ g e=>hS g (hP g e))),h2,λ f hm=>(h3 f hm).fr hf hL (λ a e he=>hS _ (h2.off f hm a e he))⟩
theorem Dfs.mono {lo':Nat}{P Q:Nat->Prop}{w:World}{s:BA}{ds:List PD}{xs:List Value}(h:Dfs lo P w s ds xs) (hl:lo'<=lo) (hQ:∀ g,P g->Q g):Dfs lo' Q w s ds xs:=by
 obtain⟨blk,h1,h2,h3⟩:=h;refine⟨blk,h1,⟨λ f hf a e he=>hQ _ (h2.off f hf a e he),h2.ne⟩,λ f hm a e he=>?_⟩;obtain⟨x,d,r1,r2,r3⟩:=h3 f hm a e he;exact⟨x,d,r1,r2,r3.mono (λ g _ hg=>ah_ hl hg)⟩
end Go.Proofs.YthmjjpkjgjklmaaGreatDoor
