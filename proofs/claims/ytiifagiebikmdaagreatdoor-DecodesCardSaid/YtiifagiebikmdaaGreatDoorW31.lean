import Derived.Test.YtiifagiebikmdaaGreatDoorW29
import Derived.Test.YtiifagiebikmdaaGreatDoorA00
set_option maxHeartbeats 16000000
set_option maxRecDepth 100000
set_option linter.unusedSimpArgs false
open Go.Proofs.Tryz
namespace Go.Proofs.YtiifagiebikmdaaGreatDoor
open Go.RowKit
variable {f:PF}
theorem zol {s:BA}(hs:s.size<=300){i:Nat}{j:Nat}(h:ye_ s i=.ok (f,j)):fewB f.ty/\i<j:=by
 unfold ye_ at h;split at h
 ·split at h
  ·rename_i b;have hl:=zj_ (s:=s) (i:=i+1) (by omega);split at h
   ·cases h
   ·rename_i t k a;have:=zve hs (i:=i+2) (by omega) a;have hb:=(xz_ (s:=s) (i:=i+2) (by omega)).1 t k a;split at h
    ·split at h
     ·cases h
     ·rename_i e hd;have:=zfm hd;simp only[ae_,ad_] at h;obtain⟨rfl,rfl⟩:=h;exact⟨by assumption,by omega⟩
    ·simp only[ae_,ad_] at h;obtain⟨rfl,rfl⟩:=h;exact⟨by assumption,by omega⟩
  ·cases h
 ·cases h
theorem zjp (s:BA) (hs:s.size<=300):∀ (n i:Nat) (l:List PF) (j:Nat),xm_ s n i=.ok (l,j)->(∀ f∈l,fewB f.ty)/\i+l.length<=j:=by
 intro n
 induction n with
 | zero=>intro i l j h;cases h
 | succ n ih=>
  intro i l j h;unfold xm_ at h;split at h
  ·cases h
  ·rename_i f k b;obtain⟨h1,e⟩:=zol hs b;split at h
   ·simp only[ae_,ad_] at h;obtain⟨rfl,rfl⟩:=h;exact⟨λ g hg=>by rw[bj_] at hg;subst hg;exact h1,by simp;omega⟩
   ·split at h
    ·split at h
     ·cases h
     ·rename_i fs m c;obtain⟨a,d⟩:=ih _ _ _ c;simp only[ae_,ad_] at h;obtain⟨rfl,rfl⟩:=h;refine⟨λ g hg=>?_,by simp;omega⟩
      rcases ap_.1 hg with rfl|hg
      ·exact h1
      ·exact a g hg
    ·cases h
theorem zqy {s:BA}(hs:s.size<=300){i:Nat}{b:PB}{j:Nat}(h:vd_ s i=.ok (b,j)):(∀ f∈b.fs,fewB f.ty)/\i+b.fs.length<=j:=by
 unfold vd_ at h;split at h
 ·split at h
  ·cases h
  ·rename_i ds k a;simp only[ae_,ad_] at h;obtain⟨rfl,rfl⟩:=h;unfold ys_ at a;split at a
   ·split at a
    ·simp only[ae_,ad_] at a;obtain⟨rfl,rfl⟩:=a;exact⟨λ f c=>by simp[PB.fs] at c,by simp[PB.fs];omega⟩
    ·obtain⟨d,e⟩:=zjp s hs _ _ _ _ a;exact⟨d,by show i+ds.length<=k;omega⟩
   ·cases a
 ·split at h
  ·split at h
   ·cases h
   ·rename_i l o k a;simp only[ae_,ad_] at h;obtain⟨rfl,rfl⟩:=h;have:=(zju a).2.2.2;exact⟨λ f c=>by simp[PB.fs] at c,by simp[PB.fs];omega⟩
  ·split at h
   ·split at h
    ·simp only[ae_,ad_] at h;obtain⟨rfl,rfl⟩:=h;exact⟨λ f c=>by simp[PB.fs] at c,by simp[PB.fs]⟩
    ·cases h
   ·cases h
theorem zoo (s:BA) (hs:s.size<=300):∀ (n i:Nat) (ds:List PD) (j:Nat),i<=s.size->y5_ s n i=.ok (ds,j)->(∀ f∈zf_ ds,fewB f.ty)/\i+(zf_ ds).length<=j/\j<=s.size:=by
 intro n
 induction n with
 | zero=>
  intro i ds j c h;simp only[y5_,ae_,ad_] at h;obtain⟨rfl,rfl⟩:=h;exact⟨λ f a=>by simp[zf_] at a,by simp[zf_],c⟩
 | succ n ih=>
  intro i ds j c h;unfold y5_ at h;split at h
  ·split at h
   ·split at h
    ·cases h
    ·rename_i b k hb;obtain⟨b1,b2⟩:=zqy hs hb;have b3:=zeu hb;split at h
     ·rename_i m;have d:=zj_ (s:=s) (i:=k) (by omega);split at h
      ·cases h
      ·rename_i o e g;obtain⟨r1,p,l⟩:=ih _ _ _ d g;simp only[ae_,ad_] at h;obtain⟨rfl,rfl⟩:=h;rw[zau];refine⟨λ f a=>?_,by rw[ah_];show i+(b.fs.length+_)<=_;omega,l⟩
       rcases bg_.1 a with a|a
       ·exact b1 f a
       ·exact r1 f a
     ·cases h
   ·cases h
  ·simp only[ae_,ad_] at h;obtain⟨rfl,rfl⟩:=h;exact⟨λ f a=>by simp[zf_] at a,by simp[zf_],c⟩
theorem zka {ds:List PD}{d:PD}(hd:d∈ds)(a:f∈d.body.fs):f∈zf_ ds:=by
 unfold zf_;exact List.mem_flatMap.2 ⟨d,hd,a⟩
theorem zee {ds:List PD}(a:f∈zf_ ds):∃ d∈ds,f∈d.body.fs:=by
 unfold zf_ at a;exact List.mem_flatMap.1 a
theorem jm_ {s:BA}(hs:s.size<=300){ds:List PD}{t:PT}(h:z1_ s=.ok (ds,t)) :
 (∀ d∈ds,plB d.body)/\fewB t/\shT t/\(zf_ ds).length<=300/\(∀ f∈zf_ ds,fewB f.ty/\shT f.ty)/\ds.length<=6:=by
 obtain⟨_,_,_,p,r⟩:=zao h;obtain⟨m,y⟩:=v9_ h;have h0:=h;unfold z1_ at h0;split at h0
 ·cases h0
 ·rename_i z i hd;obtain⟨g,A,u⟩:=zoo s hs _ _ _ _ o_ hd;split at h0
  ·cases h0
  ·rename_i B j x;have v:=zve hs u x;split at h0
   ·cases h0
   ·simp only[ae_,ad_] at h0;obtain⟨rfl,rfl⟩:=h0;refine⟨λ d c=>?_,v,y,by omega,λ f e=>⟨g f e,?_⟩,r⟩
    ·have h1:=(p d c).2;have a:=m d c;have k:∀ f∈d.body.fs,fewB f.ty:=λ f e=>g f (zka c e)
     cases hb:d.body with
     | recd fs=>rw[hb] at h1 a k;exact⟨by have:=a.2;omega,h1,k⟩
     | enum l o=>rw[hb] at h1 a;exact⟨by have:=a.2;omega,h1.1,h1.2⟩
     | bytes n=>trivial
    ·obtain⟨d,c,b⟩:=zee e;have a:=m d c
     cases hb:d.body with
     | recd fs=>rw[hb] at a b;exact a.1 f b
     | enum l o=>rw[hb] at b;simp[PB.fs] at b
     | bytes n=>rw[hb] at b;simp[PB.fs] at b
open Go.RowKit
theorem zfg {s:BA}(hs:s.size<=300){ds:List PD}{t:PT}(h:z1_ s=.ok (ds,t)) (hn:j3_ ds t=[]) (hu:ji_ ds t=[]):j4_ ds/\∀ f∈zf_ ds,okT (zc_ ds) f.ty:=by
 obtain⟨e,g,_,_,_⟩:=zao h;rw[hn] at e;rw[hu] at g
 have k:wrU (zc_ ds) (accU ds++zr_ t) (accW [] ds (-1))<0:=by rw[e];decide
 have j:mix t (accM ds (-1))<0:=by rw[g];decide
 obtain⟨m,B,_,_⟩:=zff hs h k j;obtain⟨x,_⟩:=jm_ hs h;obtain⟨y,z⟩:=v9_ h;obtain⟨_,i⟩:=zp4 k;have p:=zjy (zc_ ds) t _ z j (λ u hu=>i u (List.mem_append_right _ hu));have r:=(znw (env:=zc_ ds) y (λ u hu=>i u (List.mem_append_left _ hu)) p.1).2;refine⟨λ c b he=>⟨?_,m c b he⟩,λ f v=>?_⟩
 ·unfold zc_ at he
  cases hl:look 0 c ds with
  | none=>rw[hl] at he;cases he
  | some q=>
   obtain⟨C,A⟩:=q;rw[hl] at he;simp only[bw_,ag_] at he;subst he;obtain⟨d,hd,rfl⟩:=zex hl;exact x d hd
 ·obtain⟨d,hd,a⟩:=zee v
  cases hb:d.body with
  | recd fs=>rw[hb] at a;exact r d hd fs hb f a
  | enum l o=>rw[hb] at a;simp[PB.fs] at a
  | bytes n=>rw[hb] at a;simp[PB.fs] at a
structure Errs where
 lt:TypeId
 lx:Value
 gt:TypeId
 gx:Value
 mt:TypeId
 mx:Value
 ut:TypeId
 ux:Value
 nt:TypeId
 nx:Value
structure Errs.At (E:Errs) (w:World):Prop where
 l:ErrV 7 w E.lt E.lx
 g:ErrV 0 w E.gt E.gx
 m:ErrV 1 w E.mt E.mx
 u:ErrV 2 w E.ut E.ux
 n:ErrV 3 w E.nt E.nx
def zbn (E:Errs) (w:World) (lo:Nat) (ev:Value) (a:Int×Int):Prop:=
 (a.1=0/\a.2=0/\ev=.nilIface)\/(a.1=1/\a.2=0/\ev=.iface E.lt E.lx)\/(a.1=2/\yd_ w lo ev a.2 (.iface E.gt E.gx))\/(a.1=3/\yd_ w lo ev a.2 (.iface E.mt E.mx))\/(a.1=4/\yd_ w lo ev a.2 (.iface E.ut E.ux))\/(a.1=5/\∃ cv,yd_ w lo ev a.2 cv/\ErrD w lo E.nt E.nx cv)
def SchM (lo:Nat) (w:World) (s:BA) (sv rv:Value):Prop:=
 ∃ ds t xs,s.size<=300/\z1_ s=.ok (ds,t)/\j3_ ds t=[]/\ji_ ds t=[]/\DRow w (λ g=>lo<=g/\g<w.heap.size) s ds sv xs/\TyV w (λ g=>lo<=g/\g<w.heap.size) t rv
def zgl (w:World) (s:BA) (E:Errs) (e:Ending) (w':World):Prop:=
 ∃ sv rv ev,e=.returned (.tuple #[.agg #[sv,rv],ev])/\(∃ a n c,sv=.slice a n c)/\IfV rv/\Fr w w' (λ _=>False)/\zbn E w' w.heap.size ev (zv_ s)/\((zv_ s).1=0->SchM w.heap.size w' s sv rv)
theorem zco {w W W':World}{s:BA}{E:Errs}{a:Value}(c:Fr w W (λ _=>False)) (b:Fr W W' (λ g=>g=w.heap.size)) (h0:(zv_ s).1≠0) (h:zbn E W' w.heap.size a (zv_ s)) :
 zgl w s E (.returned (.tuple #[.agg #[.slice none 0 0,.nilIface],a])) W':=
 ⟨_,_,a,rfl,⟨_,_,_,rfl⟩,.inl rfl,c.trans b (λ x d e=>by omega),h,λ e=>absurd e h0⟩
structure RSt (w w1:World) (s:BA) (ds:List PD) (t:PT) (sv rv:Value) (xs:List Value) (q:Nat) (W:World):Prop where
 z:w1.heap.size+2<=W.heap.size
 z0:w.heap.size+2<=w1.heap.size
 al:Fr w W (λ _=>False)
 q3:q<=3
 d:DRow W (λ g=>w.heap.size+2<=g/\g<w1.heap.size) s ds sv xs/\TyV W (λ g=>w.heap.size+2<=g/\g<w1.heap.size) t rv
 n:1<=q->j3_ ds t=[]
 u:2<=q->ji_ ds t=[]
 e:3<=q->zc4 s ds=[]
 R:Blk W w.heap.size [.slice none 0 0,.nilIface] 85
 B:Blk W w1.heap.size [sv,rv] 85
 L:∃ ty,Blk W (w1.heap.size+1) [.func (.func 51) #[] #[],.func (.func 52) #[] #[],.func (.func 53) #[] #[]] ty
section
variable {w w1 W W':World} {s:BA} {ds:List PD} {t:PT} {sv rv:Value} {xs:List Value} {q:Nat}
theorem RSt.chk (M:RSt w w1 s ds t sv rv xs q W) (a:Fr W W' (λ _=>False)):RSt w w1 s ds t sv rv xs q W':=
 ⟨ai_ M.z a.size,M.z0,M.al.trans a v_,M.q3,⟨M.d.1.fr a u_,M.d.2.fr a u_⟩,M.n,M.u,M.e,a.blk M.R id,a.blk M.B id,M.L.imp λ _ h=>a.blk h id⟩
theorem RSt.next0 (M:RSt w w1 s ds t sv rv xs 0 W) (h:j3_ ds t=[]):RSt w w1 s ds t sv rv xs 1 W:=
 ⟨M.z,M.z0,M.al,by omega,M.d,λ _=>h,λ h=>by omega,λ h=>by omega,M.R,M.B,M.L⟩
theorem RSt.next1 (M:RSt w w1 s ds t sv rv xs 1 W) (h:ji_ ds t=[]):RSt w w1 s ds t sv rv xs 2 W:=
 ⟨M.z,M.z0,M.al,by omega,M.d,λ _=>M.n (by omega),λ _=>h,λ h=>by omega,M.R,M.B,M.L⟩
theorem RSt.dft (M:RSt w w1 s ds t sv rv xs 2 W) (a:Fr W W' (λ g=>w.heap.size+2<=g/\g<w1.heap.size)):Fr w W' (λ _=>False)/\Blk W' w.heap.size [.slice none 0 0,.nilIface] 85:=
 ⟨M.al.trans a (λ x b e=>by omega),a.blk M.R (λ e=>by omega)⟩
theorem RSt.next2 (M:RSt w w1 s ds t sv rv xs 2 W) (a:Fr W W' (λ g=>w.heap.size+2<=g/\g<w1.heap.size)) (h:zc4 s ds=[]) (b:DRow W' (λ g=>w.heap.size+2<=g/\g<w1.heap.size) s ds sv xs) (c:∀ t x,TyV W (λ g=>w.heap.size+2<=g/\g<w1.heap.size) t x->TyV W' (λ g=>w.heap.size+2<=g/\g<w1.heap.size) t x):RSt w w1 s ds t sv rv xs 3 W':=
 ⟨ai_ M.z a.size,M.z0,(M.dft a).1,by omega,⟨b,c _ _ M.d.2⟩,λ _=>M.n (by omega),λ _=>M.u (by omega),λ _=>h,(M.dft a).2,a.blk M.B (λ e=>by omega),M.L.imp λ _ h=>a.blk h (λ e=>by omega)⟩
end
theorem zqx {w:World}{s:BA}{E:Errs}(X:E.At w) (hI:xr_ w) (hQ:xs_ w) (hN:zn1 w) :
 Calls prog 28 #[.string s] w (zgl w s E):=by
 refine hq_ λ d8 T=>?_;have a1:Fr w (w.alloc (.cells #[.slice none 0 0,.nilIface] 85)) (λ _=>False):=(Fr.refl w _).alloc _;have N:=Blk.new w #[.slice none 0 0,.nilIface] 85
 have d6:(w.alloc (.cells #[.slice none 0 0,.nilIface] 85)).heap.size=w.heap.size+1:=by simp
 by_cases hl:300<s.size
 ·have d2:(300:Int)<(s.size:Int):=by omega
  have cL:=X.l.fr a1 id;unfold ErrV at cL;replace N:=q_ N
  go_in
  go_wp2_with fail
  go_region
  go_wp2_with fail
  have I:=N.o.drew.c0;have J:=N.o.drew.c1;refine bodyPost_ret (v:=.tuple #[.agg #[.slice none 0 0,.nilIface],.iface E.lt E.lx]) (by simp[results,results28,go_sem,I,J]) rfl ?_;rw[T.o];exact⟨_,_,_,rfl,⟨_,_,_,rfl⟩,.inl rfl,a1.drew,.inr (.inl ⟨by unfold zv_;rw[if_pos hl],by unfold zv_;rw[if_pos hl],rfl⟩),λ e=>by unfold zv_ at e;rw[if_pos hl] at e;simp at e⟩
 ·have d2:¬ (300:Int)<(s.size:Int):=by omega
  have hs:s.size<=300:=by omega
  have U:=a1.alloc (.cells #[.string s,.int .i64 0] 109)
  have a0:PAt ((w.alloc (.cells #[.slice none 0 0,.nilIface] 85)).alloc (.cells #[.string s,.int .i64 0] 109)) (w.heap.size+1) s 0:=by
   have:=Blk.new (w.alloc (.cells #[.slice none 0 0,.nilIface] 85)) #[.string s,.int .i64 0] 109
   rwa[d6] at this
  have d0:=World.block_lt_of_cell? w ⟨0,0,none⟩ X.g;have a4:=q_ (zlp a0 (X.g.fr U id) (by show w.heap.size+1≠_;simp only at d0;omega) hs);replace a0:=q_ a0;replace N:=q_ (N.alloc (.cells #[.string s,.int .i64 0] 109));replace U:=q_ U;clear a1
  cases K:z1_ s with
  | error k=>
   have y:=q_ (show zv_ s=(2,(k:Int)) by unfold zv_;rw[if_neg hl,K]);replace K:=q_ K
   go_in
   go_wp2_with (go_at_call 50;refine a4.o.mono ?_;rintro e w1 ⟨sv,rv,ev,rfl,⟨F,sn,G,rfl⟩,a7,D,c⟩;rw[K.o] at c;obtain⟨g,V,rfl,A⟩:=c;have a3:=D.size;have b6:w.heap.size+2<=w1.heap.size:=(by simp at a3;omega);have d7:w.heap.size<w1.heap.size:=(by omega);rcases a7 with rfl|⟨rT,rx,rfl⟩;have a:=D.blk N.o (by omega);have r0:=a.c0;have r1:=a.c1;have Y:=a.thaw 0;have Z:=a.thaw 1;replace a:=q_ a;replace D:=q_ D;replace A:=q_ A;rotate_left;have a:=D.blk N.o (by omega);have r0:=a.c0;have r1:=a.c1;have Y:=a.thaw 0;have Z:=a.thaw 1;replace a:=q_ a;replace D:=q_ D;replace A:=q_ A)
   ·have C:=(Blk.pair a.o (.slice none 0 0) .nilIface).alloc (.cells #[.slice F sn G,.iface rT rx] 85);have I:=C.c0;have J:=C.c1;refine bodyPost_ret (v:=.tuple #[.agg #[.slice none 0 0,.nilIface],.iface 139 (.pointer (some ⟨g,0,none⟩))]) (by simp[results,results28,go_sem,I,J]) rfl ?_;rw[T.o];have j:=(Fr.pair w1 w.heap.size (.slice none 0 0) .nilIface).alloc (.cells #[.slice F sn G,.iface rT rx] 85);refine zco (U.o.trans D.o (λ x hx e=>by omega)) j (by rw[y.o];simp) ?_;rw[y.o];exact .inr (.inr (.inl ⟨rfl,g,by simp at V;omega,rfl,j.blk A.o (λ e=>by simp at V;omega)⟩))
   ·have C:=(Blk.pair a.o (.slice none 0 0) .nilIface).alloc (.cells #[.slice F sn G,.nilIface] 85);have I:=C.c0;have J:=C.c1;refine bodyPost_ret (v:=.tuple #[.agg #[.slice none 0 0,.nilIface],.iface 139 (.pointer (some ⟨g,0,none⟩))]) (by simp[results,results28,go_sem,I,J]) rfl ?_;rw[T.o];have j:=(Fr.pair w1 w.heap.size (.slice none 0 0) .nilIface).alloc (.cells #[.slice F sn G,.nilIface] 85);refine zco (U.o.trans D.o (λ x hx e=>by omega)) j (by rw[y.o];simp) ?_;rw[y.o];exact .inr (.inr (.inl ⟨rfl,g,by simp at V;omega,rfl,j.blk A.o (λ e=>by simp at V;omega)⟩))
  | ok r=>
   obtain⟨ds,t⟩:=r;have y:=q_ (zgr hs K);have d1:=q_ (zfg hs K);have P:=q_ (jm_ hs K);replace K:=q_ K
   go_in
   go_wp2_with (go_at_call 50;refine a4.o.mono ?_;rintro e w1 ⟨sv,rv,ev,rfl,_,a7,D,c⟩;rw[K.o] at c;obtain⟨rfl,xs,o1,o2,o3,o4⟩:=c;have a3:=D.size;have b6:w.heap.size+2<=w1.heap.size:=(by simp at a3;omega);have d7:w.heap.size<w1.heap.size:=(by omega);have a5:=q_ (And.intro (DRow.mono (Q:=λ g=>w.heap.size+2<=g/\g<w1.heap.size) (⟨o1,o2,o3,P.o.2.2.2.2.2⟩:DRow w1 _ s ds sv xs) (λ g h1 h2=>⟨by simp at h2;omega,h1⟩)) (o4.mono (Q:=λ g=>w.heap.size+2<=g/\g<w1.heap.size) (λ g h1 h2=>⟨by simp at h2;omega,h1⟩)));obtain⟨F,G,rfl⟩:=zo_ o1;obtain⟨rT,rx,rfl⟩:=o4.iface;have R1:=q_ (D.blk N.o (by omega));replace D:=q_ D;clear o1 o2 o3 o4 a7)
   have b7:H_ (∃ q:Nat,Value.int .i64 0=.int .i64 (q:Int)/\4-q<=4/\RSt w w1 s ds t (.slice F ds.length G) (.iface rT rx) xs q ((w1.alloc (.cells #[.slice F ds.length G,.iface rT rx] 85)).alloc (.cells #[.func (.func 51) #[] #[],.func (.func 52) #[] #[],.func (.func 53) #[] #[]] 111))):=by
    have a8:Fr w1 ((w1.alloc (.cells #[.slice F ds.length G,.iface rT rx] 85)).alloc (.cells #[.func (.func 51) #[] #[],.func (.func 52) #[] #[],.func (.func 53) #[] #[]] 111)) (λ _=>False):=((Fr.refl w1 _).alloc _).alloc _;refine q_ ⟨0,rfl,by omega,⟨by simp,b6,((U.o.trans D.o (λ x hx e=>by omega)).alloc _).alloc _,by omega,⟨a5.o.1.fr a8 u_,a5.o.2.fr a8 u_⟩,λ h=>by omega,λ h=>by omega,λ h=>by omega,a8.blk R1.o id,(Blk.new w1 #[.slice F ds.length G,.iface rT rx] 85).alloc _,⟨111,?_⟩⟩⟩;have:=Blk.new (w1.alloc (.cells #[.slice F ds.length G,.iface rT rx] 85)) #[.func (.func 51) #[] #[],.func (.func 52) #[] #[],.func (.func 53) #[] #[]] 111
    simpa using this
   clear a4 a0 N U D a5 R1 a3
   go_loopg [27] 4 (λ m v W=>∃ q:Nat,v=.int .i64 (q:Int)/\4-q<=m/\RSt w w1 s ds t (.slice F ds.length G) (.iface rT rx) xs q W)
   case atStart=>exact b7.o
   case round=>
    clear b7;obtain⟨q,rfl,c,M⟩:=hrel;have hz:=M.z
    have e0:w1.heap.size<wr.heap.size:=by omega
    have e1:w.heap.size<wr.heap.size:=by omega
    obtain⟨lt,hL⟩:=M.L;have b0:=M.B.c0;have b1:=M.B.c1;obtain⟨l0,l1,l2⟩:=hL.d3;clear hL
    have hq:q=0\/q=1\/q=2\/q=3:=by have:=M.q3;omega
    rcases hq with rfl|rfl|rfl|rfl
    ·have H:=M.d;have O:=q_ (zfk H.1 H.2 (X.m.fr M.al id) P.o.1 P.o.2.1 (λ g hg=>by omega));have l0:=l0
     cases b:j3_ ds t with
     | nil=>
      replace b:=q_ b;replace M:=q_ M;clear H
      go_wp2_with (go_at_call 51;refine O.o.mono ?_;rintro e S ⟨v,rfl,p,c⟩;rw[b.o] at c;obtain rfl:=c;have i:=q_ ((M.o.chk p).next0 b.o);clear p)
      go_roundg 3
      case measure=>omega
      case rel=>exact⟨1,rfl,l_,i.o⟩
     | cons x r=>
      replace y:=q_ (show zv_ s=(3,(x:Int)) by rw[y.o];simp only[b]);replace b:=q_ b;replace M:=q_ M;clear H
      go_wp2_with (go_at_call 51;refine O.o.mono ?_;rintro e S ⟨v,rfl,p,c⟩;rw[b.o] at c;obtain⟨g,V,rfl,A⟩:=c;have i:=M.o.chk p;have a:=i.R;have r0:=a.c0;have r1:=a.c1;have Y:=a.thaw 0;have Z:=a.thaw 1;replace a:=q_ a;replace i:=q_ i.al;replace p:=q_ p;replace A:=q_ A)
      have C:=Blk.pair a.o (.slice none 0 0) .nilIface;have I:=C.c0;have J:=C.c1;refine bodyPost_ret (v:=.tuple #[.agg #[.slice none 0 0,.nilIface],.iface 139 (.pointer (some ⟨g,0,none⟩))]) (by simp[results,results28,go_sem,I,J]) rfl ?_;rw[T.o];have j:=Fr.pair S w.heap.size (.slice none 0 0) .nilIface;refine zco i.o j (by rw[y.o];simp) ?_;rw[y.o];exact .inr (.inr (.inr (.inl ⟨rfl,g,by omega,rfl,j.blk A.o (λ e=>by omega)⟩)))
    ·have H:=M.d;have a2:=M.n (by omega);have O:=q_ (zel H.1 H.2 (X.u.fr M.al id) P.o.2.2.2.1 P.o.2.2.2.2.1 ⟨P.o.2.1,P.o.2.2.1⟩ (λ g hg=>by omega));have l0:=l1
     cases b:ji_ ds t with
     | nil=>
      replace b:=q_ b;replace M:=q_ M;clear H
      go_wp2_with (go_at_call 52;refine O.o.mono ?_;rintro e S ⟨v,rfl,p,c⟩;rw[b.o] at c;obtain rfl:=c;have i:=q_ ((M.o.chk p).next1 b.o);clear p)
      go_roundg 2
      case measure=>omega
      case rel=>exact⟨2,rfl,l_,i.o⟩
     | cons x r=>
      replace y:=q_ (show zv_ s=(4,(x:Int)) by rw[y.o,a2];simp only[b]);replace b:=q_ b;replace M:=q_ M;clear H
      go_wp2_with (go_at_call 52;refine O.o.mono ?_;rintro e S ⟨v,rfl,p,c⟩;rw[b.o] at c;obtain⟨g,V,rfl,A⟩:=c;have i:=M.o.chk p;have a:=i.R;have r0:=a.c0;have r1:=a.c1;have Y:=a.thaw 0;have Z:=a.thaw 1;replace a:=q_ a;replace i:=q_ i.al;replace p:=q_ p;replace A:=q_ A)
      have C:=Blk.pair a.o (.slice none 0 0) .nilIface;have I:=C.c0;have J:=C.c1;refine bodyPost_ret (v:=.tuple #[.agg #[.slice none 0 0,.nilIface],.iface 139 (.pointer (some ⟨g,0,none⟩))]) (by simp[results,results28,go_sem,I,J]) rfl ?_;rw[T.o];have j:=Fr.pair S w.heap.size (.slice none 0 0) .nilIface;refine zco i.o j (by rw[y.o];simp) ?_;rw[y.o];exact .inr (.inr (.inr (.inr (.inl ⟨rfl,g,by omega,rfl,j.blk A.o (λ e=>by omega)⟩))))
    ·have H:=M.d;have a2:=M.n (by omega);have b5:=M.u (by omega);obtain⟨b8,b9⟩:=d1.o a2 b5;have O:=q_ (zdg (w0:=w) (rT:=rT) (rx:=rx) H.1 ((xd_.refl w).fr M.al l_ (λ _ f=>f.elim)) M.al.size (λ g hg=>by omega) (λ g hg=>by omega) X.n hs P.o.2.2.2.1 b9 b8 hI hQ hN);have l0:=l2
     cases b:zc4 s ds with
     | nil=>
      replace b:=q_ b;replace M:=q_ M;clear H
      go_wp2_with (go_at_call 53;refine O.o.mono ?_;rintro e S ⟨v,rfl,p,c⟩;rw[b.o] at c;obtain⟨rfl,a9,b4⟩:=c;have i:=q_ (M.o.next2 p b.o a9 b4);clear p a9 b4)
      go_roundg 1
      case measure=>omega
      case rel=>exact⟨3,rfl,l_,i.o⟩
     | cons x r=>
      replace y:=q_ (show zv_ s=(5,(x:Int)) by rw[y.o,a2,b5];simp only[b]);replace b:=q_ b;replace M:=q_ M;clear H
      go_wp2_with (go_at_call 53;refine O.o.mono ?_;rintro e S ⟨v,rfl,p,c⟩;rw[b.o] at c;obtain⟨ev,⟨g,V,rfl,A⟩,a6⟩:=c;have i:=M.o.dft p;have a:=i.2;have r0:=a.c0;have r1:=a.c1;have Y:=a.thaw 0;have Z:=a.thaw 1;replace a:=q_ a;replace i:=q_ i.1;replace p:=q_ p;replace A:=q_ A;replace a6:=q_ a6)
      have C:=Blk.pair a.o (.slice none 0 0) .nilIface;have I:=C.c0;have J:=C.c1;refine bodyPost_ret (v:=.tuple #[.agg #[.slice none 0 0,.nilIface],.iface 139 (.pointer (some ⟨g,0,none⟩))]) (by simp[results,results28,go_sem,I,J]) rfl ?_;rw[T.o];have j:=Fr.pair S w.heap.size (.slice none 0 0) .nilIface;refine zco i.o j (by rw[y.o];simp) ?_;rw[y.o];exact .inr (.inr (.inr (.inr (.inr ⟨rfl,ev,⟨g,by omega,rfl,j.blk A.o (λ e=>by omega)⟩,(a6.o.fr j (λ g hg e=>by omega)).less (by omega)⟩))))
    ·have r0:=M.R.c0;have r1:=M.R.c1;have Y:=M.R.thaw 0;have Z:=M.R.thaw 1;have C:=q_ (Blk.pair M.R (.slice F ds.length G) (.iface rT rx));replace M:=q_ M
     go_wp2_with fail
     have I:=C.o.c0;have J:=C.o.c1;refine bodyPost_ret (v:=.tuple #[.agg #[.slice F ds.length G,.iface rT rx],.nilIface]) (by simp[results,results28,go_sem,I,J]) rfl ?_;rw[T.o];have j:=Fr.pair wr w.heap.size (.slice F ds.length G) (.iface rT rx);refine⟨_,_,_,rfl,⟨_,_,_,rfl⟩,.inr ⟨_,_,rfl⟩,M.o.al.trans j (λ x hx e=>by omega),.inl ?_,λ _=>?_⟩
     ·rw[y.o,M.o.n (by omega),M.o.u (by omega),M.o.e (by omega)];exact⟨rfl,rfl,rfl⟩
     ·have up:∀ g,w.heap.size+2<=g/\g<w1.heap.size->¬ g=w.heap.size:=λ g h=>by omega
      have e2:=j.size;have d9:=M.o.z;exact⟨ds,t,xs,hs,K.o,M.o.n (by omega),M.o.u (by omega),(M.o.d.1.fr j up).mono (λ g h1 h2=>⟨by omega,h1⟩),(M.o.d.2.fr j up).mono (λ g h1 h2=>⟨by omega,h1⟩)⟩
end Go.Proofs.YtiifagiebikmdaaGreatDoor
