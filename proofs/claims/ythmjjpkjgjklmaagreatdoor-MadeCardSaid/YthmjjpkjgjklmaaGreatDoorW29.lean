import Derived.Test.YthmjjpkjgjklmaaGreatDoorW27
import Derived.Test.YthmjjpkjgjklmaaGreatDoorA00
set_option maxHeartbeats 16000000
set_option maxRecDepth 100000
set_option linter.unusedSimpArgs false
open Go.Proofs.Tryz
namespace Go.Proofs.YthmjjpkjgjklmaaGreatDoor
open Go.RowKit
variable {f:PF}
theorem zpt {s:BA}(hs:s.size<=300){i:Nat}{j:Nat}(h:xa_ s i=.ok (f,j)):fewB f.ty/\i<j:=by
 unfold xa_ at h;split at h
 ·split at h
  ·rename_i h58;have hl:=zl_ (s:=s) (i:=i+1) (by omega);split at h
   ·cases h
   ·rename_i t k hp;have:=zxa hs (i:=i+2) (by omega) hp;have hb:=(v7_ (s:=s) (i:=i+2) (by omega)).1 t k hp;split at h
    ·split at h
     ·cases h
     ·rename_i e hd;have:=zcv hd;simp only[af_,ab_] at h;obtain⟨rfl,rfl⟩:=h;exact⟨by assumption,by omega⟩
    ·simp only[af_,ab_] at h;obtain⟨rfl,rfl⟩:=h;exact⟨by assumption,by omega⟩
  ·cases h
 ·cases h
theorem zka (s:BA) (hs:s.size<=300):∀ (n i:Nat) (l:List PF) (j:Nat),xb_ s n i=.ok (l,j)->(∀ f∈l,fewB f.ty)/\i+l.length<=j:=by
 intro n
 induction n with
 | zero=>intro i l j h;cases h
 | succ n ih=>
  intro i l j h;unfold xb_ at h;split at h
  ·cases h
  ·rename_i f k hf;obtain⟨h1,h2⟩:=zpt hs hf;split at h
   ·simp only[af_,ab_] at h;obtain⟨rfl,rfl⟩:=h;exact⟨λ g hg=>by rw[a6_] at hg;subst hg;exact h1,by simp;omega⟩
   ·split at h
    ·split at h
     ·cases h
     ·rename_i fs k2 hr;obtain⟨g1,g2⟩:=ih _ _ _ hr;simp only[af_,ab_] at h;obtain⟨rfl,rfl⟩:=h;refine⟨λ g hg=>?_,by simp;omega⟩
      rcases an_.1 hg with rfl|hg
      ·exact h1
      ·exact g1 g hg
    ·cases h
theorem zsh {s:BA}(hs:s.size<=300){i:Nat}{b:PB}{j:Nat}(h:v8_ s i=.ok (b,j)):(∀ f∈b.fs,fewB f.ty)/\i+b.fs.length<=j:=by
 unfold v8_ at h;split at h
 ·split at h
  ·cases h
  ·rename_i ds k hr;simp only[af_,ab_] at h;obtain⟨rfl,rfl⟩:=h;unfold xy_ at hr;split at hr
   ·split at hr
    ·simp only[af_,ab_] at hr;obtain⟨rfl,rfl⟩:=hr;exact⟨λ f hf=>by simp[PB.fs] at hf,by simp[PB.fs];omega⟩
    ·obtain⟨g1,g2⟩:=zka s hs _ _ _ _ hr;exact⟨g1,by show i+ds.length<=k;omega⟩
   ·cases hr
 ·split at h
  ·split at h
   ·cases h
   ·rename_i l o k hr;simp only[af_,ab_] at h;obtain⟨rfl,rfl⟩:=h;have:=(zfx hr).2.2.2;exact⟨λ f hf=>by simp[PB.fs] at hf,by simp[PB.fs];omega⟩
  ·split at h
   ·split at h
    ·simp only[af_,ab_] at h;obtain⟨rfl,rfl⟩:=h;exact⟨λ f hf=>by simp[PB.fs] at hf,by simp[PB.fs]⟩
    ·cases h
   ·cases h
theorem zpv (s:BA) (hs:s.size<=300):∀ (n i:Nat) (ds:List PD) (j:Nat),i<=s.size->xz_ s n i=.ok (ds,j)->(∀ f∈zd_ ds,fewB f.ty)/\i+(zd_ ds).length<=j/\j<=s.size:=by
 intro n
 induction n with
 | zero=>
  intro i ds j hi h;simp only[xz_,af_,ab_] at h;obtain⟨rfl,rfl⟩:=h;exact⟨λ f hf=>by simp[zd_] at hf,by simp[zd_],hi⟩
 | succ n ih=>
  intro i ds j hi h;unfold xz_ at h;split at h
  ·split at h
   ·split at h
    ·cases h
    ·rename_i b k hb;obtain⟨b1,b2⟩:=zsh hs hb;have b3:=ze6 hb;split at h
     ·rename_i h59;have h4:=zl_ (s:=s) (i:=k) (by omega);split at h
      ·cases h
      ·rename_i r e hr;obtain⟨r1,r2,r3⟩:=ih _ _ _ h4 hr;simp only[af_,ab_] at h;obtain⟨rfl,rfl⟩:=h;rw[jj_];refine⟨λ f hf=>?_,by rw[al_];show i+(b.fs.length+_)<=_;omega,r3⟩
       rcases bj_.1 hf with hf|hf
       ·exact b1 f hf
       ·exact r1 f hf
     ·cases h
   ·cases h
  ·simp only[af_,ab_] at h;obtain⟨rfl,rfl⟩:=h;exact⟨λ f hf=>by simp[zd_] at hf,by simp[zd_],hi⟩
theorem zkp {ds:List PD}{d:PD}(hd:d∈ds)(hf:f∈d.body.fs):f∈zd_ ds:=by
 unfold zd_;exact List.mem_flatMap.2 ⟨d,hd,hf⟩
theorem zed {ds:List PD}(hf:f∈zd_ ds):∃ d∈ds,f∈d.body.fs:=by
 unfold zd_ at hf;exact List.mem_flatMap.1 hf
theorem vc_ {s:BA}(hs:s.size<=300){ds:List PD}{t:PT}(h:zq_ s=.ok (ds,t)) :
 (∀ d∈ds,plB d.body)/\fewB t/\shT t/\(zd_ ds).length<=300/\(∀ f∈zd_ ds,fewB f.ty/\shT f.ty)/\ds.length<=6:=by
 obtain⟨_,_,_,a4,a5⟩:=zal h;obtain⟨s1,s2⟩:=zak h;have h0:=h;unfold zq_ at h0;split at h0
 ·cases h0
 ·rename_i ds' i hd;obtain⟨f1,f2,f3⟩:=zpv s hs _ _ _ _ o_ hd;split at h0
  ·cases h0
  ·rename_i t' j ht;have ft:=zxa hs f3 ht;split at h0
   ·cases h0
   ·simp only[af_,ab_] at h0;obtain⟨rfl,rfl⟩:=h0;refine⟨λ d hd'=>?_,ft,s2,by omega,λ f hf=>⟨f1 f hf,?_⟩,a5⟩
    ·have h1:=(a4 d hd').2;have h2:=s1 d hd';have h3:∀ f∈d.body.fs,fewB f.ty:=λ f hf=>f1 f (zkp hd' hf)
     cases hb:d.body with
     | recd fs=>rw[hb] at h1 h2 h3;exact⟨by have:=h2.2;omega,h1,h3⟩
     | enum l o=>rw[hb] at h1 h2;exact⟨by have:=h2.2;omega,h1.1,h1.2⟩
     | bytes n=>trivial
    ·obtain⟨d,hd',hf'⟩:=zed hf;have h2:=s1 d hd'
     cases hb:d.body with
     | recd fs=>rw[hb] at h2 hf';exact h2.1 f hf'
     | enum l o=>rw[hb] at hf';simp[PB.fs] at hf'
     | bytes n=>rw[hb] at hf';simp[PB.fs] at hf'
open Go.RowKit
theorem zfp {s:BA}(hs:s.size<=300){ds:List PD}{t:PT}(h:zq_ s=.ok (ds,t)) (hn:v9_ ds t=[]) (hu:v5_ ds t=[]):v0_ ds/\∀ f∈zd_ ds,okT (za_ ds) f.ty:=by
 obtain⟨a1,a2,_,_,_⟩:=zal h;rw[hn] at a1;rw[hu] at a2
 have hw:wrU (za_ ds) (accU ds++ya_ t) (accW [] ds (-1))<0:=by rw[a1];decide
 have hm:mix t (accM ds (-1))<0:=by rw[a2];decide
 obtain⟨g1,g2,_,_⟩:=zjv hs h hw hm;obtain⟨p1,_⟩:=vc_ hs h;obtain⟨s1,s2⟩:=zak h;obtain⟨_,h3⟩:=zrh hw;have h4:=zke (za_ ds) t _ s2 hm (λ u hu=>h3 u (b2_ _ hu));have h5:=(zo2 (env:=za_ ds) s1 (λ u hu=>h3 u (b6_ _ hu)) h4.1).2;refine⟨λ c b he=>⟨?_,g1 c b he⟩,λ f hf=>?_⟩
 ·unfold za_ at he
  cases hl:look 0 c ds with
  | none=>rw[hl] at he;cases he
  | some q=>
   obtain⟨pb',b'⟩:=q;rw[hl] at he;simp only[a2_,ad_] at he;subst he;obtain⟨d,hd,rfl⟩:=zc4 hl;exact p1 d hd
 ·obtain⟨d,hd,hf'⟩:=zed hf
  cases hb:d.body with
  | recd fs=>rw[hb] at hf';exact h5 d hd fs hb f hf'
  | enum l o=>rw[hb] at hf';simp[PB.fs] at hf'
  | bytes n=>rw[hb] at hf';simp[PB.fs] at hf'
structure Errs where
 lt:TypeId
 lx:Value
 gt:TypeId
 gx:Value
 mt:TypeId
 mx:Value
 ut:TypeId
 ux:Value
 nt:TypeId
 nx:Value
structure Errs.At (E:Errs) (w:World):Prop where
 l:ErrV 8 w E.lt E.lx
 g:ErrV 0 w E.gt E.gx
 m:ErrV 1 w E.mt E.mx
 u:ErrV 2 w E.ut E.ux
 n:ErrV 3 w E.nt E.nx
def jy_ (E:Errs) (w:World) (lo:Nat) (ev:Value) (a:Int×Int):Prop:=
 (a.1=0/\a.2=0/\ev=.nilIface)\/(a.1=1/\a.2=0/\ev=.iface E.lt E.lx)\/(a.1=2/\z9_ w lo ev a.2 (.iface E.gt E.gx))\/(a.1=3/\z9_ w lo ev a.2 (.iface E.mt E.mx))\/(a.1=4/\z9_ w lo ev a.2 (.iface E.ut E.ux))\/(a.1=5/\∃ cv,z9_ w lo ev a.2 cv/\ErrD w lo E.nt E.nx cv)
def SchM (lo:Nat) (w:World) (s:BA) (sv rv:Value):Prop:=
 ∃ ds t xs,s.size<=300/\zq_ s=.ok (ds,t)/\v9_ ds t=[]/\v5_ ds t=[]/\DRow w (λ g=>lo<=g/\g<w.heap.size) s ds sv xs/\TyV w (λ g=>lo<=g/\g<w.heap.size) t rv
def SchX (lo:Nat) (w:World) (s:BA) (sv rv:Value):Prop:=
 ∃ ds t xs,s.size<=300/\zq_ s=.ok (ds,t)/\v9_ ds t=[]/\v5_ ds t=[]/\DRow w (λ g=>lo<=g/\g<w.heap.size) s ds sv xs/\TyV w (λ g=>lo<=g/\g<w.heap.size) t rv/\Dfs lo (λ g=>lo<=g/\g<w.heap.size) w s ds xs
def zur (w:World) (s:BA) (E:Errs) (e:Ending) (w':World):Prop:=
 ∃ sv rv ev,e=.returned (.tuple #[.agg #[sv,rv],ev])/\(∃ a n c,sv=.slice a n c)/\IfV rv/\Fr w w' (λ _=>False)/\jy_ E w' w.heap.size ev (zj_ s)/\((zj_ s).1=0->SchM w.heap.size w' s sv rv)
def zo6 (w:World) (s:BA) (E:Errs) (e:Ending) (w':World):Prop:=
 ∃ sv rv ev,e=.returned (.tuple #[.agg #[sv,rv],ev])/\(∃ a n c,sv=.slice a n c)/\IfV rv/\Fr w w' (λ _=>False)/\jy_ E w' w.heap.size ev (zj_ s)/\((zj_ s).1=0->SchX w.heap.size w' s sv rv)
theorem zcq {w W W':World}{s:BA}{E:Errs}{ev:Value}(hf:Fr w W (λ _=>False)) (h4:Fr W W' (λ g=>g=w.heap.size)) (h0:(zj_ s).1≠0) (h:jy_ E W' w.heap.size ev (zj_ s)) :
 zo6 w s E (.returned (.tuple #[.agg #[.slice none 0 0,.nilIface],ev])) W':=
 ⟨_,_,ev,rfl,⟨_,_,_,rfl⟩,.inl rfl,hf.trans h4 (λ x hx e=>by omega),h,λ e=>absurd e h0⟩
structure RSt (w w1:World) (s:BA) (ds:List PD) (t:PT) (sv rv:Value) (xs:List Value) (q:Nat) (W:World):Prop where
 z:w1.heap.size+2<=W.heap.size
 z0:w.heap.size+2<=w1.heap.size
 al:Fr w W (λ _=>False)
 q3:q<=3
 d:DRow W (λ g=>w.heap.size+2<=g/\g<w1.heap.size) s ds sv xs/\TyV W (λ g=>w.heap.size+2<=g/\g<w1.heap.size) t rv
 n:1<=q->v9_ ds t=[]
 u:2<=q->v5_ ds t=[]
 e:3<=q->zda s ds=[]
 R:Blk W w.heap.size [.slice none 0 0,.nilIface] 90
 B:Blk W w1.heap.size [sv,rv] 90
 L:∃ ty,Blk W (w1.heap.size+1) [.func (.func 77) #[] #[],.func (.func 78) #[] #[],.func (.func 79) #[] #[]] ty
 f:3<=q->Dfs (w.heap.size+2) (λ g=>w.heap.size+2<=g/\g<w1.heap.size) W s ds xs
section
variable {w w1 W W':World} {s:BA} {ds:List PD} {t:PT} {sv rv:Value} {xs:List Value} {q:Nat}
theorem RSt.chk (M:RSt w w1 s ds t sv rv xs q W) (hf:Fr W W' (λ _=>False)):RSt w w1 s ds t sv rv xs q W':=
 ⟨ah_ M.z hf.size,M.z0,M.al.trans hf v_,M.q3,⟨M.d.1.fr hf u_,M.d.2.fr hf u_⟩,M.n,M.u,M.e,hf.blk M.R id,hf.blk M.B id,M.L.imp (λ _ h=>hf.blk h id),λ h=>(M.f h).fr M.d.1 hf u_ u_⟩
theorem RSt.next0 (M:RSt w w1 s ds t sv rv xs 0 W) (h:v9_ ds t=[]):RSt w w1 s ds t sv rv xs 1 W:=
 ⟨M.z,M.z0,M.al,by omega,M.d,λ _=>h,λ h=>by omega,λ h=>by omega,M.R,M.B,M.L,λ h=>by omega⟩
theorem RSt.next1 (M:RSt w w1 s ds t sv rv xs 1 W) (h:v5_ ds t=[]):RSt w w1 s ds t sv rv xs 2 W:=
 ⟨M.z,M.z0,M.al,by omega,M.d,λ _=>M.n (by omega),λ _=>h,λ h=>by omega,M.R,M.B,M.L,λ h=>by omega⟩
theorem RSt.dft (M:RSt w w1 s ds t sv rv xs 2 W) (hf:Fr W W' (λ g=>w.heap.size+2<=g/\g<w1.heap.size)):Fr w W' (λ _=>False)/\Blk W' w.heap.size [.slice none 0 0,.nilIface] 90:=
 ⟨M.al.trans hf (λ x hx e=>by omega),hf.blk M.R (λ e=>by omega)⟩
theorem RSt.next2 (M:RSt w w1 s ds t sv rv xs 2 W) (hf:Fr W W' (λ g=>w.heap.size+2<=g/\g<w1.heap.size)) (h:zda s ds=[]) (hD:DRow W' (λ g=>w.heap.size+2<=g/\g<w1.heap.size) s ds sv xs) (hT:∀ t x,TyV W (λ g=>w.heap.size+2<=g/\g<w1.heap.size) t x->TyV W' (λ g=>w.heap.size+2<=g/\g<w1.heap.size) t x) (hX:Dfs (w.heap.size+2) (λ g=>w.heap.size+2<=g/\g<w1.heap.size) W' s ds xs):RSt w w1 s ds t sv rv xs 3 W':=
 ⟨ah_ M.z hf.size,M.z0,(M.dft hf).1,by omega,⟨hD,hT _ _ M.d.2⟩,λ _=>M.n (by omega),λ _=>M.u (by omega),λ _=>h,(M.dft hf).2,hf.blk M.B (λ e=>by omega),M.L.imp (λ _ h=>hf.blk h (λ e=>by omega)),λ _=>hX⟩
end
theorem zsc {w:World}{s:BA}{E:Errs}(hE:E.At w) (hI:yi_ w) (hQ:yd_ w) (hN:zh2 w) :
 Calls prog 49 #[.string s] w (zo6 w s E):=by
 refine hq_ λ POST Q_=>?_;have hf0:Fr w (w.alloc (.cells #[.slice none 0 0,.nilIface] 90)) (λ _=>False):=(Fr.refl w _).alloc _;have R0:=Blk.new w #[.slice none 0 0,.nilIface] 90
 have hsz0:(w.alloc (.cells #[.slice none 0 0,.nilIface] 90)).heap.size=w.heap.size+1:=by simp
 by_cases hl:300<s.size
 ·have hl':(300:Int)<(s.size:Int):=by omega
  have cL:=hE.l.fr hf0 id;unfold ErrV at cL;replace R0:=q_ R0
  go_in
  go_wp2_with fail
  go_region
  go_wp2_with fail
  have q0:=R0.o.drew.c0;have q1:=R0.o.drew.c1;refine bodyPost_ret (v:=.tuple #[.agg #[.slice none 0 0,.nilIface],.iface E.lt E.lx]) (by simp[results,results49,go_sem,q0,q1]) rfl ?_;rw[Q_.o];exact⟨_,_,_,rfl,⟨_,_,_,rfl⟩,.inl rfl,hf0.drew,.inr (.inl ⟨by unfold zj_;rw[if_pos hl],by unfold zj_;rw[if_pos hl],rfl⟩),λ e=>by unfold zj_ at e;rw[if_pos hl] at e;simp at e⟩
 ·have hl':¬ (300:Int)<(s.size:Int):=by omega
  have hs:s.size<=300:=by omega
  have hf1:=hf0.alloc (.cells #[.string s,.int .i64 0] 139)
  have hP1:PAt ((w.alloc (.cells #[.slice none 0 0,.nilIface] 90)).alloc (.cells #[.string s,.int .i64 0] 139)) (w.heap.size+1) s 0:=by
   have:=Blk.new (w.alloc (.cells #[.slice none 0 0,.nilIface] 90)) #[.string s,.int .i64 0] 139
   rwa[hsz0] at this
  have hgl:=World.block_lt_of_cell? w ⟨0,0,none⟩ hE.g;have hC1:=q_ (zmm hP1 (hE.g.fr hf1 id) (by show w.heap.size+1≠_;simp only at hgl;omega) hs);replace hP1:=q_ hP1;replace R0:=q_ (R0.alloc (.cells #[.string s,.int .i64 0] 139));replace hf1:=q_ hf1;clear hf0
  cases hp:zq_ s with
  | error k=>
   have hans:=q_ (show zj_ s=(2,(k:Int)) by unfold zj_;rw[if_neg hl,hp]);replace hp:=q_ hp
   go_in
   go_wp2_with (go_at_call 76;refine hC1.o.mono ?_;rintro e w1 ⟨sv,rv,ev,rfl,⟨sa,sn,sc,rfl⟩,hIr,hf2,hm⟩;rw[hp.o] at hm;obtain⟨g,hg1,rfl,hg2⟩:=hm;have hz1:=hf2.size;have hw1:w.heap.size+2<=w1.heap.size:=(by simp at hz1;omega);have hw2:w.heap.size<w1.heap.size:=(by omega);rcases hIr with rfl|⟨rT,rx,rfl⟩;have R3:=hf2.blk R0.o (by omega);have r0:=R3.c0;have r1:=R3.c1;have g0:=R3.thaw 0;have g1:=R3.thaw 1;replace R3:=q_ R3;replace hf2:=q_ hf2;replace hg2:=q_ hg2;rotate_left;have R3:=hf2.blk R0.o (by omega);have r0:=R3.c0;have r1:=R3.c1;have g0:=R3.thaw 0;have g1:=R3.thaw 1;replace R3:=q_ R3;replace hf2:=q_ hf2;replace hg2:=q_ hg2)
   ·have S2:=(Blk.pair R3.o (.slice none 0 0) .nilIface).alloc (.cells #[.slice sa sn sc,.iface rT rx] 90);have q0:=S2.c0;have q1:=S2.c1;refine bodyPost_ret (v:=.tuple #[.agg #[.slice none 0 0,.nilIface],.iface 210 (.pointer (some ⟨g,0,none⟩))]) (by simp[results,results49,go_sem,q0,q1]) rfl ?_;rw[Q_.o];have h4:=(Fr.pair w1 w.heap.size (.slice none 0 0) .nilIface).alloc (.cells #[.slice sa sn sc,.iface rT rx] 90);refine zcq (hf1.o.trans hf2.o (λ x hx e=>by omega)) h4 (by rw[hans.o];simp) ?_;rw[hans.o];exact .inr (.inr (.inl ⟨rfl,g,by simp at hg1;omega,rfl,h4.blk hg2.o (λ e=>by simp at hg1;omega)⟩))
   ·have S2:=(Blk.pair R3.o (.slice none 0 0) .nilIface).alloc (.cells #[.slice sa sn sc,.nilIface] 90);have q0:=S2.c0;have q1:=S2.c1;refine bodyPost_ret (v:=.tuple #[.agg #[.slice none 0 0,.nilIface],.iface 210 (.pointer (some ⟨g,0,none⟩))]) (by simp[results,results49,go_sem,q0,q1]) rfl ?_;rw[Q_.o];have h4:=(Fr.pair w1 w.heap.size (.slice none 0 0) .nilIface).alloc (.cells #[.slice sa sn sc,.nilIface] 90);refine zcq (hf1.o.trans hf2.o (λ x hx e=>by omega)) h4 (by rw[hans.o];simp) ?_;rw[hans.o];exact .inr (.inr (.inl ⟨rfl,g,by simp at hg1;omega,rfl,h4.blk hg2.o (λ e=>by simp at hg1;omega)⟩))
  | ok r=>
   obtain⟨ds,t⟩:=r;have hans:=q_ (zb1 hs hp);have hgood:=q_ (zfp hs hp);have hall:=q_ (vc_ hs hp);replace hp:=q_ hp
   go_in
   go_wp2_with (go_at_call 76;refine hC1.o.mono ?_;rintro e w1 ⟨sv,rv,ev,rfl,_,hIr,hf2,hm⟩;rw[hp.o] at hm;obtain⟨rfl,xs,o1,o2,o3,o4⟩:=hm;have hz1:=hf2.size;have hw1:w.heap.size+2<=w1.heap.size:=(by simp at hz1;omega);have hw2:w.heap.size<w1.heap.size:=(by omega);have hD1:=q_ (And.intro (DRow.mono (Q:=λ g=>w.heap.size+2<=g/\g<w1.heap.size) (⟨o1,o2,o3,hall.o.2.2.2.2.2⟩:DRow w1 _ s ds sv xs) (λ g h1 h2=>⟨by simp at h2;omega,h1⟩)) (o4.mono (Q:=λ g=>w.heap.size+2<=g/\g<w1.heap.size) (λ g h1 h2=>⟨by simp at h2;omega,h1⟩)));obtain⟨sa,sc,rfl⟩:=zf_ o1;obtain⟨rT,rx,rfl⟩:=o4.iface;have R1:=q_ (hf2.blk R0.o (by omega));replace hf2:=q_ hf2;clear o1 o2 o3 o4 hIr)
   have start:H_ (∃ q:Nat,Value.int .i64 0=.int .i64 (q:Int)/\4-q<=4/\RSt w w1 s ds t (.slice sa ds.length sc) (.iface rT rx) xs q ((w1.alloc (.cells #[.slice sa ds.length sc,.iface rT rx] 90)).alloc (.cells #[.func (.func 77) #[] #[],.func (.func 78) #[] #[],.func (.func 79) #[] #[]] 141))):=by
    have hfa:Fr w1 ((w1.alloc (.cells #[.slice sa ds.length sc,.iface rT rx] 90)).alloc (.cells #[.func (.func 77) #[] #[],.func (.func 78) #[] #[],.func (.func 79) #[] #[]] 141)) (λ _=>False):=((Fr.refl w1 _).alloc _).alloc _;refine q_ ⟨0,rfl,by omega,⟨by simp,hw1,((hf1.o.trans hf2.o (λ x hx e=>by omega)).alloc _).alloc _,by omega,⟨hD1.o.1.fr hfa u_,hD1.o.2.fr hfa u_⟩,λ h=>by omega,λ h=>by omega,λ h=>by omega,hfa.blk R1.o id,(Blk.new w1 #[.slice sa ds.length sc,.iface rT rx] 90).alloc _,⟨141,?_⟩,λ h=>by omega⟩⟩;have:=Blk.new (w1.alloc (.cells #[.slice sa ds.length sc,.iface rT rx] 90)) #[.func (.func 77) #[] #[],.func (.func 78) #[] #[],.func (.func 79) #[] #[]] 141
    simpa using this
   clear hC1 hP1 R0 hf1 hf2 hD1 R1 hz1
   go_loopg [27] 4 (λ m v W=>∃ q:Nat,v=.int .i64 (q:Int)/\4-q<=m/\RSt w w1 s ds t (.slice sa ds.length sc) (.iface rT rx) xs q W)
   case atStart=>exact start.o
   case round=>
    clear start;obtain⟨q,rfl,hm,M⟩:=hrel;have hz:=M.z
    have hz':w1.heap.size<wr.heap.size:=by omega
    have hz'':w.heap.size<wr.heap.size:=by omega
    obtain⟨lt,hL⟩:=M.L;have b0:=M.B.c0;have b1:=M.B.c1;obtain⟨l0,l1,l2⟩:=hL.d3;clear hL
    have hq:q=0\/q=1\/q=2\/q=3:=by have:=M.q3;omega
    rcases hq with rfl|rfl|rfl|rfl
    ·have hM:=M.d;have hC:=q_ (zfw hM.1 hM.2 (hE.m.fr M.al id) hall.o.1 hall.o.2.1 (λ g hg=>by omega));have l0:=l0
     cases hF:v9_ ds t with
     | nil=>
      replace hF:=q_ hF;replace M:=q_ M;clear hM
      go_wp2_with (go_at_call 77;refine hC.o.mono ?_;rintro e w3 ⟨v,rfl,hf3,hm⟩;rw[hF.o] at hm;obtain rfl:=hm;have M3:=q_ ((M.o.chk hf3).next0 hF.o);clear hf3)
      go_roundg 3
      case measure=>omega
      case rel=>exact⟨1,rfl,l_,M3.o⟩
     | cons x r=>
      replace hans:=q_ (show zj_ s=(3,(x:Int)) by rw[hans.o];simp only[hF]);replace hF:=q_ hF;replace M:=q_ M;clear hM
      go_wp2_with (go_at_call 77;refine hC.o.mono ?_;rintro e w3 ⟨v,rfl,hf3,hm⟩;rw[hF.o] at hm;obtain⟨g,hg1,rfl,hg2⟩:=hm;have M3:=M.o.chk hf3;have R3:=M3.R;have r0:=R3.c0;have r1:=R3.c1;have g0:=R3.thaw 0;have g1:=R3.thaw 1;replace R3:=q_ R3;replace M3:=q_ M3.al;replace hf3:=q_ hf3;replace hg2:=q_ hg2)
      have S2:=Blk.pair R3.o (.slice none 0 0) .nilIface;have q0:=S2.c0;have q1:=S2.c1;refine bodyPost_ret (v:=.tuple #[.agg #[.slice none 0 0,.nilIface],.iface 210 (.pointer (some ⟨g,0,none⟩))]) (by simp[results,results49,go_sem,q0,q1]) rfl ?_;rw[Q_.o];have h4:=Fr.pair w3 w.heap.size (.slice none 0 0) .nilIface;refine zcq M3.o h4 (by rw[hans.o];simp) ?_;rw[hans.o];exact .inr (.inr (.inr (.inl ⟨rfl,g,by omega,rfl,h4.blk hg2.o (λ e=>by omega)⟩)))
    ·have hM:=M.d;have hnm:=M.n (by omega);have hC:=q_ (zep hM.1 hM.2 (hE.u.fr M.al id) hall.o.2.2.2.1 hall.o.2.2.2.2.1 ⟨hall.o.2.1,hall.o.2.2.1⟩ (λ g hg=>by omega));have l0:=l1
     cases hF:v5_ ds t with
     | nil=>
      replace hF:=q_ hF;replace M:=q_ M;clear hM
      go_wp2_with (go_at_call 78;refine hC.o.mono ?_;rintro e w3 ⟨v,rfl,hf3,hm⟩;rw[hF.o] at hm;obtain rfl:=hm;have M3:=q_ ((M.o.chk hf3).next1 hF.o);clear hf3)
      go_roundg 2
      case measure=>omega
      case rel=>exact⟨2,rfl,l_,M3.o⟩
     | cons x r=>
      replace hans:=q_ (show zj_ s=(4,(x:Int)) by rw[hans.o,hnm];simp only[hF]);replace hF:=q_ hF;replace M:=q_ M;clear hM
      go_wp2_with (go_at_call 78;refine hC.o.mono ?_;rintro e w3 ⟨v,rfl,hf3,hm⟩;rw[hF.o] at hm;obtain⟨g,hg1,rfl,hg2⟩:=hm;have M3:=M.o.chk hf3;have R3:=M3.R;have r0:=R3.c0;have r1:=R3.c1;have g0:=R3.thaw 0;have g1:=R3.thaw 1;replace R3:=q_ R3;replace M3:=q_ M3.al;replace hf3:=q_ hf3;replace hg2:=q_ hg2)
      have S2:=Blk.pair R3.o (.slice none 0 0) .nilIface;have q0:=S2.c0;have q1:=S2.c1;refine bodyPost_ret (v:=.tuple #[.agg #[.slice none 0 0,.nilIface],.iface 210 (.pointer (some ⟨g,0,none⟩))]) (by simp[results,results49,go_sem,q0,q1]) rfl ?_;rw[Q_.o];have h4:=Fr.pair w3 w.heap.size (.slice none 0 0) .nilIface;refine zcq M3.o h4 (by rw[hans.o];simp) ?_;rw[hans.o];exact .inr (.inr (.inr (.inr (.inl ⟨rfl,g,by omega,rfl,h4.blk hg2.o (λ e=>by omega)⟩))))
    ·have hM:=M.d;have hnm:=M.n (by omega);have hun:=M.u (by omega);obtain⟨hg1',hg2'⟩:=hgood.o hnm hun;obtain⟨hbx,hbk⟩:=zqy hM.1 hp.o;have hXs:=q_ (hbx.cells hM.1);have hKp:=q_ (λ w3 (hk:zgy wr w3)=>(show zgw (zrb (blkOf wr (λ g=>w.heap.size+2<=g/\g<w1.heap.size) s ds xs)) w3 ds xs from hXs.o.to hM.1 (λ fv n zs _ ho=>hk _ _ _ _ _ _ (by decide) ho)));have hC:=q_ (zfu (w0:=w) (rT:=rT) (rx:=rx) hM.1 ((y1_.refl w).fr M.al l_ (λ _ f=>f.elim)) M.al.size (λ g hg=>by omega) (λ g hg=>by omega) hE.n hs hall.o.2.2.2.1 hg2' hg1' hI hQ hN hbx hbk);replace hbk:=q_ hbk;clear hbx;have l0:=l2
     cases hF:zda s ds with
     | nil=>
      replace hF:=q_ hF;replace M:=q_ M;clear hM
      go_wp2_with (go_at_call 79;refine hC.o.mono ?_;rintro e w3 ⟨v,rfl,hf3,hm⟩;rw[hF.o] at hm;obtain⟨rfl,hD3,hT3,hFd,hKr⟩:=hm;have M3:=q_ (M.o.next2 hf3 hF.o hD3 hT3 (Dfs.mono (lo:=wr.heap.size) ⟨_,hKp.o w3 hKr,hbk.o,hFd⟩ (by omega) (λ _ h=>h)));clear hf3 hD3 hT3 hFd hKr)
      go_roundg 1
      case measure=>omega
      case rel=>exact⟨3,rfl,l_,M3.o⟩
     | cons x r=>
      replace hans:=q_ (show zj_ s=(5,(x:Int)) by rw[hans.o,hnm,hun];simp only[hF]);replace hF:=q_ hF;replace M:=q_ M;clear hM
      go_wp2_with (go_at_call 79;refine hC.o.mono ?_;rintro e w3 ⟨v,rfl,hf3,hm⟩;rw[hF.o] at hm;obtain⟨ev,⟨g,hg1,rfl,hg2⟩,hEv⟩:=hm;have M3:=M.o.dft hf3;have R3:=M3.2;have r0:=R3.c0;have r1:=R3.c1;have g0:=R3.thaw 0;have g1:=R3.thaw 1;replace R3:=q_ R3;replace M3:=q_ M3.1;replace hf3:=q_ hf3;replace hg2:=q_ hg2;replace hEv:=q_ hEv)
      have S2:=Blk.pair R3.o (.slice none 0 0) .nilIface;have q0:=S2.c0;have q1:=S2.c1;refine bodyPost_ret (v:=.tuple #[.agg #[.slice none 0 0,.nilIface],.iface 210 (.pointer (some ⟨g,0,none⟩))]) (by simp[results,results49,go_sem,q0,q1]) rfl ?_;rw[Q_.o];have h4:=Fr.pair w3 w.heap.size (.slice none 0 0) .nilIface;refine zcq M3.o h4 (by rw[hans.o];simp) ?_;rw[hans.o];exact .inr (.inr (.inr (.inr (.inr ⟨rfl,ev,⟨g,by omega,rfl,h4.blk hg2.o (λ e=>by omega)⟩,(hEv.o.fr h4 (λ g hg e=>by omega)).less (by omega)⟩))))
    ·have r0:=M.R.c0;have r1:=M.R.c1;have g0:=M.R.thaw 0;have g1:=M.R.thaw 1;have S2:=q_ (Blk.pair M.R (.slice sa ds.length sc) (.iface rT rx));replace M:=q_ M
     go_wp2_with fail
     have q0:=S2.o.c0;have q1:=S2.o.c1;refine bodyPost_ret (v:=.tuple #[.agg #[.slice sa ds.length sc,.iface rT rx],.nilIface]) (by simp[results,results49,go_sem,q0,q1]) rfl ?_;rw[Q_.o];have h4:=Fr.pair wr w.heap.size (.slice sa ds.length sc) (.iface rT rx);refine⟨_,_,_,rfl,⟨_,_,_,rfl⟩,.inr ⟨_,_,rfl⟩,M.o.al.trans h4 (λ x hx e=>by omega),.inl ?_,λ _=>?_⟩
     ·rw[hans.o,M.o.n (by omega),M.o.u (by omega),M.o.e (by omega)];exact⟨rfl,rfl,rfl⟩
     ·have up:∀ g,w.heap.size+2<=g/\g<w1.heap.size->¬ g=w.heap.size:=λ g h=>by omega
      have hz4:=h4.size;have hw4:=M.o.z;exact⟨ds,t,xs,hs,hp.o,M.o.n (by omega),M.o.u (by omega),(M.o.d.1.fr h4 up).mono (λ g h1 h2=>⟨by omega,h1⟩),(M.o.d.2.fr h4 up).mono (λ g h1 h2=>⟨by omega,h1⟩),((M.o.f (by omega)).fr M.o.d.1 h4 up (λ g hg e=>by omega)).mono (by omega) (λ g hg=>⟨by omega,by omega⟩)⟩
theorem zj8 {w:World}{s:BA}{E:Errs}(hE:E.At w) (hI:yi_ w) (hQ:yd_ w) (hN:zh2 w) :
 Calls prog 49 #[.string s] w (zur w s E):=by
 refine(zsc hE hI hQ hN).mono ?_;rintro e w' ⟨sv,rv,ev,h1,h2,h3,h4,h5,h6⟩;refine⟨sv,rv,ev,h1,h2,h3,h4,h5,λ h=>?_⟩;obtain⟨ds,t,xs,a1,a2,a3,a4,a5,a6,_⟩:=h6 h;exact⟨ds,t,xs,a1,a2,a3,a4,a5,a6⟩
end Go.Proofs.YthmjjpkjgjklmaaGreatDoor
