import Derived.Test.YtiifagiebikmdaaGreatDoorW40
import Derived.Test.YtiifagiebikmdaaGreatDoorW38
import Derived.Test.YtiifagiebikmdaaGreatDoorW18
import Derived.Test.YtiifagiebikmdaaGreatDoorW42
import Derived.Test.YtiifagiebikmdaaGreatDoorW30
import Derived.Test.YtiifagiebikmdaaGreatDoorW37
import Derived.Test.YtiifagiebikmdaaGreatDoorW12
import Derived.Test.YtiifagiebikmdaaGreatDoorA00
set_option maxHeartbeats 16000000
set_option maxRecDepth 100000
set_option linter.unusedSimpArgs false
open Go.Proofs.Tryz
namespace Go.Proofs.YtiifagiebikmdaaGreatDoor
open Go.RowKit
variable {s bs:BA}{w:World}{A:Nat->Addr}{ds:List PD}{lo:Nat}{t:PT}
def xu_ (s bs:BA):BA×Nat×Int:=
 if (zv_ s).1=0 then
  if 4000<bs.size then (noB,0,1)
  else match z1_ s with
   | .error _=>(noB,0,0)
   | .ok (ds,t)=>match rdB bs (zc_ ds) 301 t 0 0 with
    | .error e0=>(noB,0,(e0:Int))
    | .ok (d,j,_)=>(txT (zc_ ds) d t,j,0)
 else (noB,0,(zv_ s).1)
def zxy (R:Nat->Nat->Except Nat (DT×Nat×Nat)):Prop:=∀ i n e,R i n=.error e->e=6\/e=7
theorem zhc {R:Nat->Nat->Except Nat (DT×Nat×Nat)}(a:zxy R){keyed:Bool}:∀ (c:Nat) (last:Option BA) (i n e:Nat),xk_ R s keyed c last i n=.error e->e=6\/e=7
 | 0,last,i,n,e,h=>by simp[xk_] at h
 | c+1,last,i,n,e,h=>by
  unfold xk_ at h;split at h
  ·cases h;exact .inl rfl
  ·split at h
   ·rename_i he;cases h;exact a _ _ _ he
   ·split at h
    ·rename_i he;cases h;exact zhc a c _ _ _ _ he
    ·cases h
theorem zgb {R:PT->Nat->Nat->Except Nat (DT×Nat×Nat)}(a:∀ t,zxy (R t)):∀ (ts:List PT) (i n e:Nat),yu_ R ts i n=.error e->e=6\/e=7
 | [],i,n,e,h=>by simp[yu_] at h
 | t::r,i,n,e,h=>by
  unfold yu_ at h;split at h
  ·rename_i he;cases h;exact a _ _ _ _ he
  ·split at h
   ·rename_i he;cases h;exact zgb a r _ _ _ he
   ·cases h
theorem zqr (s:BA) (env:Nat->Option PB):∀ (f:Nat) (t:PT),zxy (rdB s env f t):=by
 intro f
 induction f with
 | zero=>intro t i n e h;simp only[rdB] at h;cases h;exact .inr rfl
 | succ f ih=>
  intro t i n e h;unfold rdB at h;split at h
  ·cases h;exact .inr rfl
  ·split at h
   ·unfold j6_ at h;split at h
    ·cases h
    ·split at h
     ·split at h
      ·cases h
      ·cases h;exact .inl rfl
     ·split at h
      ·split at h
       ·cases h;exact .inl rfl
       ·cases h
      ·split at h
       ·split at h
        ·cases h;exact .inl rfl
        ·cases h
       ·split at h
        ·split at h
         ·cases h;exact .inl rfl
         ·cases h
        ·split at h
         ·cases h;exact .inl rfl
         ·unfold xa_ at h;split at h
          ·split at h
           ·rename_i he;cases h;exact zgb ih _ _ _ _ he
           ·cases h
          ·split at h
           ·cases h;exact .inl rfl
           ·cases h
          ·split at h
           ·cases h;exact .inl rfl
           ·cases h
   ·unfold zce at h;split at h
    ·cases h;exact .inl rfl
    ·split at h
     ·rename_i he;cases h;exact zhc (ih _) _ _ _ _ _ he
     ·cases h
   ·unfold v5_ at h;split at h
    ·cases h;exact .inl rfl
    ·split at h
     ·cases h;exact .inl rfl
     ·split at h
      ·rename_i he;cases h;exact ih _ _ _ _ he
      ·cases h
def zp6 (A:Nat->Addr):WErr:=⟨309,.pointer (some (A 4)),309,.pointer (some (A 5))⟩
theorem ErrD.chainOf {a:Addr}{v:Value}(h:ErrD w lo 309 (.pointer (some a)) v):∃ n,v6_ w a n v:=by
 induction h with
 | base=>exact⟨0,.leaf⟩
 | within g hg tx hb h b=>
  obtain⟨n,b⟩:=b;exact⟨n+1,.within g tx _ n hb b⟩
theorem zoa {e0:Nat}{b:Value}(S:vm_ A w) (he:e0=6\/e0=7) (h:ErrD w lo ((zp6 A).t e0) ((zp6 A).x e0) b):zlf w b (e0:Int):=λ W a=>by
 have c:=h.fr a u_
 rcases he with rfl|rfl
 ·obtain⟨n,hc⟩:=ErrD.chainOf c;exact zcx (S.fr a) hc
 ·obtain⟨n,hc⟩:=ErrD.chainOf c;exact zdk (S.fr a) hc
mutual
theorem zbv:∀ t:PT,fewB t->fewT t
 | .leaf _ _,_=>by unfold fewT;trivial
 | .wrap _ _ t,h=>by unfold fewT;unfold fewB at h;exact zbv t h
 | .alts _ l,h=>by unfold fewT;unfold fewB at h;exact⟨h.1,zko l h.2⟩
theorem zko:∀ l:List PT,(∀ t∈l,fewB t)->zmi l
 | [],_=>by unfold zmi;trivial
 | t::r,h=>by unfold zmi;exact⟨zbv t (h t (bz_ ..)),zko r (λ u hu=>h u (List.mem_cons_of_mem _ hu))⟩
end
theorem zw0 (hg:j4_ ds):fewE (zc_ ds):=λ c _ e=>⟨(hg c _ e).1.1,λ g a=>zbv _ ((hg c _ e).1.2.2 g a)⟩
def zu7 (s bs:BA):Prop:=(zv_ s).1=0->bs.size<=4000->∀ ds t d j m,z1_ s=.ok (ds,t)->rdB bs (zc_ ds) 301 t 0 0=.ok (d,j,m)->okD d
def zay (w:World) (s bs:BA) (e:Ending) (w':World):Prop:=∃ ev,e=.returned (.tuple #[.string (xu_ s bs).1,.int .i64 ((xu_ s bs).2.1:Int),ev])/\Fr w w' (λ _=>False)/\zlf w' ev (xu_ s bs).2.2/\zu7 s bs
theorem zut {w1:World}{sv rv:Value}(S:vm_ A w) (m:xr_ w) (p:xs_ w) (b:z1_ s=.ok (ds,t)) (n:SchM w.heap.size w1 s sv rv) (j:Fr w w1 (λ _=>False)) (hd:bs.size<=4000) :
 ∃ d sn e c rx,sv=.slice d sn e/\rv=.iface c rx/\∀ o,Calls prog 36 #[.agg #[sv,rv],.string bs] (w1.alloc o) (zsz (zc_ ds) t (w1.alloc o) (zp6 A) (rdB bs (zc_ ds) 301 t 0 0)):=by
 obtain⟨q,x,xs,hs,k,hn,hu,D,i⟩:=n;rw[b] at k;cases k;obtain⟨h,r,u,l,_⟩:=zln hs b hn hu;obtain⟨d,e,rfl⟩:=zo_ D.row;obtain⟨c,rx,rfl⟩:=i.iface;refine⟨d,_,e,c,rx,rfl,rfl,λ o=>?_⟩;have a:Fr w1 (w1.alloc o) (λ _=>False):=(Fr.refl w1 _).alloc o;have v:=a.size;exact zp3 (w0:=w) (D.fr a u_) (i.fr a u_) ((xd_.refl w).fr (j.trans a u_) l_ (λ _ f=>f.elim)) (by have:=j.size;omega) (λ g hg=>by omega) (S.var 4 (by decide)) (S.var 5 (by decide)) hd l (zbv t (jm_ hs b).2.1) h (zw0 h) m p
open Go.RowKit
theorem zpj (S:vm_ A w) (z:xr_ w) (B:xs_ w) (G:zbl w) (F:je_ w) :
 Calls prog 22 #[.string s,.string bs] w (zay w s bs):=by
 refine hq_ λ a8 E=>?_;have H:=q_ (zqx (s:=s) S.errs z B (zwj G))
 by_cases h0:(zv_ s).1=0
 ·cases n:z1_ s with
  | error k=>
   exfalso
   unfold zv_ at h0;rw[n] at h0;split at h0<;>simp at h0
  | ok r=>
   obtain⟨ds,t⟩:=r
   by_cases hd:4000<bs.size
   ·have i:=q_ (show xu_ s bs=(noB,0,1) by unfold xu_;rw[if_pos h0,if_pos hd]);have a3:=q_ (λ (W:World) (sa sn sc rT rx) (C:Fr w W (λ _=>False))=>zn9 (w:=W) (sa:=sa) (sn:=sn) (sc:=sc) (rT:=rT) (rx:=rx) (s:=bs) ((S.fr C).var 9 (by decide)) hd);replace h0:=q_ h0;replace S:=q_ S;replace n:=q_ n;replace hd:=q_ hd;clear z B G F
    go_in
    go_wp2_with (first
     |(go_at_call 28;refine H.o.mono ?_;rintro e w1 ⟨sv,rv,I,rfl,-,-,a,g,p⟩;obtain⟨_,rfl⟩:=g.zero h0.o;obtain⟨L,U,xs,a6,a5,a4,a7,D,M⟩:=p h0.o;obtain⟨sa,sc,rfl⟩:=zo_ D.row;obtain⟨rT,rx,rfl⟩:=M.iface;replace a:=q_ a;clear g p a6 a5 a4 a7 D M)
     |(go_at_call 36;refine(a3.o _ _ _ _ _ _ (a.o.alloc _)).mono ?_;rintro e V ⟨rfl,m⟩;replace m:=q_ m))
    refine bodyPost_ret (v:=.tuple #[.string noB,.int .i64 0,.iface 309 (.pointer (some (A 9)))]) (by simp[results,results22,go_sem];rfl) rfl ?_;rw[E.o];unfold zay;rw[i.o];have l:=(a.o.alloc _).trans m.o u_;exact⟨_,rfl,l,λ W C=>zcw ((S.o.fr l).fr C) .leaf,λ _ h=>absurd hd.o (by omega)⟩
   ·have N:bs.size<=4000:=by omega
    have P:=q_ (λ w1 sv rv=>zut (w1:=w1) (bs:=bs) (sv:=sv) (rv:=rv) S z B n)
    have i:xu_ s bs=match rdB bs (zc_ ds) 301 t 0 0 with | .error e0=>(noB,0,(e0:Int)) | .ok (d,j,_)=>(txT (zc_ ds) d t,j,0):=by unfold xu_;rw[if_pos h0,if_neg hd,n]<;>rfl
    replace h0:=q_ h0;replace S:=q_ S;clear z B G;replace n:=q_ n
    cases c:rdB bs (zc_ ds) 301 t 0 0 with
    | error e0=>
     rw[c] at i;have he:=q_ (zqr bs (zc_ ds) 301 t 0 0 e0 c);replace i:=q_ i;replace c:=q_ c;clear F
     go_in
     go_wp2_with (first
      |(go_at_call 28;refine H.o.mono ?_;rintro e w1 ⟨sv,rv,I,rfl,-,-,a,g,p⟩;obtain⟨_,rfl⟩:=g.zero h0.o;obtain⟨sa,sn,sc,rT,rx,rfl,rfl,u⟩:=P.o w1 sv rv (p h0.o) a N;replace a:=q_ a;replace u:=q_ u;clear g p)
      |(go_at_call 36;refine(u.o _).mono ?_;rintro e V ⟨v2,Q,Z,rfl,m,b⟩;rw[c.o] at b;obtain⟨rfl,rfl,b⟩:=b;obtain⟨K,X,rfl⟩:=b.iface;replace b:=q_ b;replace m:=q_ m))
     refine bodyPost_ret (v:=.tuple #[.string noB,.int .i64 0,.iface K X]) (by simp[results,results22,go_sem];rfl) rfl ?_;rw[E.o];unfold zay;rw[i.o];have l:=(a.o.alloc _).trans m.o u_;exact⟨_,rfl,l,zoa (S.o.fr l) he.o b.o,λ _ _ L U Y j' m' h1 y=>by rw[n.o] at h1;cases h1;rw[c.o] at y;cases y⟩
    | ok q=>
     obtain⟨d,j,R⟩:=q;have hn:=(zm7 bs (zc_ ds) 301 t 0 0 d j R c).2;have hg:=j0_ bs (zc_ ds) 301 t 0 0 d j R o_ (by omega) c
     have a0:8022*ndT d<=90000000:=by omega
     rw[c] at i;replace i:=q_ i;replace c:=q_ c;replace hn:=q_ hn;replace hg:=q_ hg
     go_in
     go_wp2_with (first
      |(go_at_call 28;refine H.o.mono ?_;rintro e w1 ⟨sv,rv,I,rfl,-,-,a,g,p⟩;obtain⟨_,rfl⟩:=g.zero h0.o;obtain⟨sa,sn,sc,rT,rx,rfl,rfl,u⟩:=P.o w1 sv rv (p h0.o) a N;replace a:=q_ a;replace u:=q_ u;clear g p)
      |(go_at_call 36;refine(u.o _).mono ?_;rintro e V ⟨v2,Q,Z,rfl,m,b⟩;rw[c.o] at b;obtain⟨rfl,rfl,b⟩:=b;have l:=(a.o.alloc _).trans m u_;have a2:=q_ b.dat.ok;have C:=q_ (zot (w0:=w) F b l.size ((xd_.refl w).fr l l_ (λ _ f=>f.elim)) a0);obtain⟨K,X,rfl⟩:=b.iface;replace l:=q_ l;clear b m)
      |(go_at_call 37;refine C.o.mono ?_;rintro e w4 ⟨rfl,J⟩;replace J:=q_ J))
     refine bodyPost_ret (v:=.tuple #[.string (txT (zc_ ds) d t),.int .i64 (Q:Int),.nilIface]) (by simp[results,results22,go_sem]) rfl ?_;rw[E.o];unfold zay;rw[i.o];have O:=l.o.trans J.o u_;exact⟨_,rfl,O,zri (S.o.fr O),λ _ _ L U Y j' m' h1 y=>by rw[n.o] at h1;cases h1;rw[c.o] at y;cases y;exact a2.o⟩
 ·have i:=q_ (show xu_ s bs=(noB,0,(zv_ s).1) by unfold xu_;rw[if_neg h0]);replace h0:=q_ h0;replace S:=q_ S;clear z B G F
  go_in
  go_wp2_with (go_at_call 28;refine H.o.mono ?_;rintro e w1 ⟨sv,rv,I,rfl,⟨sa,sn,sc,rfl⟩,a1,a,g,-⟩;have hk:=q_ (g.numIs (S.o.fr a) h0.o);obtain⟨T,x,rfl,_⟩:=g.num (S.o.fr a) h0.o;replace a:=q_ a;clear g;rcases a1 with rfl|⟨rT,rx,rfl⟩)
  all_goals
   refine bodyPost_ret (v:=.tuple #[.string noB,.int .i64 0,.iface T x]) (by simp[results,results22,go_sem];rfl) rfl ?_;rw[E.o];unfold zay;rw[i.o];exact⟨_,rfl,a.o.alloc _,hk.o.fr ((Fr.refl _ _).alloc _),λ h=>absurd h h0.o⟩
theorem zme (S:vm_ A w) (i:xr_ w) (m:xs_ w) (l:zbl w) (h:je_ w) :
 Calls prog 10 #[.string s,.string bs] w λ e w'=>e=.returned (.tuple #[.string (xu_ s bs).1,.int .i64 ((xu_ s bs).2.1:Int),.int .i64 (xu_ s bs).2.2])/\Fr w w' (λ _=>False)/\zu7 s bs:=by
 refine hq_ λ p g=>?_;have a:=zpj (s:=s) (bs:=bs) S i m l h;unfold zay at a;obtain⟨b,hb⟩:∃ b,(xu_ s bs).1=b:=⟨_,rfl⟩;obtain⟨j,f⟩:∃ j,(xu_ s bs).2.1=j:=⟨_,rfl⟩;obtain⟨n,hn⟩:∃ n,(xu_ s bs).2.2=n:=⟨_,rfl⟩;rw[hb,f,hn] at g;rw[hb,f,hn] at a;replace a:=q_ a;clear S i m l h hb f hn
 go_in
 go_wp2_with (first
  |(go_at_call 22;refine a.o.mono ?_;rintro e w1 ⟨q,rfl,d,k,c⟩;replace d:=q_ d;replace c:=q_ c;have hk:=q_ (k w1 (Fr.refl _ _));clear k)
  |(go_at_call 18;refine hk.o.mono ?_;rintro e r ⟨rfl,rfl⟩))
 refine bodyPost_ret (v:=.tuple #[.string b,.int .i64 (j:Int),.int .i64 n]) (by simp[results,results10,go_sem]) rfl ?_;rw[g.o];exact⟨rfl,d.o,c.o⟩
open Go.RowKit
theorem zyy (h0:(zv_ s).1=0) (f:z1_ s=.ok (ds,t)):fewE (zc_ ds)/\fewT t:=by
 have hs:s.size<=300:=by
  by_cases h:300<s.size
  ·unfold zv_ at h0;rw[if_pos h] at h0;exact absurd h0 (by decide)
  ·omega
 obtain⟨h1,a,_⟩:=jm_ hs f;refine⟨λ c fs e=>?_,zbv t a⟩;unfold zc_ at e;obtain⟨⟨pb,b⟩,hl,rfl⟩:=b4_.1 e;obtain⟨d,hd,hb⟩:=zex hl;have:=h1 d hd;rw[hb] at this;exact⟨this.1,λ g hg=>zbv _ (this.2.2 g hg)⟩
theorem zv6 {w1:World}{zv:Value}(h0:(zv_ s).1=0) (e:z1_ s=.ok (ds,t)) (h:ziu w1 lo s zv) (hd:bs.size<=4000) :
 ∃ (bz root:Nat) (P:Nat->Prop) (ts:List TR),zv=.pointer (some ⟨bz,0,none⟩)/\w1.cell? ⟨bz,31,none⟩=some (.int .i64 (root:Int))/\ZAt w1 P bz ts (zc_ ds)/\isT ts root t/\zhz (zc_ ds)/\okT (zc_ ds) t/\Calls prog 12 #[.pointer (some ⟨bz,0,none⟩),.string bs] w1 (zhh w1 (rdB bs (zc_ ds) 301 t 0 0)):=by
 obtain⟨bz,k,l,ts,root,P1,P2,rfl,f,Z,d,b,c,hP,_⟩:=h;rw[e] at f;cases f
 have hc:w1.cell? ⟨bz,31,none⟩=some (.int .i64 (root:Int)):=by
  obtain⟨tv,zs,a,g,_⟩:=Z.z;rw[a.cell 31];exact g
 obtain⟨i,j⟩:=zyy h0 e;exact⟨bz,root,_,ts,rfl,hc,Z.toZ,d,b,c,zhr Z.toZ hP hd hc d (zy7 b i 301 t 0 0 c j (by omega) o_ (by omega))⟩
theorem zre:noB=⟨#[]⟩:=rfl
theorem zuo (S:vm_ A w) (hI:xr_ w) (hQ:xs_ w) (a4:zbl w) (hA:je_ w) :
 Calls prog 4 #[.string s,.string bs] w λ e w'=>e=.returned (.bool true)/\Fr w w' (λ _=>False):=by
 refine hq_ λ b4 X=>?_;have c:=zme (s:=s) (bs:=bs) S hI hQ a4 hA;have f:∀ w:World,Calls prog 11 #[.string s] w (zbk w s):=λ w=>zt1 (w:=w) (s:=s);unfold zbk at f;obtain⟨p2,a8⟩:∃ a,(zv_ s).2=a:=⟨_,rfl⟩;rw[a8] at f;clear S hI hQ a4 hA a8
 by_cases h0:(zv_ s).1=0
 ·simp only[if_pos h0] at f;rw[h0] at f;replace f:=q_ f
  cases J:z1_ s with
  | error k=>
   exfalso
   unfold zv_ at h0;rw[J] at h0;split at h0<;>simp at h0
  | ok r=>
   obtain⟨ds,t⟩:=r
   have bad:∀ (p:Nat),p≠0->xu_ s bs=(noB,0,(p:Int))->(∀ w1 lo zv,ziu w1 lo s zv->∃ bz,zv=.pointer (some ⟨bz,0,none⟩)/\Calls prog 12 #[.pointer (some ⟨bz,0,none⟩),.string bs] w1 (zhh w1 (.error p)))->Calls prog 4 #[.string s,.string bs] w b4:=by
    intro p b5 g Y;rw[g,zre] at c
    have b8:((p:Int)==0)=false:=by simp;exact b5
    replace c:=q_ c;replace Y:=q_ Y;clear g J h0
    go_in
    go_wp2_with (first
     |(go_at_call 10;refine c.o.mono ?_;rintro e w1 ⟨rfl,l,v⟩;replace l:=q_ l;replace v:=q_ v)
     |(go_at_call 11;refine(f.o _).mono ?_;rintro e O ⟨zv,rfl,m,N⟩;obtain⟨bz,rfl,i⟩:=Y.o O _ zv N;replace m:=q_ m;replace i:=q_ i;clear N)
     |(go_at_call 12;refine i.o.mono ?_;rintro e K ⟨k,n,tx,x,C,c1,y,D,c2,j,er,rfl,B,_,rfl,rfl⟩;replace B:=q_ B;simp only[zb_])
     | go_in)
    rw[X.o];exact⟨rfl,((l.o.trans m.o u_).trans B.o u_).alloc _⟩
   by_cases hd:4000<bs.size
   ·refine bad 1 (by decide) (by unfold xu_;rw[if_pos h0,if_pos hd];rfl) (λ w1 lo zv h=>?_);obtain⟨bz,_,_,_,_,_,_,rfl,-⟩:=h;exact⟨bz,rfl,zgp hd⟩
   ·have a1:bs.size<=4000:=by omega
    have g:xu_ s bs=match rdB bs (zc_ ds) 301 t 0 0 with | .error p=>(noB,0,(p:Int)) | .ok (d,j,_)=>(txT (zc_ ds) d t,j,0):=by unfold xu_;rw[if_pos h0,if_neg hd,J]<;>rfl
    have a9:=q_ (λ w1 lo zv=>zv6 (w1:=w1) (lo:=lo) (bs:=bs) (zv:=zv) h0 J)
    cases u:rdB bs (zc_ ds) 301 t 0 0 with
    | error p=>
     rw[u] at g;have he:=zqr bs (zc_ ds) 301 t 0 0 p u;refine bad p (by omega) g (λ w1 lo zv h=>?_);obtain⟨bz,root,P,ts,rfl,_,_,_,_,_,i⟩:=a9.o w1 lo zv h a1;rw[u] at i;exact⟨bz,rfl,i⟩
    | ok q=>
     obtain⟨d,j,mm⟩:=q;have a2:=zm7 bs (zc_ ds) 301 t 0 0 d j mm u;have hg:=j0_ bs (zc_ ds) 301 t 0 0 d j mm o_ (by omega) u
     have b7:ndT d<=100000:=by omega
     have b9:H_ (zu7 s bs->okD d):=q_ (λ h=>h h0 a1 ds t d j mm J u);rw[u] at g;simp only at g;rw[g] at c;obtain⟨tt,T⟩:∃ b,b=txT (zc_ ds) d t:=⟨_,rfl⟩;rw[<- T] at c;replace c:=q_ c;replace T:=q_ T;replace a2:=q_ a2.1;replace u:=q_ u;have hj:H_ (j<=bs.size):=q_ hg.2.1;clear g J h0 bad hg
     go_in
     go_upto_region 6 with(first
      |(go_at_call 10;refine c.o.mono ?_;rintro e w1 ⟨rfl,l,v⟩;replace l:=q_ l;replace v:=q_ v)
      |(go_at_call 11;refine(f.o _).mono ?_;rintro e O ⟨zv,rfl,m,N⟩;obtain⟨bz,root,P,ts,rfl,R,Z,hT,hE,a0,i⟩:=a9.o O _ zv N a1;rw[u.o] at i;replace m:=q_ m;replace i:=q_ i;replace Z:=q_ Z;replace hT:=q_ hT;replace hE:=q_ hE;replace a0:=q_ a0;replace R:=q_ R;clear N)
      |(go_at_call 12;refine i.o.mono ?_;rintro e K ⟨k,n,tx,x,C,c1,y,D,c2,j',er,rfl,B,b6⟩;obtain⟨rfl,rfl,hV⟩:=b6;replace B:=q_ B;replace hV:=q_ hV;simp only[zb_]))
     change Code.wp _ _ _ _ (K.alloc (.cells #[.int .u8 (k:Int),.int .i64 n,.string tx,.slice x C c1,.slice y D c2] 37));have V:=(Fr.refl K (λ _=>False)).alloc (.cells #[.int .u8 (k:Int),.int .i64 n,.string tx,.slice x C c1,.slice y D c2] 37);have X4:=Blk.new K #[.int .u8 (k:Int),.int .i64 n,.string tx,.slice x C c1,.slice y D c2] 37;have L:=B.o.trans V u_;generalize K.alloc (.cells #[.int .u8 (k:Int),.int .i64 n,.string tx,.slice x C c1,.slice y D c2] 37)=W4 at *;generalize a5:K.heap.size=bx at *
     have U:∀ W,Fr W4 W (λ _=>False)->(W.cell? ⟨bx,0,none⟩=some (.int .u8 (k:Int))/\W.cell? ⟨bx,1,none⟩=some (.int .i64 n)/\W.cell? ⟨bx,2,none⟩=some (.string tx)/\W.cell? ⟨bx,3,none⟩=some (.slice x C c1)/\W.cell? ⟨bx,4,none⟩=some (.slice y D c2)/\W.cell? ⟨bz,31,none⟩=some (.int .i64 (root:Int))):=λ W z=>by
      have M:=z.blk X4 id;have hr:W.cell? ⟨bz,31,none⟩=some (.int .i64 (root:Int)):=(World.cell?_of_block (a:=⟨bz,31,none⟩) ((L.trans z u_).block bz (World.block_lt_of_cell? O ⟨bz,31,none⟩ R.o) id)).trans R.o;exact⟨M.cell 0,M.cell 1,M.cell 2,M.cell 3,M.cell 4,hr⟩
     have z:=zjd hE.o (ndT d) d l_ b7 (b9.o v.o) t a2.o a0.o W4.drew P _ bz ts root ((Z.o.fr L u_).fr ((Fr.refl W4 (λ _=>False)).drew) u_) hT.o k n tx _ _ ((hV.o.fr V u_).fr ((Fr.refl W4 (λ _=>False)).drew) u_);rw[<- T.o] at z;replace z:=q_ z;replace U:=q_ U;replace L:=q_ L;replace a5:=q_ a5;clear V X4
     go_wp2_with fail
     refine z9_ (λ W=>W.cell? ⟨bx,0,none⟩=some (.int .u8 (k:Int))/\W.cell? ⟨bx,1,none⟩=some (.int .i64 n)/\W.cell? ⟨bx,2,none⟩=some (.string tx)/\W.cell? ⟨bx,3,none⟩=some (.slice x C c1)/\W.cell? ⟨bx,4,none⟩=some (.slice y D c2)/\W.cell? ⟨bz,31,none⟩=some (.int .i64 (root:Int))) (by kernel_rfl) ?_;refine tA_ 0 rfl (by kernel_rfl) (λ _ _ _ h=>h) (by rintro W ⟨h1,E,F,G,H,I⟩;go_simp<;>rfl) ?_;refine tA_ 1 rfl (by kernel_rfl) (λ _ _ _ h=>h) (by rintro W ⟨h1,E,F,G,H,I⟩;go_simp<;>rfl) ?_;refine tA_ 2 rfl (by kernel_rfl) (λ _ _ _ h=>h) (by rintro W ⟨h1,E,F,G,H,I⟩;go_simp<;>rfl) ?_;refine tA_ 3 rfl (by kernel_rfl) (λ _ _ _ h=>h) (by rintro W ⟨h1,E,F,G,H,I⟩;go_simp<;>rfl) ?_;refine tA_ 4 rfl (by kernel_rfl) (λ _ _ _ h=>h) (by rintro W ⟨h1,E,F,G,H,I⟩;go_simp<;>rfl) ?_;refine tA_ 5 rfl (by kernel_rfl) (λ _ _ _ h=>h) (by rintro W ⟨h1,E,F,G,H,I⟩;go_simp<;>rfl) ?_;refine zu_ 6 rfl (by kernel_rfl) (U.o _ ((Fr.refl W4 _).drew)) (λ K1 a3=>?_);go_simp;refine z.o.mono ?_;rintro e w5 ⟨rfl,Q⟩;refine a3 _ _ ?_;clear a3 K1;have a6:=U.o _ ((Fr.refl W4 (λ _=>False)).drew.trans Q u_);replace Q:=q_ Q;refine tA_ 7 rfl (by kernel_rfl) (λ _ _ _ h=>h) (by rintro W ⟨h1,E,F,G,H,I⟩;go_simp<;>rfl) ?_;refine z8_ (by kernel_rfl) a6 ?_ _;clear a6
     go_wp2_with go_in
     rw[X.o];exact⟨rfl,((l.o.trans m.o u_).trans L.o u_).trans ((Fr.refl W4 (λ _=>False)).drew.trans Q.o u_) u_⟩
 ·have g:xu_ s bs=(noB,0,(zv_ s).1):=by unfold xu_;rw[if_neg h0]
  simp only[if_neg h0] at f;rw[g,zre] at c;obtain⟨p1,a7⟩:∃ a,(zv_ s).1=a:=⟨_,rfl⟩;rw[a7] at f c h0;replace f:=q_ f;replace c:=q_ c;clear a7 g
  have b8:(p1==0)=false:=by simp;exact h0
  go_in
  go_wp2_with (first
   |(go_at_call 10;refine c.o.mono ?_;rintro e w1 ⟨rfl,l,v⟩;replace l:=q_ l;replace v:=q_ v)
   |(go_at_call 11;refine(f.o _).mono ?_;rintro e O ⟨zv,rfl,m,rfl⟩;replace m:=q_ m)
   | go_in)
  rw[X.o];exact⟨rfl,l.o.trans m.o u_⟩
end Go.Proofs.YtiifagiebikmdaaGreatDoor
