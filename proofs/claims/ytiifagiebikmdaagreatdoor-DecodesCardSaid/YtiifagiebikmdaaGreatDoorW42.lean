import Derived.Test.YtiifagiebikmdaaGreatDoorW41
import Derived.Test.YtiifagiebikmdaaGreatDoorW32
import Derived.Test.YtiifagiebikmdaaGreatDoorW31
import Derived.Test.YtiifagiebikmdaaGreatDoorA00
set_option maxHeartbeats 16000000
set_option maxRecDepth 100000
set_option linter.unusedSimpArgs false
open Go.Proofs.Tryz
namespace Go.Proofs.YtiifagiebikmdaaGreatDoor
open Go.RowKit
variable {w:World}{A:Nat->Addr}{lo:Nat}{ev:Value}{a:Int×Int}
theorem zpc (S:vm_ A w) :
 Calls prog 32 #[.nilIface] w λ e w'=>e=.returned (.bool false)/\w'=w:=by
 have c:=S.var 7 (by decide);have d:=S.var 8 (by decide);have f:=S.var 9 (by decide);unfold ErrV at c d f;have b:=zr3;clear S
 go_in
 go_wp2_with (go_at_call 33;refine(b _ _).mono ?_;rintro e w' ⟨rfl,rfl⟩)
 try go_ret
 exact⟨rfl,rfl⟩
theorem zow (S:vm_ A w) :
 Calls prog 18 #[.nilIface] w λ e w'=>e=.returned (.int .i64 0)/\w'=w:=by
 have d:=S.var 0 (by decide);have f:=S.var 1 (by decide);have g:=S.var 2 (by decide);have h:=S.var 3 (by decide);have i:=S.var 4 (by decide);have j:=S.var 5 (by decide);have k:=S.var 6 (by decide);unfold ErrV at d f g h i j k;have b:=zr3;have c:=q_ (zpc S);clear S
 go_in
 go_wp2_with (first
  |(go_at_call 32;refine c.o.mono ?_;rintro e w' ⟨rfl,rfl⟩)
  |(go_at_call 33;refine(b _ _).mono ?_;rintro e w' ⟨rfl,rfl⟩))
 try go_ret
 exact⟨rfl,rfl⟩
open Go.RowKit
def zf0 (A:Nat->Addr):Errs:=
 ⟨309,.pointer (some (A 7)),309,.pointer (some (A 0)),309,.pointer (some (A 1)),309,.pointer (some (A 2)),309,.pointer (some (A 3))⟩
theorem vm_.errs (S:vm_ A w):(zf0 A).At w:=
 ⟨S.var _ (by decide),S.var _ (by decide),S.var _ (by decide),S.var _ (by decide),S.var _ (by decide)⟩
theorem ErrD.chain {v:Value}(h:ErrD w lo (zf0 A).nt (zf0 A).nx v):∃ n,v6_ w (A 3) n v:=by
 induction h with
 | base=>exact⟨0,.leaf⟩
 | within g hg tx hb h b=>
  obtain⟨n,b⟩:=b;exact⟨n+1,.within g tx _ n hb b⟩
theorem zbn.fr {E:Errs}{w':World}(h:zbn E w lo ev a) (c:Fr w w' (λ _=>False)):zbn E w' lo ev a:=by
 rcases h with h|h|⟨h1,b⟩|⟨h1,b⟩|⟨h1,b⟩|⟨h1,d,b,e⟩
 ·exact .inl h
 ·exact .inr (.inl h)
 ·exact .inr (.inr (.inl ⟨h1,b.fr c u_⟩))
 ·exact .inr (.inr (.inr (.inl ⟨h1,b.fr c u_⟩)))
 ·exact .inr (.inr (.inr (.inr (.inl ⟨h1,b.fr c u_⟩))))
 ·exact .inr (.inr (.inr (.inr (.inr ⟨h1,d,b.fr c u_,e.fr c u_⟩))))
theorem zbn.zero {E:Errs}(h:zbn E w lo ev a) (h0:a.1=0):a.2=0/\ev=.nilIface:=by
 rcases h with⟨_,b,c⟩|⟨h1,_⟩|⟨h1,_⟩|⟨h1,_⟩|⟨h1,_⟩|⟨h1,_⟩
 ·exact⟨b,c⟩
 all_goals (rw[h1] at h0;exact absurd h0 (by decide))
theorem zbn.num (S:vm_ A w) (h:zbn (zf0 A) w lo ev a) (h0:a.1≠0) :
 ∃ T x,ev=.iface T x/\Calls prog 18 #[ev] w λ e w'=>e=.returned (.int .i64 a.1)/\w'=w:=by
 have key:∀ (v:Value) (p:Int) (d:Value),yd_ w lo v p d->∃ T x,v=.iface T x:=λ v p d ⟨g,_,h,_⟩=>⟨_,_,h⟩;have i:∀ (v:Value) (p:Int) (d:Value) (b:Addr) (n:Nat),yd_ w lo v p d->v6_ w b n d->v6_ w b (n+1) v:=λ v p d b n ⟨g,_,h,hb⟩ hc=>h▸.fault g p d n hb hc
 rcases h with⟨h1,_⟩|⟨h1,c,j⟩|⟨h1,c⟩|⟨h1,c⟩|⟨h1,c⟩|⟨h1,d,c,j⟩
 ·exact absurd h1 h0
 ·refine⟨_,_,j,?_⟩;rw[h1,j];exact zbc S .leaf
 ·obtain⟨T,x,f⟩:=key _ _ _ c;refine⟨T,x,f,?_⟩;rw[h1];exact zac S (i _ _ _ _ _ c .leaf)
 ·obtain⟨T,x,f⟩:=key _ _ _ c;refine⟨T,x,f,?_⟩;rw[h1];exact zbb S (i _ _ _ _ _ c .leaf)
 ·obtain⟨T,x,f⟩:=key _ _ _ c;refine⟨T,x,f,?_⟩;rw[h1];exact za2 S (i _ _ _ _ _ c .leaf)
 ·obtain⟨T,x,f⟩:=key _ _ _ c;obtain⟨n,hc⟩:=j.chain;refine⟨T,x,f,?_⟩;rw[h1];exact vi_ S (i _ _ _ _ _ c hc)
open Go.RowKit
mutual
theorem zio:∀ t:PT,fewB t->brT false t
 | .leaf _ _,_=>by unfold brT;trivial
 | .wrap _ _ t,h=>by unfold brT;unfold fewB at h;exact zio t h
 | .alts _ l,h=>by unfold brT;unfold fewB at h;exact⟨.inr h.1,znu l h.2⟩
theorem znu:∀ l:List PT,(∀ t∈l,fewB t)->brTs false l
 | [],_=>by unfold brTs;trivial
 | t::r,h=>by unfold brTs;exact⟨zio t (h t (bz_ ..)),znu r (λ u hu=>h u (List.mem_cons_of_mem _ hu))⟩
end
theorem zln {s:BA}(hs:s.size<=300){ds:List PD}{t:PT}(h:z1_ s=.ok (ds,t)) (hn:j3_ ds t=[]) (hu:ji_ ds t=[]):j4_ ds/\brE false ds/\brT false t/\okT (zc_ ds) t/\zhz (zc_ ds):=by
 obtain⟨b,d,_,_,_⟩:=zao h;rw[hn] at b;rw[hu] at d
 have l:wrU (zc_ ds) (accU ds++zr_ t) (accW [] ds (-1))<0:=by rw[b];decide
 have k:mix t (accM ds (-1))<0:=by rw[d];decide
 obtain⟨g,i,_,_⟩:=zff hs h l k;have hg:=(zfg hs h hn hu).1;refine⟨hg,λ c fs e f j=>zio _ ((hg c _ e).1.2.2 f j),zio t (jm_ hs h).2.1,i,g⟩
def zlf (w:World) (ev:Value) (n:Int):Prop:=∀ W,Fr w W (λ _=>False)->Calls prog 18 #[ev] W λ e w'=>e=.returned (.int .i64 n)/\w'=W
theorem zlf.fr {W:World}{n:Int}(h:zlf w ev n) (c:Fr w W (λ _=>False)):zlf W ev n:=λ V b=>h V (c.trans b u_)
theorem zbn.numIs (S:vm_ A w) (h:zbn (zf0 A) w lo ev a) (h0:a.1≠0):zlf w ev a.1:=λ W b=>by
 obtain⟨_,_,_,h⟩:=(h.fr b).num (S.fr b) h0;exact h
theorem ErrD.numIs (S:vm_ A w) (h:ErrD w lo (zf0 A).nt (zf0 A).nx ev):zlf w ev 5:=λ W b=>by
 obtain⟨n,hc⟩:=(h.fr b u_).chain;exact vi_ (S.fr b) hc
theorem zri (S:vm_ A w):zlf w .nilIface 0:=λ _ b=>zow (S.fr b)
end Go.Proofs.YtiifagiebikmdaaGreatDoor
