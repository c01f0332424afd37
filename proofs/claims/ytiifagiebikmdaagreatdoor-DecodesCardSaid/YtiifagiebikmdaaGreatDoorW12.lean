import Derived.Test.YtiifagiebikmdaaGreatDoorW11
import Derived.Test.YtiifagiebikmdaaGreatDoorW05
import Derived.Deep.DeepCutAuto
import Derived.Test.YtiifagiebikmdaaGreatDoorA00
set_option maxHeartbeats 16000000
set_option maxRecDepth 100000
set_option linter.unusedSimpArgs false
open Go.Proofs.Tryz
namespace Go.Proofs.YtiifagiebikmdaaGreatDoor
open Go.RowKit
variable {ds:List PD}{fs:List PF}{q b q0 j:Nat}{tv x:Value}{f:PF}{pb:PB}{us:List (Nat×Nat)}{m:Int}
def fsOf (env:Nat->Option PB) (k:Nat):List PF:=match env (65+k) with|some (.recd fs)=>fs|_=>[]
def zu6:Nat->Value->Prop
 | 5,v=>∃ a,v=.int .u8 a
 | 6,v=>∃ a,v=.int .i64 a
 | 7,v=>∃ a,v=.string a
 | 8,v=>∃ a m c,v=.slice a m c
 | 9,v=>∃ a m c,v=.slice a m c
 | _,_=>False
def dfTx (s:BA) (f:PF):BA:=match f.dflt with|none=>⟨#[]⟩|some (a,b)=>s.extract a b
def dfAt (f:PF):Nat:=(f.dflt.map Prod.fst).getD 0
def FRow (s:BA) (ts:List TR) (fs:List PF) (xs:List Value):Prop:=
 ∀ q f,fs[q]?=some f->(∃ num:Nat,isT ts num f.ty/\xs[10*q+1]?=some (.int .i64 (num:Int)))/\xs[10*q]?=some (.int .u8 (f.letter:Int))/\xs[10*q+2]?=some (.bool f.dflt.isSome)/\xs[10*q+3]?=some (.int .i64 (dfAt f:Int))/\xs[10*q+4]?=some (.string (dfTx s f))/\
  ∀ p,5<=p->p<10->∃ v,xs[10*q+p]?=some v/\zu6 p v
def zzn (pb:Option PB) (so:Int) (sb:BA) (n:Int):Prop:=
 match pb with
 | none=>True
 | some (.recd _)=>so=114
 | some (.enum l _)=>so=101/\sb.data.toList.map UInt8.toNat=l.map Prod.fst
 | some (.bytes k)=>so=102/\n=(k:Int)
structure SZ (W:World) (P1 P2:Nat->Prop) (bz:Nat) (s:BA) (ts:List TR) (env:Nat->Option PB) (rt:Value):Prop where
 dis:∀ g,P2 g->¬ P1 g
 zP:P1 bz
 z:∃ tv zs,Blk W bz (tv::zs) 47/\zs[30]?=some rt/\zlb W P1 tv ts/\
  ∀ k,k<6->∃ (so:Int) (fv:Value) (sb:BA) (o n:Int) (xs:List Value),(∀ p,p<5->zs[5*k+p]?=[Value.int .u8 so,fv,Value.string sb,Value.int .i64 o,Value.int .i64 n][p]?)/\
   W.ownsRow 0 80 10 fv (fsOf env k).length xs/\(∀ g,fv.ownBlock=some g->P2 g)/\FRow s ts (fsOf env k) xs/\zzn (env (65+k)) so sb n
section
variable {W W':World} {P1 P2:Nat->Prop} {bz:Nat} {s:BA} {ts:List TR} {env:Nat->Option PB} {rt:Value}
theorem SZ.fr {S:Nat->Prop}(h:SZ W P1 P2 bz s ts env rt) (d:Fr W W' S) (h1:∀ g,P1 g->¬ S g) (l:∀ g,P2 g->¬ S g):SZ W' P1 P2 bz s ts env rt:=by
 refine⟨h.dis,h.zP,?_⟩;obtain⟨tv,zs,a,i,b,c⟩:=h.z;refine⟨tv,zs,d.blk a (h1 _ h.zP),i,b.fr d h1,λ k hk=>?_⟩;obtain⟨so,fv,sb,o,n,xs,c1,c2,c3,c4,c5⟩:=c k hk;exact⟨so,fv,sb,o,n,xs,c1,za_ c2 d (λ g e=>l g (c3 g e)),c3,c4,c5⟩
theorem zlb.mono {P Q:Nat->Prop}(h:zlb W P tv ts) (d:∀ g,P g->Q g):zlb W Q tv ts:=by
 obtain⟨xs,a,b,c⟩:=h;refine⟨xs,a,λ g e=>d g (b g e),λ k t i=>?_⟩;obtain⟨sv,c1,c2,c3,c4⟩:=c k t i;exact⟨sv,c1,c2,c3,λ g e=>d g (c4 g e)⟩
theorem SZ.toZ (h:SZ W P1 P2 bz s ts env rt):ZAt W (λ g=>P1 g\/P2 g) bz ts env:=by
 refine⟨.inl h.zP,?_⟩;obtain⟨tv,zs,a,t,b,c⟩:=h.z;refine⟨tv,zs,a,b.mono (λ g hg=>.inl hg),λ k hk pb d=>?_⟩;obtain⟨so,fv,sb,o,n,xs,c1,c2,c3,c4,c5⟩:=c k hk;refine⟨so,fv,sb,o,n,c1,zn_ c2,λ g e=>.inr (c3 g e),?_⟩;rw[d] at c5
 cases pb with
 | recd fs=>
  have e:fsOf env k=fs:=by unfold fsOf;rw[d]
  rw[e] at c2 c4;refine⟨c5,xs,c2,λ q f r=>?_⟩;obtain⟨⟨num,i,p⟩,_⟩:=c4 q f r;exact⟨num,p,i⟩
 | enum l u=>exact c5
 | bytes m=>exact c5
theorem zv5 {e:TypeId}{v:Value}{n:Nat}{xs:List Value}(h:W.ownsRow 0 e 10 v n xs) (g o:Nat) (x:Value):∃ ys,(W.setCell ⟨g,o,none⟩ x).ownsRow 0 e 10 v n ys/\ys.length=xs.length/\∀ i,(i≠o->ys[i]?=xs[i]?)/\(i=o->ys[i]?=xs[i]?\/(i<xs.length/\ys[i]?=some x)):=by
 by_cases hg:v.ownBlock=some g
 ·rcases h.2 with⟨rfl,_⟩|⟨g',c,d,rfl,hb,r,h1,k,l,p⟩
  ·simp[Value.ownBlock] at hg
  ·simp only[Value.ownBlock,ag_] at hg;subst hg;refine⟨xs.set o x,⟨by rw[List.length_set];exact h.1,.inr ⟨g',c,d.setIfInBounds o x,rfl,hb,?_,h1,k,by rw[Array.size_setIfInBounds];exact l,?_⟩⟩,List.length_set,λ i=>⟨λ a=>by_ (Ne.symm a),λ a=>?_⟩⟩
   ·simp[World.setCell,Array.getElem?_modify,r]
   ·rw[Array.toList_setIfInBounds,List.take_set,p]
   ·subst a
    by_cases hl:i<xs.length
    ·exact .inr ⟨hl,by rw[List.getElem?_set_self hl]⟩
    ·left
     rw[bn_ (by rw[List.length_set];omega),bn_ (by omega)]
 ·refine⟨xs,za_ h ((Fr.refl W (λ b=>b=g)).setCell ⟨g,o,none⟩ x (λ _=>rfl)) (λ b hb e=>hg (e▸hb)),rfl,λ i=>⟨λ _=>rfl,λ _=>.inl rfl⟩⟩
theorem FRow.set {xs ys:List Value}{a:Nat}(h:FRow s ts fs xs) (z:5<=a/\a<10) (y:zu6 a x) (h1:∀ i,(i≠10*q0+a->ys[i]?=xs[i]?)/\(i=10*q0+a->ys[i]?=xs[i]?\/(i<xs.length/\ys[i]?=some x))):FRow s ts fs ys:=by
 intro q f r;obtain⟨⟨num,d,g⟩,c,k,l,n,o⟩:=h q f r;refine⟨⟨num,d,by rw[(h1 _).1 (by omega)];exact g⟩,by rw[(h1 _).1 (by omega)];exact c,by rw[(h1 _).1 (by omega)];exact k,by rw[(h1 _).1 (by omega)];exact l,by rw[(h1 _).1 (by omega)];exact n,λ p t u=>?_⟩;obtain⟨v,b1,b2⟩:=o p t u
 by_cases he:10*q+p=10*q0+a
 ·rcases(h1 _).2 he with e|⟨_,e⟩
  ·exact⟨v,by rw[e];exact b1,b2⟩
  ·have:p=a:=by omega
   subst this;exact⟨x,e,y⟩
 ·exact⟨v,by rw[(h1 _).1 he];exact b1,b2⟩
theorem SZ.store (h:SZ W P1 P2 bz s ts env rt){g d:Nat}(hg:P2 g) (t:5<=d/\d<10) (u:zu6 d x):SZ (W.setCell ⟨g,10*q0+d,none⟩ x) P1 P2 bz s ts env rt:=by
 refine⟨h.dis,h.zP,?_⟩;have i:Fr W (W.setCell ⟨g,10*q0+d,none⟩ x) (λ b=>b=g):=(Fr.refl W (λ b=>b=g)).setCell ⟨g,10*q0+d,none⟩ x (λ _=>rfl);have hn:∀ b,P1 b->¬ b=g:=λ b hb e=>h.dis g hg (e▸hb);obtain⟨tv,zs,a,l,b,c⟩:=h.z;refine⟨tv,zs,i.blk a (hn _ h.zP),l,b.fr i hn,λ k hk=>?_⟩;obtain⟨so,fv,sb,o,n,xs,c1,c2,c3,c4,c5⟩:=c k hk;obtain⟨ys,p,_,r⟩:=zv5 c2 g (10*q0+d) x;exact⟨so,fv,sb,o,n,ys,c1,p,c3,c4.set t u r,c5⟩
theorem SZ.fields (h:SZ W P1 P2 bz s ts env rt){k:Nat}(hk:k<6):∃ l r,W.cell? ⟨bz,1+k*5+1,none⟩=some (.slice l (fsOf env k).length r)/\
 ∀ q f,(fsOf env k)[q]?=some f->∃ g num a b tx p K c1 e L c2,l=some ⟨g,0,none⟩/\P2 g/\isT ts num f.ty/\
  W.cell? ⟨g,q*10,none⟩=some (.int .u8 (f.letter:Int))/\W.cell? ⟨g,q*10+1,none⟩=some (.int .i64 (num:Int))/\W.cell? ⟨g,q*10+2,none⟩=some (.bool f.dflt.isSome)/\W.cell? ⟨g,q*10+3,none⟩=some (.int .i64 (dfAt f:Int))/\W.cell? ⟨g,q*10+4,none⟩=some (.string (dfTx s f))/\
  W.cell? ⟨g,q*10+5,none⟩=some (.int .u8 a)/\W.cell? ⟨g,q*10+6,none⟩=some (.int .i64 b)/\W.cell? ⟨g,q*10+7,none⟩=some (.string tx)/\W.cell? ⟨g,q*10+8,none⟩=some (.slice p K c1)/\W.cell? ⟨g,q*10+9,none⟩=some (.slice e L c2)/\∀ o,W.frozen? ⟨g,o,none⟩=false:=by
 obtain⟨tv,zs,a,_,b,c⟩:=h.z;obtain⟨so,fv,sb,o,n,xs,c1,c2,c3,c4,c5⟩:=c k hk;obtain⟨l,r,rfl⟩:=zo_ c2;refine⟨l,r,?_,λ q f A=>?_⟩
 ·rw[a.cell,show 1+k*5+1=(5*k+1)+1 by omega,ab_];exact c1 1 (by omega)
 ·have I:0<(fsOf env k).length:=by have:=(as_.1 A).1;omega
  obtain⟨g,V,B⟩:=zh_ c2 I;simp only[Value.slice.injEq,true_and] at B;obtain⟨rfl,rfl⟩:=B;obtain⟨⟨num,p,e⟩,t,u,v,y,d⟩:=c4 q f A;obtain⟨_,C,⟨M,rfl⟩⟩:=d 5 (by omega) (by omega);obtain⟨_,D,⟨N,rfl⟩⟩:=d 6 (by omega) (by omega);obtain⟨_,E,⟨O,rfl⟩⟩:=d 7 (by omega) (by omega);obtain⟨_,F,⟨P,Q,R,rfl⟩⟩:=d 8 (by omega) (by omega);obtain⟨_,G,⟨S,T,U,rfl⟩⟩:=d 9 (by omega) (by omega);have cell:=λ {i:Nat} {x:Value} (hx:xs[i]?=some x)=>zp_ c2 rfl hx;rw[a2_] at t e u v y C D E F G;refine⟨g,num,M,N,O,P,Q,R,S,T,U,rfl,c3 g rfl,p,cell t,cell e,cell u,cell v,cell y,cell C,cell D,cell E,cell F,cell G,λ o=>?_⟩
  rcases c2.2 with⟨hn,_⟩|⟨g',X,Y,J,_,H,_⟩
  ·cases hn
  ·cases J
   simp[World.frozen?,H]
end
def dflF (s:BA) (env:Nat->Option PB) (fs:List PF) (m:Int):Int:=
 fs.foldl (λ m f=>match f.dflt with|none=>m|some (a,b)=>if (vp_ env true f.ty (s.extract a b)).isSome=true then m else zz_ (a:Int) m) m
def xj_ (s:BA) (env:Nat->Option PB):Nat->Int
 | 0=>-1
 | k+1=>dflF s env (fsOf env k) (xj_ s env k)
open Go.RowKit
def zph (s:BA) (env:Nat->Option PB) (m:Int) (f:PF):Int:=
 match f.dflt with|none=>m|some (a,b)=>if (vp_ env true f.ty (s.extract a b)).isSome=true then m else zz_ (a:Int) m
theorem zr8 {s:BA}{env:Nat->Option PB}(h:fs[q]?=some f) (m:Int):dflF s env (fs.take (q+1)) m=zph s env (dflF s env (fs.take q) m) f:=by
 rw[bi_,h];unfold dflF;rw[List.foldl_append]
 rfl
structure zax (w:World) (P1 P2:Nat->Prop) (bz:Nat) (s:BA) (ts:List TR) (env:Nat->Option PB) (rt:Value) (W:World):Prop where
 Z:SZ W P1 P2 bz s ts env rt
 fr:Fr w W P2
 l1:∀ g,P1 g->g<w.heap.size
 l2:∀ g,P2 g->g<w.heap.size
section
variable {w W W':World} {P1 P2:Nat->Prop} {bz:Nat} {s:BA} {ts:List TR} {env:Nat->Option PB} {rt:Value}
theorem zax.own (M:zax w P1 P2 bz s ts env rt W) (a:Fr W W' (λ g=>w.heap.size<=g)):zax w P1 P2 bz s ts env rt W':=
 ⟨M.Z.fr a (λ g hg=>by have:=M.l1 g hg;omega) (λ g hg=>by have:=M.l2 g hg;omega),M.fr.trans a (λ x c e=>absurd e (by omega)),M.l1,M.l2⟩
theorem zax.alloc (M:zax w P1 P2 bz s ts env rt W) (o:Obj):zax w P1 P2 bz s ts env rt (W.alloc o):=M.own ((Fr.refl W _).alloc o)
theorem zax.store (M:zax w P1 P2 bz s ts env rt W){g:Nat}(a:Nat)(hg:P2 g) (c:5<=a/\a<10) (d:zu6 a x):zax w P1 P2 bz s ts env rt (W.setCell ⟨g,q0*10+a,none⟩ x):=by
 rw[a2_];exact⟨M.Z.store hg c d,M.fr.setCell _ _ (λ _=>hg),M.l1,M.l2⟩
end
theorem zf3 {w:World}{P1 P2:Nat->Prop}{bz:Nat}{s:BA}{ts:List TR}{env:Nat->Option PB}{rt:Value}(M:zax w P1 P2 bz s ts env rt w) (hs:s.size<=300) (hE:zhz env) (a5:∀ k,k<6->(fsOf env k).length<=300) (a7:∀ k f,k<6->f∈fsOf env k->okT env f.ty) :
 Calls prog 25 #[.pointer (some ⟨bz,0,none⟩)] w λ e w'=>e=.returned (.int .i64 (xj_ s env 6))/\zax w P1 P2 bz s ts env rt w':=by
 refine hq_ λ f4 Q_=>?_;replace hE:=q_ hE;replace a5:=q_ a5;replace a7:=q_ a7;have b7:=q_ (⟨0,by omega,by omega,rfl,rfl,M⟩:∃ k:Nat,k<=6/\7-k<=7/\Value.int .i64 0=.int .i64 (k:Int)/\Value.int .i64 (-1)=.int .i64 (xj_ s env k)/\zax w P1 P2 bz s ts env rt w);clear M
 go_in
 go_wp2_with fail
 go_loopg [3,4] 7 (λ mm v3 v4 W=>∃ k:Nat,k<=6/\7-k<=mm/\v4=.int .i64 (k:Int)/\v3=.int .i64 (xj_ s env k)/\zax w P1 P2 bz s ts env rt W)
 case atStart=>exact b7.o
 case round=>
  clear b7;obtain⟨k,hk,f7,rfl,rfl,M⟩:=hrel
  by_cases a4:k<6
  ·have d7:(k:Int)<6:=by omega
   have f6:=a5.o k a4;have b8:=q_ (⟨0,by omega,by omega,rfl,rfl,M⟩:∃ q:Nat,q<=(fsOf env k).length/\(fsOf env k).length+1-q<=(fsOf env k).length+1/\Value.int .i64 0=.int .i64 (q:Int)/\Value.int .i64 (xj_ s env k)=.int .i64 (dflF s env ((fsOf env k).take q) (xj_ s env k))/\zax w P1 P2 bz s ts env rt wr);clear M
   go_wp2_with fail
   go_loopg [3,5] ((fsOf env k).length+1) (λ mm v3 v5 W=>∃ q:Nat,q<=(fsOf env k).length/\(fsOf env k).length+1-q<=mm/\v5=.int .i64 (q:Int)/\v3=.int .i64 (dflF s env ((fsOf env k).take q) (xj_ s env k))/\zax w P1 P2 bz s ts env rt W)
   case atStart=>exact b8.o
   case round=>
    clear b8;obtain⟨q,hq,f8,rfl,rfl,M⟩:=hrel;obtain⟨fa,fc,b5,a2⟩:=M.Z.fields a4
    by_cases f0:q<(fsOf env k).length
    ·have f1:(q:Int)<((fsOf env k).length:Int):=by omega
     obtain⟨f,Q⟩:∃ f,(fsOf env k)[q]?=some f:=⟨_,an_ f0⟩;have d2:=q_ (a7.o k f a4 (aw_ Q));have I:=q_ (zr8 (s:=s) (env:=env) Q (xj_ s env k));obtain⟨g,num,xa,xb,xt,y1,y2,y3,y4,y5,y6,rfl,hg,a3,e0,e1,e2,e3,e4,e5,e6,e7,e8,e9,a8⟩:=a2 q f Q;obtain⟨m,O⟩:∃ m,dflF s env ((fsOf env k).take q) (xj_ s env k)=m:=⟨_,rfl⟩;rw[O] at I⊢;have f5:=zk_ b5;have d0:=zk_ e0;clear a2 Q;replace O:=q_ O;replace M:=q_ M;replace hg:=q_ hg;replace a3:=q_ a3;replace a8:=q_ a8
     cases c:f.dflt with
     | none=>
      simp only[c,Option.isSome_none] at e2;replace c:=q_ c
      go_wp2_with fail
      go_roundg ((fsOf env k).length+1-(q+1))
      case measure=>omega
      case rel=>exact⟨q+1,by omega,l_,by simp,by rw[I.o];unfold zph;rw[c.o],M.o.alloc _⟩
     | some ab=>
      obtain⟨a,b⟩:=ab;simp only[c,Option.isSome_some] at e2;rw[show dfAt f=a by simp[dfAt,c]] at e3;rw[show dfTx s f=s.extract a b by simp[dfTx,c]] at e4;obtain⟨tx,E⟩:∃ t,t=s.extract a b:=⟨_,rfl⟩;rw[<- E] at e4
      have f2:tx.size<=4000:=by rw[E,bb_];omega
      obtain⟨a9,F⟩:∃ a9,vp_ env true f.ty tx=a9:=⟨_,rfl⟩;replace E:=q_ E;replace F:=q_ F;replace c:=q_ c;obtain⟨b6,a6⟩:∃ x,x=(f.letter:Int):=⟨_,rfl⟩;rw[<- a6] at e0;replace a6:=q_ a6
      go_wp2_with (go_at_call 19;refine(zv9 (M.o.alloc _).Z.toZ (λ x P=>by have h1:=M.o.fr.size;rcases P with P|P;have:=M.o.l1 x P;simp;omega;have:=M.o.l2 x P;simp;omega) f2 a3.o (zsf hE.o d2.o)).mono ?_;intro e L hP;rw[F.o] at hP;obtain⟨l,n,p,d,r,c1,i,u,c2,rfl,N,_⟩:=hP;have M2:=q_ ((M.o.alloc (.cells #[.int .u8 b6,.int .i64 (num:Int),.bool true,.int .i64 (a:Int),.string tx,.int .u8 xa,.int .i64 xb,.string xt,.slice y1 y2 y3,.slice y4 y5 y6] 80)).own (N.mono v_));have Bf:=q_ (N.blk (Blk.new wr #[.int .u8 b6,.int .i64 (num:Int),.bool true,.int .i64 (a:Int),.string tx,.int .u8 xa,.int .i64 xb,.string xt,.slice y1 y2 y3,.slice y4 y5 y6] 80) id);replace N:=q_ N)
      change Code.wp _ _ _ _ (L.alloc (.cells #[.int .u8 (l:Int),.int .i64 n,.string p,.slice d r c1,.slice i u c2] 37));have M3:=M2.o.alloc (.cells #[.int .u8 (l:Int),.int .i64 n,.string p,.slice d r c1,.slice i u c2] 37);have X3:=Blk.new L #[.int .u8 (l:Int),.int .i64 n,.string p,.slice d r c1,.slice i u c2] 37;have a0:=Bf.o.alloc (.cells #[.int .u8 (l:Int),.int .i64 n,.string p,.slice d r c1,.slice i u c2] 37);have R:Fr wr (L.alloc (.cells #[.int .u8 (l:Int),.int .i64 n,.string p,.slice d r c1,.slice i u c2] 37)) (λ _=>False):=(((Fr.refl wr (λ _=>False)).alloc _).trans N.o u_).alloc _;have d1:=Bf.o.lt;have f9:wr.heap.size<L.heap.size:=d1;generalize L.alloc (.cells #[.int .u8 (l:Int),.int .i64 n,.string p,.slice d r c1,.slice i u c2] 37)=W3 at *;generalize L.heap.size=bx at *;have G:=λ (b o:Nat) (v:Value) (h:wr.cell? ⟨b,o,none⟩=some v)=>(World.cell?_of_block (a:=⟨b,o,none⟩) (R.block b (zk_ h) id)).trans h;have J:=λ (o:Nat)=>(World.frozen?_of_block (a:=⟨g,o,none⟩) (R.block g d0 id)).trans (a8.o o);have T:=G _ _ _ b5;have w5:=G _ _ _ e5;have w6:=G _ (q*10+5+1) _ e6;have w7:=G _ (q*10+5+2) _ e7;have w8:=G _ (q*10+5+3) _ e8;have w9:=G _ (q*10+5+4) _ e9;have z5:=J (q*10+5);have z6:=J (q*10+5+1);have z7:=J (q*10+5+2);have z8:=J (q*10+5+3);have z9:=J (q*10+5+4);obtain⟨U,V,X,Y,x4⟩:=X3.d5;replace M3:=q_ M3;replace X3:=q_ X3;replace a0:=q_ a0;replace R:=q_ R;clear G J;refine zx_ 11 (λ W=>W.cell? ⟨bz,1+k*5+1,none⟩=some (.slice (some ⟨g,0,none⟩) (fsOf env k).length fc)/\W.cell? ⟨bx,0,none⟩=some (.int .u8 (l:Int))/\W.cell? ⟨bx,1,none⟩=some (.int .i64 n)/\W.cell? ⟨bx,2,none⟩=some (.string p)/\W.cell? ⟨bx,3,none⟩=some (.slice d r c1)/\W.cell? ⟨bx,4,none⟩=some (.slice i u c2)) (by kernel_rfl) ?_;refine ta_ 0 rfl (by kernel_rfl) (λ _ _ _ h=>h) (by rintro W ⟨h1,y,z,A,B,C⟩;go_simp<;>rfl) ?_;refine ta_ 1 rfl (by kernel_rfl) (λ _ _ _ h=>h) (by rintro W ⟨h1,y,z,A,B,C⟩;go_simp<;>rfl) ?_;refine ta_ 2 rfl (by kernel_rfl) (λ _ _ _ h=>h) (by rintro W ⟨h1,y,z,A,B,C⟩;go_simp<;>rfl) ?_;refine ta_ 3 rfl (by kernel_rfl) (λ _ _ _ h=>h) (by rintro W ⟨h1,y,z,A,B,C⟩;go_simp<;>rfl) ?_;refine ta_ 4 rfl (by kernel_rfl) (λ _ _ _ h=>h) (by rintro W ⟨h1,y,z,A,B,C⟩;go_simp<;>rfl) ?_;refine ta_ 5 rfl (by kernel_rfl) (λ _ _ _ h=>h) (by rintro W ⟨h1,y,z,A,B,C⟩;go_simp<;>rfl) ?_;refine ta_ 6 rfl (by kernel_rfl) (λ _ _ _ h=>h) (by rintro W ⟨h1,y,z,A,B,C⟩;go_simp<;>rfl) ?_;refine ta_ 7 rfl (by kernel_rfl) (λ _ _ _ h=>h) (by rintro W ⟨h1,y,z,A,B,C⟩;go_simp<;>rfl) ?_;refine ta_ 8 rfl (by kernel_rfl) (λ _ _ _ h=>h) (by rintro W ⟨h1,y,z,A,B,C⟩;go_simp<;>rfl) ?_;refine ze_ 9 rfl (by kernel_rfl) (λ _=>⟨T,U,V,X,Y,x4⟩) (λ K D=>?_);go_simp;refine D _ _ ?_;clear D K;refine ze_ 10 rfl (by kernel_rfl) (λ _=>⟨T,U,V,X,Y,x4⟩) (λ K D=>?_);go_simp;refine D _ _ ?_;clear D K;refine ze_ 11 rfl (by kernel_rfl) (λ _=>⟨T,U,V,X,Y,x4⟩) (λ K D=>?_);go_simp;refine D _ _ ?_;clear D K;refine zq_ (by kernel_rfl) (λ O=>absurd O (by decide)) ?_ _;have M4:zax w P1 P2 bz s ts env rt (World.setCell (World.setCell (World.setCell (World.setCell (World.setCell W3 ⟨g,q*10+5,none⟩ (.int .u8 (l:Int))) ⟨g,q*10+5+1,none⟩ (.int .i64 n)) ⟨g,q*10+5+2,none⟩ (.string p)) ⟨g,q*10+5+3,none⟩ (.slice d r c1)) ⟨g,q*10+5+4,none⟩ (.slice i u c2)):=((((M3.o.store (q0:=q) 5 hg.o (by omega) ⟨_,rfl⟩).store (q0:=q) 6 hg.o (by omega) ⟨_,rfl⟩).store (q0:=q) 7 hg.o (by omega) ⟨_,rfl⟩).store (q0:=q) 8 hg.o (by omega) ⟨_,_,_,rfl⟩).store (q0:=q) 9 hg.o (by omega) ⟨_,_,_,rfl⟩;have H:zax w P1 P2 bz s ts env rt (World.setCell (World.setCell (World.setCell (World.setCell (World.setCell W3 ⟨g,q*10+5,none⟩ (.int .u8 (l:Int))) ⟨g,q*10+5+1,none⟩ (.int .i64 n)) ⟨g,q*10+5+2,none⟩ (.string p)) ⟨g,q*10+5+3,none⟩ (.slice d r c1)) ⟨g,q*10+5+4,none⟩ (.slice i u c2)).drew:=M4.own ((Fr.refl _ _).drew);have b4:Fr W3 (World.setCell (World.setCell (World.setCell (World.setCell (World.setCell W3 ⟨g,q*10+5,none⟩ (.int .u8 (l:Int))) ⟨g,q*10+5+1,none⟩ (.int .i64 n)) ⟨g,q*10+5+2,none⟩ (.string p)) ⟨g,q*10+5+3,none⟩ (.slice d r c1)) ⟨g,q*10+5+4,none⟩ (.slice i u c2)).drew (λ b=>b=g):=((((((Fr.refl W3 (λ b=>b=g)).setCell ⟨g,q*10+5,none⟩ (.int .u8 (l:Int)) (λ _=>rfl)).setCell ⟨g,q*10+5+1,none⟩ (.int .i64 n) (λ _=>rfl)).setCell ⟨g,q*10+5+2,none⟩ (.string p) (λ _=>rfl)).setCell ⟨g,q*10+5+3,none⟩ (.slice d r c1) (λ _=>rfl)).setCell ⟨g,q*10+5+4,none⟩ (.slice i u c2) (λ _=>rfl)).drew;have a1:=b4.blk a0.o (by omega);clear M4 b4;generalize (World.setCell (World.setCell (World.setCell (World.setCell (World.setCell W3 ⟨g,q*10+5,none⟩ (.int .u8 (l:Int))) ⟨g,q*10+5+1,none⟩ (.int .i64 n)) ⟨g,q*10+5+2,none⟩ (.string p)) ⟨g,q*10+5+3,none⟩ (.slice d r c1)) ⟨g,q*10+5+4,none⟩ (.slice i u c2)).drew=W5 at *;have b3:=a1.c3;replace H:=q_ H;replace a1:=q_ a1;clear T U V X Y x4 w5 w6 w7 w8 w9 z5 z6 z7 z8 z9
      cases S:a9.isSome with
      | true=>
       go_wp2_with fail
       go_roundg ((fsOf env k).length+1-(q+1))
       case measure=>omega
       case rel=>exact⟨q+1,by omega,l_,by simp,by rw[I.o];unfold zph;rw[c.o];simp only;rw[<- E.o,F.o,if_pos S],H.o⟩
      | false=>
       by_cases d8:m<0
       ·go_wp2_with fail
        go_roundg ((fsOf env k).length+1-(q+1))
        case measure=>omega
        case rel=>exact⟨q+1,by omega,l_,by simp,by rw[I.o];unfold zph;rw[c.o];simp only;rw[<- E.o,F.o,if_neg (by rw[S];decide),zz_,if_pos (.inl d8)],H.o⟩
       ·by_cases b9:(a:Int)<m
        ·go_wp2_with fail
         go_roundg ((fsOf env k).length+1-(q+1))
         case measure=>omega
         case rel=>exact⟨q+1,by omega,l_,by simp,by rw[I.o];unfold zph;rw[c.o];simp only;rw[<- E.o,F.o,if_neg (by rw[S];decide),zz_,if_pos (.inr b9)],H.o⟩
        ·go_wp2_with fail
         go_roundg ((fsOf env k).length+1-(q+1))
         case measure=>omega
         case rel=>exact⟨q+1,by omega,l_,by simp,by rw[I.o];unfold zph;rw[c.o];simp only;rw[<- E.o,F.o,if_neg (by rw[S];decide),zz_,if_neg (λ x=>x.elim (λ f3=>by omega) (λ f3=>by omega))],H.o⟩
    ·have f1:¬ (q:Int)<((fsOf env k).length:Int):=by omega
     have d9:=q_ (show dflF s env ((fsOf env k).take q) (xj_ s env k)=xj_ s env (k+1) by rw[bu_ (by omega)];rfl);rw[d9.o];clear a2;replace M:=q_ M
     go_wp2_with fail
     go_roundg (7-(k+1))
     case measure=>omega
     case rel=>exact⟨k+1,by omega,l_,by simp,rfl,M.o⟩
  ·have d7:¬ (k:Int)<6:=by omega
   have d6:=q_ (show k=6 by omega);replace M:=q_ M
   go_wp2_with fail
   rw[Q_.o];exact⟨by rw[d6.o],M.o⟩
open Go.RowKit
def shB (N:Nat):PB->Prop
 | .recd fs=>(∀ f∈fs,shT f.ty)/\fs.length<=N
 | .enum l _=>(∀ c∈l.map Prod.fst,0<c)/\l.length<=N
 | .bytes n=>n<=9
theorem zjs {s:BA}{i:Nat}(h:ye_ s i=.ok (f,j)):shT f.ty:=by
 unfold ye_ at h;split at h
 ·split at h
  ·split at h
   ·cases h
   ·rename_i t k a;have:=znc a;split at h
    ·split at h
     ·cases h
     ·simp only[ae_,ad_] at h;obtain⟨rfl,_⟩:=h;exact this
    ·simp only[ae_,ad_] at h;obtain⟨rfl,_⟩:=h;exact this
  ·cases h
 ·cases h
theorem zgs (s:BA):∀ (n i:Nat) (l:List PF) (j:Nat),i<=s.size->xm_ s n i=.ok (l,j)->(∀ f∈l,shT f.ty)/\i+l.length<=s.size:=by
 intro n
 induction n with
 | zero=>intro i l j _ h;cases h
 | succ n ih=>
  intro i l j o h;unfold xm_ at h;split at h
  ·cases h
  ·rename_i f k c;have h1:=(x4_ o).1 f k c;have a:=zjs c;split at h
   ·simp only[ae_,ad_] at h;obtain⟨rfl,_⟩:=h;exact⟨λ g hg=>by rw[bj_] at hg;subst hg;exact a,by simp;omega⟩
   ·split at h
    ·rename_i r;have:=zj_ (s:=s) (i:=k) (by omega);split at h
     ·cases h
     ·rename_i fs e p;simp only[ae_,ad_] at h;obtain⟨rfl,_⟩:=h;have d:=ih _ _ _ (by omega) p;refine⟨λ g hg=>?_,by rw[aq_];omega⟩
      rcases ap_.1 hg with rfl|hg
      ·exact a
      ·exact d.1 g hg
    ·cases h
theorem zjo (s:BA):∀ (n i:Nat) (l:List (Nat×Nat)) (j:Nat),zba s n i=.ok (l,j)->(∀ c∈l.map Prod.fst,0<c)/\i+l.length<=s.size:=by
 intro n
 induction n with
 | zero=>intro i l j h;cases h
 | succ n ih=>
  intro i l j h;unfold zba at h;split at h
  ·rename_i hs;have h0:=xc_ hs;have h1:=zj_ h0;split at h
   ·split at h
    ·cases h
    ·rename_i fs e d;simp only[ae_,ad_] at h;obtain⟨rfl,_⟩:=h;have a:=ih _ _ _ d;refine⟨λ g hg=>?_,by rw[aq_];omega⟩;rw[ay_] at hg
     rcases ap_.1 hg with rfl|hg
     ·exact h0
     ·exact a.1 g hg
   ·simp only[ae_,ad_] at h;obtain⟨rfl,_⟩:=h;exact⟨λ g hg=>by simp only[ay_,a6_,bj_] at hg;subst hg;exact h0,by simp;omega⟩
  ·cases h
theorem zl1 {s:BA}{i:Nat}(h:vd_ s i=.ok (pb,j)):shB s.size pb:=by
 unfold vd_ at h;split at h
 ·rename_i r;have:=zj_ (s:=s) (i:=i) (by omega);split at h
  ·cases h
  ·rename_i fs k a;simp only[ae_,ad_] at h;obtain⟨rfl,_⟩:=h;unfold ys_ at a;split at a
   ·rename_i t;have:=zj_ (s:=s) (i:=i+1) (by omega);split at a
    ·simp only[ae_,ad_] at a;obtain⟨rfl,_⟩:=a;exact⟨λ f d=>by simp at d,ak_ _⟩
    ·have:=zgs s _ _ _ _ (by omega) a;exact⟨this.1,by omega⟩
   ·cases a
 ·split at h
  ·split at h
   ·cases h
   ·rename_i l o k a;simp only[ae_,ad_] at h;obtain⟨rfl,_⟩:=h;unfold vc_ at a;split at a
    ·split at a
     ·cases a
     ·rename_i p u g;have n:=zjo s _ _ _ _ g
      have c:l=p->shB s.size (.enum l o):=λ e=>by subst e;exact⟨n.1,by omega⟩
      split at a
      ·split at a
       ·split at a
        ·simp only[ae_,ad_] at a;exact c a.1.1.symm
        ·cases a
       ·cases a
      ·split at a
       ·simp only[ae_,ad_] at a;exact c a.1.1.symm
       ·cases a
    ·cases a
  ·split at h
   ·split at h
    ·rename_i hd;simp only[ae_,ad_] at h;obtain⟨rfl,_⟩:=h;simp only[shB];omega
    ·cases h
   ·cases h
theorem zjv (s:BA):∀ (n i:Nat) (ds:List PD) (e:Nat),y5_ s n i=.ok (ds,e)->∀ d∈ds,shB s.size d.body:=by
 intro n
 induction n with
 | zero=>intro i ds e h d hd;simp only[y5_,ae_,ad_] at h;rw[<- h.1] at hd;simp at hd
 | succ n ih=>
  intro i ds e h;unfold y5_ at h;split at h
  ·split at h
   ·split at h
    ·cases h
    ·rename_i pb j a;split at h
     ·split at h
      ·cases h
      ·rename_i g k c;simp only[ae_,ad_] at h;obtain⟨rfl,_⟩:=h;intro d hd
       rcases ap_.1 hd with rfl|hd
       ·exact zl1 a
       ·exact ih _ _ _ c d hd
     ·cases h
   ·cases h
  ·simp only[ae_,ad_] at h;obtain⟨rfl,_⟩:=h;intro d hd;simp at hd
theorem v9_ {s:BA}{t:PT}(h:z1_ s=.ok (ds,t)):(∀ d∈ds,shB s.size d.body)/\shT t:=by
 unfold z1_ at h;split at h
 ·cases h
 ·rename_i c i hd;split at h
  ·cases h
  ·rename_i e j a;split at h
   ·cases h
   ·simp only[ae_,ad_] at h;obtain⟨rfl,rfl⟩:=h;exact⟨zjv s _ _ _ _ hd,znc a⟩
def zc_ (ds:List PD) (c:Nat):Option PB:=(look 0 c ds).map Prod.fst
theorem zex {c:Nat}{a:Nat}(h:look b c ds=some (pb,a)):∃ d∈ds,d.body=pb:=by
 induction ds generalizing b with
 | nil=>cases h
 | cons x r ih=>
  simp only[look] at h;split at h
  ·simp only[ag_,ad_] at h;exact⟨x,by simp,h.1⟩
  ·obtain⟨d,hd,e⟩:=ih h;exact⟨d,by simp[hd],e⟩
theorem zwu {c:Nat}{d:Nat}(h:look b c ds=some (pb,d)):∃ o,d=b+o/\∀ q x,(pb.ts d)[q]?=some x->(accT b ds)[o+q]?=some x:=by
 induction ds generalizing b with
 | nil=>cases h
 | cons x r ih=>
  simp only[look] at h;split at h
  ·simp only[ag_,ad_] at h;obtain⟨rfl,rfl⟩:=h;refine⟨0,rfl,λ q g a=>?_⟩;rw[accT,br_,au_ (as_.1 a).1];exact a
  ·obtain⟨o,e,i⟩:=ih h;refine⟨(x.body.ts b).length+o,by omega,λ q g a=>?_⟩;rw[accT,ar_ (by omega),show(x.body.ts b).length+o+q-(x.body.ts b).length=o+q by omega];exact i q g a
theorem zmg (a:Nat) (m:Int):0<=zz_ (a:Int) m:=by
 unfold zz_;split<;>omega
def wrU (env:Nat->Option PB) (us:List (Nat×Nat)) (m:Int):Int:=us.foldl (λ m u=>if (env u.1).isNone=true then zz_ (u.2:Int) m else m) m
theorem zp4 {env:Nat->Option PB}(h:wrU env us m<0):m<0/\∀ u∈us,∃ pb,env u.1=some pb:=by
 induction us generalizing m with
 | nil=>exact⟨h,λ u hu=>by simp at hu⟩
 | cons u r ih=>
  simp only[wrU,List.foldl_cons] at h;obtain⟨h1,c⟩:=ih h;split at h1
  ·have:=zmg u.2 m;omega
  ·rename_i hn;refine⟨h1,λ v a=>?_⟩
   rcases ap_.1 a with rfl|a
   ·cases he:env v.1 with
    | none=>rw[he] at hn;exact absurd rfl hn
    | some pb=>exact⟨pb,rfl⟩
   ·exact c v a
theorem zt9 {env:Nat->Option PB}(hs:∀ f∈fs,shT f.ty) (hu:∀ u∈zs_ (fs.map PF.ty),∃ pb,env u.1=some pb) (h:mixF fs m<0):m<0/\∀ f∈fs,okT env f.ty:=by
 induction fs generalizing m with
 | nil=>exact⟨h,λ f d=>by simp at d⟩
 | cons f r ih=>
  simp only[mixF,List.foldl_cons] at h;simp only[ay_,zs_] at hu;obtain⟨h1,c⟩:=ih (λ g hg=>hs g (by simp[hg])) (λ u h=>hu u (List.mem_append_right _ h)) h;have a:=zjy env f.ty m (hs f (by simp)) h1 (λ u h=>hu u (List.mem_append_left _ h));refine⟨a.1,λ g hg=>?_⟩
  rcases ap_.1 hg with rfl|hg
  ·exact a.2
  ·exact c g hg
theorem znw {env:Nat->Option PB}{p:Nat}(hs:∀ d∈ds,shB p d.body) (hu:∀ u∈accU ds,∃ pb,env u.1=some pb) (h:accM ds m<0):m<0/\∀ d∈ds,∀ fs,d.body=.recd fs->∀ f∈fs,okT env f.ty:=by
 induction ds generalizing m with
 | nil=>exact⟨h,λ f t=>by simp at t⟩
 | cons d r ih=>
  simp only[accM,List.foldl_cons] at h;simp only[accU] at hu;obtain⟨h1,e⟩:=ih (λ g hg=>hs g (by simp[hg])) (λ u h=>hu u (List.mem_append_right _ h)) h;have k:=hs d (by simp)
  cases hb:d.body with
  | recd fs=>
   rw[hb] at k h1 hu;have i:=zt9 k.1 (λ u h=>hu u (List.mem_append_left _ h)) h1;refine⟨i.1,λ g hg c a=>?_⟩
   rcases ap_.1 hg with rfl|hg
   ·rw[hb] at a;cases a;exact i.2
   ·exact e g hg c a
  | enum l o=>
   rw[hb] at h1;refine⟨h1,λ g hg c a=>?_⟩
   rcases ap_.1 hg with rfl|hg
   ·rw[hb] at a;cases a
   ·exact e g hg c a
  | bytes n=>
   rw[hb] at h1;refine⟨h1,λ g hg c a=>?_⟩
   rcases ap_.1 hg with rfl|hg
   ·rw[hb] at a;cases a
   ·exact e g hg c a
theorem zff {s:BA}{t:PT}{m0 m1:Int}(hs:s.size<=300) (z:z1_ s=.ok (ds,t)) (A:wrU (zc_ ds) (accU ds++zr_ t) m0<0) (y:mix t (accM ds m1)<0) :
 zhz (zc_ ds)/\okT (zc_ ds) t/\(∀ k,(fsOf (zc_ ds) k).length<=300)/\∀ k f,f∈fsOf (zc_ ds) k->okT (zc_ ds) f.ty:=by
 obtain⟨h1,r⟩:=v9_ z;obtain⟨_,i⟩:=zp4 A;have p:=zjy (zc_ ds) t _ r y (λ u hu=>i u (List.mem_append_right _ hu));have v:=(znw (env:=zc_ ds) h1 (λ u hu=>i u (List.mem_append_left _ hu)) p.1).2
 have body:∀ c pb,zc_ ds c=some pb->shB s.size pb/\∀ fs,pb=.recd fs->∀ f∈fs,okT (zc_ ds) f.ty:=λ c pb he=>by
  unfold zc_ at he
  cases hl:look 0 c ds with
  | none=>rw[hl] at he;cases he
  | some q=>
   obtain⟨D,B⟩:=q;rw[hl] at he;simp only[bw_,ag_] at he;subst he;obtain⟨d,hd,rfl⟩:=zex hl;exact⟨h1 d hd,λ fs e=>v d hd fs e⟩
 have h:∀ k fs,fsOf (zc_ ds) k=fs->fs≠[]->zc_ ds (65+k)=some (.recd fs):=λ k fs e a=>by
  unfold fsOf at e;split at e
  ·rename_i C he;subst e;exact he
  ·exact absurd e.symm a
 refine⟨λ c pb he=>?_,p.2,λ k=>?_,λ k f g=>?_⟩
 ·obtain⟨b1,b2⟩:=body c pb he
  cases pb with
  | recd fs=>exact b2 fs rfl
  | enum l o=>exact⟨b1.1,ai_ b1.2 hs⟩
  | bytes n=>exact b1
 ·by_cases a:fsOf (zc_ ds) k=[]
  ·rw[a];exact ak_ _
  ·exact ai_ (body _ _ (h k _ rfl a)).1.2 hs
 ·have a:fsOf (zc_ ds) k≠[]:=λ e=>by rw[e] at g;simp at g
  exact(body _ _ (h k _ rfl a)).2 _ rfl f g
open Go.RowKit
theorem zkl:∀ (l:List (List Value)),(∀ x∈l,x.length=10)->∀ (q p:Nat) (x:List Value),l[q]?=some x->p<10->l.flatten[10*q+p]?=x[p]?
 | [],_,q,p,x,h,_=>by simp at h
 | y::r,hl,q,p,x,h,hp=>by
  have c:=hl y (by simp);rw[List.flatten_cons]
  cases q with
  | zero=>
   simp only[aa_,ag_] at h;subst h;rw[Nat.mul_zero,br_,au_ (by omega)]
  | succ q=>
   rw[ab_] at h;rw[ar_ (by omega),show 10*(q+1)+p-y.length=10*q+p by omega];exact zkl r (λ z a=>hl z (by simp[a])) q p x h hp
theorem zlo {s:BA}{num:Nat}(c:fs[q]?=some f) (hn:(nums b (fs.map PF.ty))[q]?=some num) (p:Nat) (d:p<10):(y3_ s b fs)[10*q+p]?=(zno s f num)[p]?:=by
 unfold y3_;refine zkl _ (λ x e=>?_) q p _ ?_ d
 ·obtain⟨i,a⟩:=List.getElem?_of_mem e;rw[List.getElem?_zipWith] at a;split at a
  ·simp only[ag_] at a;subst a;rfl
  ·cases a
 ·rw[List.getElem?_zipWith,c,hn]
theorem zuj {s:BA}{ts:List TR}(h:isTs ts (nums b (fs.map PF.ty)) (fs.map PF.ty)):FRow s ts fs (y3_ s b fs):=by
 intro q f d;obtain⟨num,hn,g⟩:=zic h q f.ty (by rw[bk_,d];rfl);have a:=λ p i=>zlo (s:=s) d hn p i;refine⟨⟨num,g,a 1 (by omega)⟩,a 0 (by omega),a 2 (by omega),?_,?_,λ p e c=>?_⟩
 ·rw[a 3 (by omega)];rfl
 ·rw[a 4 (by omega)];rfl
 ·rw[a p c]
  match p,e,c with
  | 5,_,_=>exact⟨_,rfl,_,rfl⟩
  | 6,_,_=>exact⟨_,rfl,_,rfl⟩
  | 7,_,_=>exact⟨_,rfl,_,rfl⟩
  | 8,_,_=>exact⟨_,rfl,_,_,_,rfl⟩
  | 9,_,_=>exact⟨_,rfl,_,_,_,rfl⟩
theorem ztc {w W:World}{X Xk:Nat->Prop}{br bz B:Nat}{s:BA}{tv0 u0 u:Value}{bad:Bool}{wg MX:Int}{F:List TR}{US:List (Nat×Nat)}{zs:List Value}{rt:Value}
 (M:WM w X br bz B s tv0 u0 ds j bad wg MX (accT 0 ds++F) US Xk zs tv u W) (I:zs[30]?=some rt):SZ W (λ g=>g<W.heap.size/\¬ Xk g) (λ g=>Xk g/\B<=g) bz s (accT 0 ds++F) (zc_ ds) rt:=by
 obtain⟨xs,E,hk⟩:=M.R.tys;refine⟨λ g hg h=>h.2 hg.1,⟨M.R.z.lt,λ h=>(M.R.av _ h).2.2.1 rfl⟩,tv,zs,M.R.z,I,⟨xs,yq_ E,λ g e=>⟨(E.lt g e).2,λ h=>(M.R.av g h).2.2.2.1 e⟩,λ k t L=>?_⟩,λ k K=>?_⟩
 ·obtain⟨sv,a,b,c,d⟩:=hk k t L;exact⟨sv,a,b,yq_ c.1,λ g e=>⟨(c.1.lt g e).2,λ h=>d g h e⟩⟩
 ·obtain⟨so,fv,sb,o,n,N,ys,h1,y,H,r⟩:=M.D.2 k K;have A:∀ g,fv.ownBlock=some g->Xk g/\B<=g:=λ g e=>⟨H g e,(y.lt g e).1⟩
  cases hl:look 0 (65+k) ds with
  | none=>
   rw[hl] at r;obtain⟨_,rfl⟩:=r
   have he:zc_ ds (65+k)=none:=by unfold zc_;rw[hl];rfl
   have i:fsOf (zc_ ds) k=[]:=by unfold fsOf;rw[he]
   refine⟨so,fv,sb,o,n,ys,h1,by rw[i];exact yq_ y,A,by rw[i];intro q f p;simp at p,by rw[he];trivial⟩
  | some q=>
   obtain⟨pb,b⟩:=q;rw[hl] at r
   have he:zc_ ds (65+k)=some pb:=by unfold zc_;rw[hl];rfl
   obtain⟨O,G,J⟩:=zwu hl
   cases pb with
   | recd fs=>
    obtain⟨v,rfl,rfl,_⟩:=r
    have i:fsOf (zc_ ds) k=fs:=by unfold fsOf;rw[he]
    refine⟨so,fv,sb,o,n,_,h1,by rw[i];exact yq_ y,A,?_,by rw[he];exact v⟩;rw[i];refine zuj (zdr _ _ _ (λ q x p=>?_));have:=J q x p;rw[G,br_,au_ (as_.1 this).1];exact this
   | enum l un=>
    obtain⟨v,rfl,C,_⟩:=r
    have i:fsOf (zc_ ds) k=[]:=by unfold fsOf;rw[he]
    exact⟨so,fv,sb,o,n,ys,h1,by rw[i];exact yq_ y,A,by rw[i];intro q f p;simp at p,by rw[he];exact⟨v,C⟩⟩
   | bytes m=>
    obtain⟨v,rfl,_,C⟩:=r
    have i:fsOf (zc_ ds) k=[]:=by unfold fsOf;rw[he]
    exact⟨so,fv,sb,o,n,ys,h1,by rw[i];exact yq_ y,A,by rw[i];intro q f p;simp at p,by rw[he];exact⟨v,C⟩⟩
theorem ztm (ts:List TR) (t:PT):isT (ts++flat ts.length t) (ts.length+(flat ts.length t).length-1) t:=
 zii _ t _ (λ q x a=>by rw[ar_ (by omega),Nat.add_sub_cancel_left];exact a)
theorem x8_.sortAt {W:World}{X:Nat->Prop}{B:Nat}{s:BA}{zs:List Value}(h:x8_ W X B s zs ds){k:Nat}(hk:k<6):∃ so:Int,zs[5*k]?=some (.int .u8 so)/\(so==0)=(zc_ ds (65+k)).isNone:=by
 obtain⟨so,fv,sb,o,n,c,ys,h1,d,e,a⟩:=h.2 k hk;refine⟨so,h1 0 (by omega),?_⟩;unfold zc_
 cases hl:look 0 (65+k) ds with
 | none=>rw[hl] at a;rw[a.1];rfl
 | some q=>
  obtain⟨pb,b⟩:=q;rw[hl] at a;have:=a.sort;simp only[bw_,Option.isNone_some,beq_eq_false_iff_ne];exact this
open Go.RowKit
mutual
theorem ze7:∀ (t:PT),shT t->∀ u∈zr_ t,z5_ u.1=true
 | .leaf c p,h,u,hu=>by
  simp only[zr_] at hu
  cases hb:yc_ c with
  | true=>rw[hb] at hu;simp at hu
  | false=>
   rw[hb] at hu;simp only[a3_,if_false,bj_] at hu;subst hu;simp only[shT,hb] at h;exact h.resolve_left (by decide)
 | .wrap c p t,h,u,hu=>ze7 t h.2 u hu
 | .alts p l,h,u,hu=>za5 l h.2 u hu
theorem za5:∀ (l:List PT),shTs l->∀ u∈zs_ l,z5_ u.1=true
 | [],_,u,hu=>by simp[zs_] at hu
 | t::r,h,u,hu=>by
  simp only[zs_] at hu
  rcases bg_.1 hu with hu|hu
  ·exact ze7 t h.1 u hu
  ·exact za5 r h.2 u hu
end
theorem zqn:∀ (l:List PT),(∀ t∈l,shT t)->shTs l
 | [],_=>trivial
 | t::r,h=>⟨h t (by simp),zqn r (λ u hu=>h u (by simp[hu]))⟩
theorem zk8 {a:Nat}:∀ (ds:List PD),(∀ d∈ds,shB a d.body)->∀ u∈accU ds,z5_ u.1=true
 | [],_,u,hu=>by simp[accU] at hu
 | d::r,h,u,hu=>by
  simp only[accU] at hu
  rcases bg_.1 hu with hu|hu
  ·have hb:=h d (by simp)
   cases hd:d.body with
   | recd fs=>
    rw[hd] at hb hu;refine za5 _ (zqn _ (λ t e=>?_)) u hu;obtain⟨f,c,rfl⟩:=bs_.1 e;exact hb.1 f c
   | enum l o=>rw[hd] at hu;simp[PB.us] at hu
   | bytes n=>rw[hd] at hu;simp[PB.us] at hu
  ·exact zk8 r (λ d hd=>h d (by simp[hd])) u hu
theorem ze8 {p:Nat×Nat}(h:us[q]?=some p):(v8_ us)[2*q]?=some (.int .u8 (p.1:Int))/\(v8_ us)[2*q+1]?=some (.int .i64 (p.2:Int)):=by
 induction us generalizing q with
 | nil=>simp at h
 | cons x r ih=>
  cases q with
  | zero=>simp only[aa_,ag_] at h;subst h;exact⟨rfl,rfl⟩
  | succ q=>
   rw[ab_] at h;obtain⟨a,b⟩:=ih h;refine⟨?_,?_⟩
   ·rw[show 2*(q+1)=2*q+1+1 by omega];exact a
   ·rw[show 2*(q+1)+1=2*q+1+1+1 by omega];exact b
theorem zs6 {env:Nat->Option PB}{u:Nat×Nat}(h:us[q]?=some u) (m:Int):wrU env (us.take (q+1)) m=if (env u.1).isNone=true then zz_ (u.2:Int) (wrU env (us.take q) m) else wrU env (us.take q) m:=by
 rw[bi_,h];unfold wrU;rw[List.foldl_append]
 rfl
def zv_ (s:BA):Int×Int:=
 if 300<s.size then (1,0)
 else match z1_ s with
  | .error k=>(2,(k:Int))
  | .ok (ds,t)=>
   if 0<=wrU (zc_ ds) (accU ds++zr_ t) (accW [] ds (-1)) then (3,wrU (zc_ ds) (accU ds++zr_ t) (accW [] ds (-1)))
   else if 0<=mix t (accM ds (-1)) then (4,mix t (accM ds (-1)))
   else if 0<=xj_ s (zc_ ds) 6 then (5,xj_ s (zc_ ds) 6)
   else (0,0)
def ziu (W:World) (lo:Nat) (s:BA) (zv:Value):Prop:=
 ∃ (bz:Nat) (ds:List PD) (t:PT) (ts:List TR) (root:Nat) (P1 P2:Nat->Prop),zv=.pointer (some ⟨bz,0,none⟩)/\z1_ s=.ok (ds,t)/\SZ W P1 P2 bz s ts (zc_ ds) (.int .i64 (root:Int))/\isT ts root t/\zhz (zc_ ds)/\okT (zc_ ds) t/\
  (∀ g,P1 g\/P2 g->g<W.heap.size)/\(∀ g,P2 g->lo<=g)
def zbk (w:World) (s:BA) (e:Ending) (w':World):Prop:=
 ∃ zv,e=.returned (.tuple #[zv,.int .i64 (zv_ s).1,.int .i64 (zv_ s).2])/\Fr w w' (λ _=>False)/\if (zv_ s).1=0 then ziu w' w.heap.size s zv else zv=.pointer none
def zpz:List Value:=yb_++yb_++yb_++yb_++yb_++yb_++[.int .i64 0]
def pw (w:World) (s:BA):World:=
 (w.alloc (.cells (Value.slice none 0 0::zpz).toArray 47)).alloc (.cells #[.string s,.int .i64 0,.bool false,.pointer (some ⟨w.heap.size,0,none⟩),.slice none 0 0,.int .i64 (-1),.int .i64 (-1)] 66)
theorem zyi (w:World) (s:BA) (hs:s.size<=300):Rep (pw w s) (λ _=>False) (w.heap.size+1) w.heap.size (w.heap.size+2) s 0 false (-1) (-1) [] [] zpz (.slice none 0 0) (.slice none 0 0):=by
 refine⟨?_,(Blk.new w _ _).alloc _,⟨[],World.ownsRow_nil _ _ _ _,λ k t a=>by simp at a⟩,World.ownsRow_nil _ _ _ _,λ g hg=>by simp[Value.ownBlock] at hg,by omega,by omega,by simp[pw],by omega,ak_ _,hs,ak_ _,ak_ _,λ g hg=>hg.elim⟩;have:=Blk.new (w.alloc (.cells (Value.slice none 0 0::zpz).toArray 47)) #[.string s,.int .i64 0,.bool false,.pointer (some ⟨w.heap.size,0,none⟩),.slice none 0 0,.int .i64 (-1),.int .i64 (-1)] 66
 have e:(w.alloc (.cells (Value.slice none 0 0::zpz).toArray 47)).heap.size=w.heap.size+1:=by simp
 rw[e] at this;exact this
theorem zwa (w:World) (s:BA):x8_ (pw w s) (λ _=>False) (w.heap.size+2) s zpz []:=by
 refine⟨rfl,λ k hk=>⟨0,.slice none 0 0,⟨#[]⟩,0,0,0,[],λ p a=>?_,World.ownsRow_nil _ _ _ _,λ g hg=>by simp[Value.ownBlock] at hg,?_⟩⟩
 ·match k,hk with
  | 0,_=>match p,a with|0,_=>rfl|1,_=>rfl|2,_=>rfl|3,_=>rfl|4,_=>rfl
  | 1,_=>match p,a with|0,_=>rfl|1,_=>rfl|2,_=>rfl|3,_=>rfl|4,_=>rfl
  | 2,_=>match p,a with|0,_=>rfl|1,_=>rfl|2,_=>rfl|3,_=>rfl|4,_=>rfl
  | 3,_=>match p,a with|0,_=>rfl|1,_=>rfl|2,_=>rfl|3,_=>rfl|4,_=>rfl
  | 4,_=>match p,a with|0,_=>rfl|1,_=>rfl|2,_=>rfl|3,_=>rfl|4,_=>rfl
  | 5,_=>match p,a with|0,_=>rfl|1,_=>rfl|2,_=>rfl|3,_=>rfl|4,_=>rfl
 ·exact⟨rfl,rfl⟩
open Go.RowKit
theorem zyj {w w1:World}{s:BA}{u:Value}(st:Step (pw w s) w1 (w.heap.size+1) w.heap.size (.slice none 0 0) (.slice none 0 0) tv u):Fr w w1 (λ _=>False):=
 (show Fr w (pw w s) (λ _=>False) from((Fr.refl w _).alloc _).alloc _).trans st.fr (λ x a e=>by
  rcases e with e|e|e|e
  ·omega
  ·omega
  ·simp[Value.ownBlock] at e
  ·simp[Value.ownBlock] at e)
theorem za9 {w w1 W:World}{s:BA}{a b:Int}(h:zv_ s=(a,b)) (d:a≠0) (e:Fr w w1 (λ _=>False)) (c:zd_ w1 W):zbk w s (.returned (.tuple #[.pointer none,.int .i64 a,.int .i64 b])) W:=by
 refine⟨.pointer none,by rw[h],e.still c,?_⟩;rw[h];rw[if_neg d]
theorem zt1 {w:World}{s:BA}:Calls prog 11 #[.string s] w (zbk w s):=by
 refine hq_ λ d6 C=>?_
 by_cases hl:300<s.size
 ·have d0:(300:Int)<(s.size:Int):=by omega
  go_in
  go_wp2_with fail
  refine bodyPost_ret (v:=.tuple #[.pointer none,.int .i64 1,.int .i64 0]) (by simp[results,results11,go_sem]) rfl ?_;rw[C.o];exact za9 (by unfold zv_;rw[if_pos hl]) (by decide) (Fr.refl _ _) (zd_.refl _)
 ·have d0:¬ (300:Int)<(s.size:Int):=by omega
  have hs:s.size<=300:=by omega
  have R0:=q_ (zyi w s hs);have D0:=q_ (zwa w s)
  cases n:z1_ s with
  | error k=>
   have d:=q_ (show zv_ s=(2,(k:Int)) by unfold zv_;rw[if_neg hl,n]);replace n:=q_ n
   go_in
   go_wp2_with (go_at_call 23;refine(zi7 R0.o D0.o).mono ?_;rintro e w1 ⟨rfl,A⟩;unfold v2_ at A;rw[n.o] at A;obtain⟨Xk,zs,tv,u,wg,MX,TS,US,J,a4,_⟩:=A;have a6:=J.here.c2;have d7:=J.here.c1;replace J:=q_ J;replace a4:=q_ a4)
   go_quiet (fail)
   go_wp2_with fail
   refine bodyPost_ret (v:=.tuple #[.pointer none,.int .i64 2,.int .i64 (k:Int)]) (by simp[results,results11,go_sem]) rfl ?_;rw[C.o];exact za9 d.o (by decide) (zyj a4.o) (by first|exact zd_.refl _|exact zd_.drewN _ _|exact zd_.drew _)
  | ok r=>
   obtain⟨ds,t⟩:=r;obtain⟨us,H⟩:∃ l,l=accU ds++zr_ t:=⟨_,rfl⟩;have P:=v9_ n
   have a0:∀ x∈us,z5_ x.1=true:=λ x i=>by
    rw[H] at i
    rcases bg_.1 i with i|i
    ·exact zk8 ds P.1 x i
    ·exact ze7 t P.2 x i
   replace n:=q_ n;replace H:=q_ H;replace a0:=q_ a0;replace P:=q_ P
   go_in
   go_wp2_with (go_at_call 23;refine(zi7 R0.o D0.o).mono ?_;rintro e w1 ⟨rfl,A⟩;unfold v2_ at A;rw[n.o] at A;obtain⟨Xk,zs,tv,u,y,X⟩:=A;rw[<- H.o] at y;have a6:=y.R.here.c2;replace y:=q_ y;replace X:=q_ X)
   obtain⟨ua,uc,rfl⟩:=zo_ y.o.R.uses;obtain⟨U,Q⟩:∃ x,x=accW [] ds (-1):=⟨_,rfl⟩;replace Q:=q_ Q
   have e4:us.length<=300:=by have:=y.o.R.ul;omega
   have T:∃ q:Nat,q<=us.length/\us.length+1-q<=us.length+1/\Value.int .i64 0=.int .i64 (q:Int)/\WM (pw w s) (λ x=>False) (w.heap.size+1) w.heap.size (w.heap.size+2) s (.slice none 0 0) (.slice none 0 0) ds s.size false (wrU (zc_ ds) (us.take q) U) (mix t (accM ds (-1))) (accT 0 ds++flat (accT 0 ds).length t) us Xk zs tv (.slice ua us.length uc) w1:=⟨0,by omega,by omega,rfl,by rw[Q.o];exact y.o⟩;replace T:=q_ T;clear y a6
   go_loopg [6] (us.length+1) (λ mm v6 W=>∃ q:Nat,q<=us.length/\us.length+1-q<=mm/\v6=.int .i64 (q:Int)/\WM (pw w s) (λ x=>False) (w.heap.size+1) w.heap.size (w.heap.size+2) s (.slice none 0 0) (.slice none 0 0) ds s.size false (wrU (zc_ ds) (us.take q) U) (mix t (accM ds (-1))) (accT 0 ds++flat (accT 0 ds).length t) us Xk zs tv (.slice ua us.length uc) W)
   case atStart=>exact T.o
   case round=>
    clear T;obtain⟨q,hq,e2,rfl,M⟩:=hrel;obtain⟨m,E⟩:∃ m,wrU (zc_ ds) (us.take q) U=m:=⟨_,rfl⟩;rw[E] at M;replace E:=q_ E;have c4:=M.R.here.c4;have c3:=M.R.here.c3;have c5:=M.R.here.c5;have c6:=M.R.here.c6
    by_cases d1:q<us.length
    ·have d2:(q:Int)<(us.length:Int):=by omega
     obtain⟨x,i⟩:∃ x,us[q]?=some x:=⟨_,an_ d1⟩;have a1:=a0.o x (aw_ i);have a3:=q_ (zs6 (env:=zc_ ds) i U);obtain⟨gu,cu,b4⟩:=zh_ M.R.uses (by omega);simp only[Value.slice.injEq,true_and] at b4;obtain⟨rfl,rfl⟩:=b4;have S:=zp_ M.R.uses rfl (ze8 i).1;have I:=zp_ M.R.uses rfl (ze8 i).2;rw[a2_] at S I;obtain⟨c,b9⟩:=x;simp only at S I a1 a3
     have e0:65<=c/\c<=70:=by simpa[z5_] using a1
     obtain⟨B,N⟩:∃ k,c=65+k:=⟨c-65,by omega⟩;obtain⟨so,b6,a2⟩:=M.D.sortAt (k:=B) (by omega)
     have z0:wr.cell? ⟨w.heap.size,1+B*5,none⟩=some (.int .u8 so):=by
      rw[M.R.z.cell,show 1+B*5=5*B+1 by omega,ab_];exact b6
     rw[<- N] at a2;have e5:=za4 B c N (by omega)
     have e1:(B:Int)<6:=by omega
     have d9:(c:Int)-65=(B:Int):=by omega
     replace M:=q_ M;replace N:=q_ N;clear i a1 b6
     cases hb:(zc_ ds c).isNone with
     | true=>
      rw[hb] at a2;replace hb:=q_ hb
      go_wp2_with fail
      go_quiet (fail)
      have a:=q_ (M.o.still (zd_.drewN wr nq));have d8:=a.o.R.here.c4;have e6:(wr.drewN nq).cell? ⟨gu,q*2+1,none⟩=some (.int .i64 (b9:Int)):=I;clear c3 c4 c5 c6 S I z0;generalize wr.drewN nq=W2 at *
      go_wp2_with (go_at_call 24;refine(zaa a.o.R).mono ?_;rintro e w3 ⟨rfl,a7,b8⟩;have M3:=q_ (a.o.call a7 b8);clear a7 b8)
      go_roundg (us.length+1-(q+1))
      case measure=>omega
      case rel=>exact⟨q+1,by omega,l_,by simp,by rw[a3.o,E.o,if_pos hb.o];exact M3.o⟩
     | false=>
      rw[hb] at a2;replace hb:=q_ hb
      go_wp2_with fail
      go_quiet (fail)
      have a:=q_ (M.o.still (zd_.drewN wr nq));clear c3 c4 c5 c6 S I z0;generalize wr.drewN nq=W2 at *
      go_wp2_with fail
      go_roundg (us.length+1-(q+1))
      case measure=>omega
      case rel=>exact⟨q+1,by omega,l_,by simp,by rw[a3.o,E.o,if_neg (by rw[hb.o];decide)];exact a.o⟩
    ·have d2:¬ (q:Int)<(us.length:Int):=by omega
     have O:wrU (zc_ ds) (accU ds++zr_ t) (accW [] ds (-1))=m:=by rw[<- H.o,<- Q.o,<- E.o,bu_ (by omega)]
     obtain⟨mx,G⟩:∃ x,x=mix t (accM ds (-1)):=⟨_,rfl⟩;simp only[<- G] at c6
     have d:zv_ s=if 0<=m then (3,m) else if 0<=mx then (4,mx) else if 0<=xj_ s (zc_ ds) 6 then (5,xj_ s (zc_ ds) 6) else (0,0):=by
      unfold zv_;rw[if_neg hl,n.o];simp only;rw[O,<- G]
     have L:=q_ (zyj M.st);replace O:=q_ O;replace G:=q_ G
     by_cases b5:0<=m
     ·rw[if_pos b5] at d;replace d:=q_ d;replace M:=q_ M
      go_wp2_with fail
      go_quiet (fail)
      go_wp2_with fail
      refine bodyPost_ret (v:=.tuple #[.pointer none,.int .i64 3,.int .i64 m]) (by simp[results,results11,go_sem]) rfl ?_;rw[C.o];exact za9 d.o (by decide) L.o (by first|exact zd_.refl _|exact zd_.drewN _ _|exact zd_.drew _)
     ·rw[if_neg b5] at d
      by_cases b7:0<=mx
      ·rw[if_pos b7] at d;replace d:=q_ d;replace M:=q_ M
       go_wp2_with fail
       go_quiet (fail)
       go_wp2_with fail
       refine bodyPost_ret (v:=.tuple #[.pointer none,.int .i64 4,.int .i64 mx]) (by simp[results,results11,go_sem]) rfl ?_;rw[C.o];exact za9 d.o (by decide) L.o (by first|exact zd_.refl _|exact zd_.drewN _ _|exact zd_.drew _)
      ·rw[if_neg b7] at d;have p:=zff (m0:=accW [] ds (-1)) (m1:=-1) hs n.o (by rw[O.o];omega) (by rw[<- G.o];omega);have Z:=ztc M X.o;have a5:=q_ (show zax wr _ _ w.heap.size s _ (zc_ ds) _ wr from⟨Z,Fr.refl _ _,λ g hg=>hg.1,λ g hg=>(M.R.av g hg.1).1⟩)
       have a8:¬ (Xk (w.heap.size+1)/\w.heap.size+2<=w.heap.size+1):=λ h=>by omega
       obtain⟨dv,F⟩:∃ x,x=xj_ s (zc_ ds) 6:=⟨_,rfl⟩;rw[<- F] at d;replace d:=q_ d;replace F:=q_ F;have B3:=q_ M.R.here;replace M:=q_ M;replace p:=q_ p;clear Z
       by_cases a9:0<=dv
       ·have K:=q_ (show zv_ s=(5,dv) by rw[d.o,if_pos a9])
        go_wp2_with (go_at_call 25;refine(zf3 a5.o hs p.o.1 (λ k _=>p.o.2.2.1 k) (λ k f _ Y=>p.o.2.2.2 k f Y)).mono ?_;rintro e w2 ⟨rfl,a⟩;rw[<- F.o];have V:=(a.fr.blk B3.o a8).cell 3;simp only[RV.cells,aa_,ab_] at V;replace a:=q_ a)
        refine bodyPost_ret (v:=.tuple #[.pointer none,.int .i64 5,.int .i64 dv]) (by simp[results,results11,go_sem]) rfl ?_;rw[C.o];exact za9 K.o (by decide) (L.o.trans a.o.fr (λ x i e=>by have:=e.2;omega)) (zd_.refl _)
       ·have K:=q_ (show zv_ s=(0,0) by rw[d.o,if_neg a9])
        go_wp2_with (go_at_call 25;refine(zf3 a5.o hs p.o.1 (λ k _=>p.o.2.2.1 k) (λ k f _ Y=>p.o.2.2.2 k f Y)).mono ?_;rintro e w2 ⟨rfl,a⟩;rw[<- F.o];have V:=(a.fr.blk B3.o a8).cell 3;simp only[RV.cells,aa_,ab_] at V;replace a:=q_ a)
        refine bodyPost_ret (v:=.tuple #[.pointer (some ⟨w.heap.size,0,none⟩),.int .i64 0,.int .i64 0]) (by simp[results,results11,go_sem]) rfl ?_;rw[C.o];refine⟨_,by rw[K.o],L.o.trans a.o.fr (λ x i e=>by have:=e.2;omega),?_⟩;rw[K.o,if_pos rfl];have e3:=a.o.fr.size;exact⟨w.heap.size,ds,t,_,_,_,_,rfl,n.o,a.o.Z,ztm _ _,p.o.1,p.o.2.1,λ g hg=>by rcases hg with hg|hg;have:=a.o.l1 g hg;omega;have:=a.o.l2 g hg;omega,λ g hg=>by have:=hg.2;omega⟩
end Go.Proofs.YtiifagiebikmdaaGreatDoor
