import Derived.Test.YthmjjpkjgjklmaaGreatDoorW38
import Derived.Test.YthmjjpkjgjklmaaGreatDoorW42
import Derived.Test.YthmjjpkjgjklmaaGreatDoorA00
set_option maxHeartbeats 16000000
set_option maxRecDepth 100000
set_option linter.unusedSimpArgs false
namespace Go.Proofs.YthmjjpkjgjklmaaGreatDoor
open Go.RowKit
variable {sw sr bs:BA}
theorem z1_ (u:World) (o:Obj):(u.alloc o).heap.size=u.heap.size+1:=by show(u.heap.push _).size=_;simp
def dfOf (er:Nat->Option PB) (s:BA) (g:PF):Option DT:=
 match g.dflt with
 | none=>none
 | some (a,e)=>xn_ er true g.ty (s.extract a e)
def yk_ (sw sr bs:BA):BA×Nat×Int:=
 if (zj_ sw).1=0 then
  if (zj_ sr).1=0 then
   if 4000<bs.size then (noB,0,1)
   else match zq_ sw,zq_ sr with
    | .ok (ds,t),.ok (ds',t')=>match rdB bs (za_ ds) 301 t 0 0 with
     | .error e0=>(noB,0,(e0:Int))
     | .ok (d,j,_)=>match mkP (za_ ds) (za_ ds') (dfOf (za_ ds') sr) 300 t t' d with
      | none=>(noB,0,8)
      | some x=>if ndT x > 300 then (noB,0,7) else (txT (za_ ds') x t',j,0)
    | _,_=>(noB,0,0)
  else (noB,0,(zj_ sr).1)
 else (noB,0,(zj_ sw).1)
theorem jt_ {s:BA}(h0:(zj_ s).1=0):s.size<=300/\∃ ds t,zq_ s=.ok (ds,t):=by
 unfold zj_ at h0;split at h0
 ·simp at h0
 ·rename_i hs;refine⟨by omega,?_⟩
  cases hp:zq_ s with
  | error k=>rw[hp] at h0;simp at h0
  | ok r=>exact⟨r.1,r.2,rfl⟩
theorem zvu (s:BA):0<=(zj_ s).1/\(zj_ s).1<=5:=by
 unfold zj_;split
 ·simp
 ·split
  ·simp
  ·split
   ·simp
   ·split
    ·simp
    ·split<;>simp
theorem zt2 {s:BA}{ds:List PD}{t:PT}(h0:(zj_ s).1=0) (hp:zq_ s=.ok (ds,t)):DfOK (za_ ds) (dfOf (za_ ds) s)/\SmE (za_ ds) (dfOf (za_ ds) s):=by
 obtain⟨g1,g2,g3,g4,g5⟩:=zhe h0 hp;obtain⟨hs,hn,hu⟩:=ztt h0 hp
 have hx:∀ a e,(s.extract a e).size<=300:=λ a e=>by rw[as_];omega
 refine⟨λ c fs g x he hg h=>?_,⟨λ c fs he=>⟨(g2 c fs he).1,zr1 hn he⟩,λ c fs he g hg x h=>?_⟩⟩
 ·unfold dfOf at h;split at h
  ·cases h
  ·rename_i a e _;exact zr3 g5 (by have:=hx a e;omega) (g5 c _ he g hg) h
 ·unfold dfOf at h;split at h
  ·cases h
  ·rename_i a e _;have h1:=zjw g5 (g5 c _ he g hg) h;have:=hx a e;omega
theorem zzk (h:(yk_ sw sr bs).2.2=0):(zj_ sw).1=0/\(zj_ sr).1=0/\bs.size<=4000/\∃ ds t ds' t' d j m x,zq_ sw=.ok (ds,t)/\zq_ sr=.ok (ds',t')/\rdB bs (za_ ds) 301 t 0 0=.ok (d,j,m)/\mkP (za_ ds) (za_ ds') (dfOf (za_ ds') sr) 300 t t' d=some x/\ndT x<=300/\yk_ sw sr bs=(txT (za_ ds') x t',j,0):=by
 unfold yk_ at h;split at h
 ·rename_i h0;split at h
  ·rename_i h1;split at h
   ·exact absurd h (by decide)
   ·rename_i h4;obtain⟨_,ds,t,hp⟩:=jt_ h0;obtain⟨_,ds',t',hp'⟩:=jt_ h1;refine⟨h0,h1,by omega,?_⟩;rw[hp,hp'] at h;simp only at h
    cases hq:rdB bs (za_ ds) 301 t 0 0 with
    | error e=>
     rw[hq] at h;have:=zid bs (za_ ds) 301 t 0 0 e hq;simp only at h;omega
    | ok y=>
     obtain⟨d,j,m⟩:=y;rw[hq] at h;simp only at h
     cases hk:mkP (za_ ds) (za_ ds') (dfOf (za_ ds') sr) 300 t t' d with
     | none=>rw[hk] at h;exact absurd h (show ¬ ((8:Int)=0) by decide)
     | some x=>
      rw[hk] at h;simp only at h;split at h
      ·exact absurd h (by decide)
      ·rename_i hn;refine⟨ds,t,ds',t',d,j,m,x,hp,hp',hq,hk,by omega,?_⟩;unfold yk_;rw[if_pos h0,if_pos h1,if_neg h4,hp,hp'];simp only[hq,hk,if_neg hn]
  ·rename_i h1;exact absurd h h1
 ·rename_i h0;exact absurd h h0
theorem zpg (h:(yk_ sw sr bs).2.2≠0):(yk_ sw sr bs).1=noB/\(yk_ sw sr bs).2.1=0:=by
 unfold yk_ at h⊢;split
 ·rename_i h0;rw[if_pos h0] at h;split
  ·rename_i h1;rw[if_pos h1] at h;split
   ·exact⟨rfl,rfl⟩
   ·rename_i h4;rw[if_neg h4] at h;obtain⟨_,ds,t,hp⟩:=jt_ h0;obtain⟨_,ds',t',hp'⟩:=jt_ h1;rw[hp,hp'] at h⊢;simp only at h⊢
    cases hq:rdB bs (za_ ds) 301 t 0 0 with
    | error e=>exact⟨rfl,rfl⟩
    | ok y=>
     obtain⟨d,j,m⟩:=y;rw[hq] at h;simp only at h⊢
     cases hk:mkP (za_ ds) (za_ ds') (dfOf (za_ ds') sr) 300 t t' d with
     | none=>exact⟨rfl,rfl⟩
     | some x=>
      rw[hk] at h;simp only at h⊢;split
      ·exact⟨rfl,rfl⟩
      ·rename_i hn;rw[if_neg hn] at h;exact absurd rfl h
  ·exact⟨rfl,rfl⟩
 ·exact⟨rfl,rfl⟩
theorem zvg (h:(ys_ sw bs).2.2=0):(yk_ sw sr bs).2.2≠6:=by
 obtain⟨h0,hb,ds,t,d,j,m,hp,hq,he⟩:=zz8 h;unfold yk_;rw[if_pos h0];split
 ·rename_i h1;rw[if_neg (by omega)];obtain⟨_,ds',t',hp'⟩:=jt_ h1;rw[hp,hp'];simp only[hq];split
  ·simp
  ·split<;>simp
 ·have:=zvu sr;simp only;omega
theorem zwc (h:(yk_ sw sr bs).2.2=0):(ys_ sw bs).2.2=0/\(ys_ sw bs).2.1=(yk_ sw sr bs).2.1/\((yk_ sw sr bs).1.size<=4000->(x0_ sr (yk_ sw sr bs).1).2=0):=by
 obtain⟨h0,h1,hb,ds,t,ds',t',d,j,m,x,hp,hp',hq,hk,hn,he⟩:=zzk h;obtain⟨g1,g2,g3,g4,g5⟩:=zhe h0 hp;obtain⟨k1,k2,k3,k4,k5⟩:=zhe h1 hp'
 have hdec:ys_ sw bs=(txT (za_ ds) d t,j,0):=by
  unfold ys_;rw[if_pos h0,if_neg (by omega),hp];simp only[hq]
 obtain⟨a1,a2,a3⟩:=zw8 g5 bs 301 t g4 0 0 d j m (by omega) hq;have hx:=zyd (zt2 h1 hp').1 k5 k2 300 t t' d x a1 k4 k3 hk;rw[he,hdec];refine⟨rfl,rfl,λ hz=>?_⟩;simp only at hz⊢;have hr:=zw7 k1 k2 (txT (za_ ds') x t') (2*(txT (za_ ds') x t').size+2) x t' hx k3 0 (At.self _) (by unfold stp;rw[bg_,zef l_];omega) (by omega);rw[bg_] at hr;unfold x0_ xn_;rw[if_pos h1,if_neg (by omega),hp'];simp only[hr,if_true];rw[if_neg (by omega)]
end Go.Proofs.YthmjjpkjgjklmaaGreatDoor
