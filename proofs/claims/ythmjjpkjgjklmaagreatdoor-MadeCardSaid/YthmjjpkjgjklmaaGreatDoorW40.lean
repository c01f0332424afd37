import Derived.Test.YthmjjpkjgjklmaaGreatDoorW38
import Derived.Test.YthmjjpkjgjklmaaGreatDoorA00
set_option maxHeartbeats 16000000
set_option maxRecDepth 100000
set_option linter.unusedSimpArgs false
namespace Go.Proofs.YthmjjpkjgjklmaaGreatDoor
open Go.RowKit
variable {env:Nat->Option PB}{s:BA}
def DdAt (env:Nat->Option PB) (s:BA) (R:Nat->Option (DT×Nat)) (t:PT):Prop:=
 ∀ i d j,i<=s.size->R i=some (d,j)->Dat env d t/\j<=s.size
theorem zpk (hs:s.size<=9223372036854775807){R:Nat->Option (DT×Nat)}{keyed:Bool}{fin:Nat}{u:PT}(hR:DdAt env s R u):∀ (fuel:Nat) (last:Option BA) (i:Nat) (l:List (BA×DT)) (e:Nat),i<=s.size->0<fin->y3_ R s fin keyed fuel last i=some (l,e)->
 (∀ x∈l,Dat env x.2 u)/\(keyed=true->Rise last (l.map Prod.fst))/\l.length<=fuel/\e<=s.size:=by
 intro fuel
 induction fuel with
 | zero=>intro last i l e _ _ h;simp[y3_] at h
 | succ fuel ih=>
  intro last i l e hi hf h;unfold y3_ at h;split at h
  ·simp at h
  ·rename_i k i1 hk;obtain⟨k1,k2,k3⟩:=zvl hs hi hk;have:=k1.1;split at h
   ·simp at h
   ·rename_i d j hd;obtain⟨d1,d2⟩:=hR _ _ _ (by omega) hd;split at h
    ·rename_i hfin;simp only[ad_,ab_] at h;obtain⟨rfl,rfl⟩:=h;have hj:j<s.size:=zl_ (by omega);refine⟨λ x hx=>?_,λ h=>⟨(k3 h).1,(k3 h).2.1,(k3 h).2.2,trivial⟩,by simp,by omega⟩;rw[a6_] at hx;subst hx;exact d1
    ·split at h
     ·rename_i h44;split at h
      ·simp at h
      ·rename_i l' e' he;simp only[ad_,ab_] at h;obtain⟨rfl,rfl⟩:=h;have hj:j<s.size:=zl_ (by omega);obtain⟨a1,a2,a3,a4⟩:=ih (some k) (j+1) l' e' (by omega) hf he;refine⟨λ y hy=>?_,λ h=>⟨(k3 h).1,(k3 h).2.1,(k3 h).2.2,a2 h⟩,by simp;omega,a4⟩
       rcases an_.1 hy with rfl|hy
       ·exact d1
       ·exact a1 y hy
     ·simp at h
theorem zfs {R:PT->Nat->Option (DT×Nat)}:∀ (T:List PT),(∀ u∈T,DdAt env s (R u) u)->∀ (i:Nat) (first:Bool) (ds:List DT) (e:Nat),i<=s.size->zv_ R s first T i=some (ds,e)->
 ds.length=T.length/\(∀ (k:Nat) (x:DT) (u:PT),ds[k]?=some x->T[k]?=some u->Dat env x u)/\e<=s.size
 | [],hR,i,first,ds,e,hi,h=>by
  simp only[zv_,ad_,ab_] at h;obtain⟨rfl,rfl⟩:=h;exact⟨rfl,λ k x u hx=>by simp at hx,hi⟩
 | t::T,hR,i,first,ds,e,hi,h=>by
  have main:∀ i' d j ds' e',i'<=s.size->R t i'=some (d,j)->zv_ R s false T j=some (ds',e')->(d::ds').length=(t::T).length/\(∀ (k:Nat) (x:DT) (u:PT),(d::ds')[k]?=some x->(t::T)[k]?=some u->Dat env x u)/\e'<=s.size:=by
   intro i' d j ds' e' hi' hd he;obtain⟨d1,d2⟩:=hR t (ay_ ..) _ _ _ hi' hd;obtain⟨a1,a2,a3⟩:=zfs T (λ u hu=>hR u (bv_ _ hu)) j false ds' e' d2 he;refine⟨by simp[a1],λ k x u hx hu=>?_,a3⟩
   cases k with
   | zero=>simp at hx hu;subst hx hu;exact d1
   | succ k=>exact a2 k x u (by simpa using hx) (by simpa using hu)
  unfold zv_ at h
  cases first with
  | true=>
   simp only[if_true] at h;split at h
   ·simp at h
   ·rename_i d j hd;split at h
    ·simp at h
    ·rename_i ds' e' he;simp only[ad_,ab_] at h;obtain⟨rfl,rfl⟩:=h;exact main i d j ds' _ hi hd he
  | false=>
   simp only[az_,if_false] at h;split at h
   ·have hl:i<s.size:=zl_ (by omega);split at h
    ·simp at h
    ·rename_i d j hd;split at h
     ·simp at h
     ·rename_i ds' e' he;simp only[ad_,ab_] at h;obtain⟨rfl,rfl⟩:=h;exact main (i+1) d j ds' _ (by omega) hd he
   ·simp at h
theorem zzl (hE:zes env)(hs:s.size<=4000) (pl:Bool):∀ (f:Nat) (t:PT),okT env t->DdAt env s (rdT s env pl f t) t:=by
 intro f
 induction f with
 | zero=>intro t _ i d j _ h;simp[rdT] at h
 | succ f ih=>
  intro t ht i d j hi h
  cases t with
  | leaf c p=>
   unfold rdT va_ at h;split at h
   ·rename_i hc;subst hc;split at h
    ·rename_i hb;have hl:i<s.size:=zl_ (by omega);simp only[ad_,ab_] at h;obtain⟨rfl,rfl⟩:=h;exact⟨.null,by omega⟩
    ·simp at h
   ·split at h
    ·rename_i hc;subst hc;split at h
     ·rename_i hb;have hl:i<s.size:=zl_ (by omega);simp only[ad_,ab_] at h;obtain⟨rfl,rfl⟩:=h;exact⟨Dat.bool (n:=1) (by decide),by omega⟩
     ·split at h
      ·rename_i hb;have hl:i<s.size:=zl_ (by omega);simp only[ad_,ab_] at h;obtain⟨rfl,rfl⟩:=h;exact⟨Dat.bool (n:=0) (by decide),by omega⟩
      ·simp at h
    ·split at h
     ·rename_i hc;split at h
      ·simp at h
      ·rename_i n j' hn;simp only[ad_,ab_] at h;obtain⟨rfl,rfl⟩:=h;obtain⟨a1,a2,a3,a4⟩:=zvk hc hn;have:=a3.1
       rcases hc with rfl|rfl
       ·exact⟨.num a1 a2,by omega⟩
       ·exact⟨.long a1 a2,by omega⟩
     ·split at h
      ·rename_i hc;subst hc;split at h
       ·rename_i hb;have h1:i<s.size:=zl_ (by omega);have h2:zp_ s (i+1)<s.size:=zl_ (by omega);simp only[ad_,ab_] at h;obtain⟨rfl,rfl⟩:=h;obtain⟨x1,x2,x3,x4⟩:=letX (s:=s) (i:=i+1) (by omega);exact⟨.text x4 (by omega),by omega⟩
       ·simp at h
      ·rename_i h1 h2 h3 h4
       have hb:zu_ c=false:=by
        simp[zu_,h1,h2,h4]
        omega
       split at h
       ·simp at h
       ·rename_i pb he;have hok:=hE c pb he;unfold y6_ at h;split at h
        ·rename_i fs;split at h
         ·rename_i h40;have hl:i<s.size:=zl_ (by omega);split at h
          ·simp at h
          ·rename_i ds j' hd;split at h
           ·rename_i h41;have hl':j'<s.size:=zl_ (by omega);simp only[ad_,ab_] at h;obtain⟨rfl,rfl⟩:=h
            obtain⟨a1,a2,a3⟩:=zfs (fs.map PF.ty) (λ u hu=>by
             obtain⟨g,hg,rfl⟩:=bk_.1 hu
             exact ih g.ty (hok g hg)) (i+1) true ds j' (by omega) hd
            exact⟨.recd he hb (by simpa using a1) a2,by omega⟩
           ·simp at h
         ·simp at h
        ·rename_i l o;split at h
         ·rename_i hlt;split at h
          ·simp at h
          ·rename_i q hq;simp only[ad_,ab_] at h;obtain⟨rfl,rfl⟩:=h;obtain⟨hq1,_⟩:=List.findIdx?_eq_some_iff_getElem.1 hq;exact⟨.sym he hb (by simpa using hq1),by omega⟩
         ·simp at h
        ·rename_i n;split at h
         ·rename_i hc;have h1':i<s.size:=zl_ (by omega);have h2':zp_ s (i+1)<s.size:=zl_ (by omega);simp only[ad_,ab_] at h;obtain⟨rfl,rfl⟩:=h;obtain⟨x1,x2,x3,x4⟩:=letX (s:=s) (i:=i+1) (by omega);exact⟨.bytes (by rw[x2,hc.2.1];exact he) hb x4,by omega⟩
         ·simp at h
  | wrap c p u=>
   unfold okT at ht;unfold rdT vt_ at h;split at h
   ·rename_i hc;have hl:i<s.size:=zl_ (by rcases ht.1 with rfl|rfl<;>omega);split at h
    ·simp at h
    ·rename_i l j' hL;simp only[ad_,ab_] at h;obtain⟨rfl,rfl⟩:=h
     have key:∀ (fin:Nat) (keyed:Bool),x7_ c=fin->(c==123)=keyed->0<fin->(∀ x∈l,Dat env x.2 u)/\(keyed=true->Rise none (l.map Prod.fst))/\l.length<=s.size+2/\j'<=s.size:=by
      intro fin keyed h1 h2 h3;rw[h1,h2] at hL;unfold zcr at hL;split at hL
      ·rename_i hfin;have hl':i+1<s.size:=zl_ (by omega);simp only[ad_,ab_] at hL;obtain⟨rfl,rfl⟩:=hL;exact⟨λ x hx=>(by cases hx),λ _=>trivial,by simp,by omega⟩
      ·exact zpk (by omega) (ih u ht.2) _ _ _ _ _ (by omega) h3 hL
     rcases ht.1 with rfl|rfl
     ·obtain⟨b1,b2,b3,b4⟩:=key 93 false rfl rfl (by decide);simp only[show((91:Nat)==123)=false from rfl,az_,if_false];refine⟨.list (by simp;omega) (λ d hd=>?_),b4⟩;obtain⟨x,hx,rfl⟩:=bk_.1 hd;exact b1 x hx
     ·obtain⟨b1,b2,b3,b4⟩:=key 125 true rfl rfl (by decide);simp only[show((123:Nat)==123)=true from rfl,if_true];refine⟨.map (by simp;omega) (by simp) (b2 rfl) (λ d hd=>?_),b4⟩;obtain⟨x,hx,rfl⟩:=bk_.1 hd;exact b1 x hx
   ·simp at h
  | alts p ts=>
   unfold okT at ht;unfold rdT y9_ at h;split at h
   ·split at h
    ·cases h
    ·rename_i t0 r0;split at h
     ·simp at h
     ·rename_i d' j' hd;simp only[ad_,ab_] at h;obtain⟨rfl,rfl⟩:=h;obtain⟨b1,b2⟩:=ih t0 (j6_ ht.2 t0 (ay_ ..)).2 _ _ _ hi hd;exact⟨Dat.alts (n:=0) (by omega) rfl b1,b2⟩
   ·split at h
    ·rename_i hc;obtain⟨c1,c2,c3,c4⟩:=hc;have hbe:y5_ s (i+1)<s.size:=zl_ (by omega)
     have hrun:decB ((zd1 s (i+1) (y5_ s (i+1)-(i+1)):Nat):Int)=s.extract (i+1) (y5_ s (i+1)):=by
      have hg:=(yj_ 48 57 s _ (i+1) l_).1
      have hge:i+1<=y5_ s (i+1):=by unfold y5_;omega
      rw[zde _ (by omega),show i+1+(y5_ s (i+1)-(i+1))=y5_ s (i+1) by omega];exact zw5 (by omega) (by omega) (λ k k1 k2=>x9_ 48 57 s _ (i+1) l_ k k1 (by unfold y5_ at k2;omega)) (λ hh=>c3 ⟨hh.1,by omega⟩)
     have hsz:(s.extract (i+1) (y5_ s (i+1))).size<=3:=by rw[as_];unfold y5_;omega
     generalize zd1 s (i+1) (y5_ s (i+1)-(i+1))=q at h hrun;split at h
     ·simp at h
     ·rename_i u hu;split at h
      ·simp at h
      ·rename_i d' j' hd;split at h
       ·rename_i h62;have hj:j'<s.size:=zl_ (by omega);simp only[ad_,ab_] at h;obtain⟨rfl,rfl⟩:=h;obtain⟨b1,b2⟩:=ih u (j6_ ht.2 u (ak_ hu)).2 _ _ _ (by omega) hd
        have hq:q<=9223372036854775807:=by
         obtain⟨f1,f2,_⟩:=ja_ _ q l_;have h1:=zli f1;rw[f2,<- xq_,<- xw_,hrun] at h1;have h2:10 ^ (s.extract (i+1) (y5_ s (i+1))).size<=10 ^ 3:=Nat.pow_le_pow_right (by decide) hsz;omega
        exact⟨.alts hq hu b1,by omega⟩
       ·simp at h
    ·simp at h
theorem zr3 (hE:zes env)(hs:s.size<=4000){pl:Bool}{t:PT}(ht:okT env t){d:DT}(h:xn_ env pl t s=some d):Dat env d t:=by
 unfold xn_ at h;split at h
 ·cases h
 ·rename_i d' j hr;split at h
  ·simp only[ad_] at h;subst h;exact(zzl hE hs pl _ t ht 0 d' j o_ hr).1
  ·cases h
end Go.Proofs.YthmjjpkjgjklmaaGreatDoor
