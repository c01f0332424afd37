import Derived.Test.YtokgeopihcopeaaGreatDoorW05
set_option linter.unusedVariables false
set_option maxHeartbeats 16000000
set_option maxRecDepth 100000
set_option linter.defProp false
set_option linter.unusedSimpArgs false
open Go.Proofs.Tryz
namespace Go.Proofs.YtokgeopihcopeaaGreatDoor
open Go.RowKit
variable {i f fin j' p:Nat}{keyed bad':Aq}{t:PT}{e:Ak}
def zw{w:Aw}{base size n:Nat}{e:Av}{v:Ax}{xs:Ay}(h:w.ownsRow base e size v n xs):∃a c,v=.slice a n c:=by
 rcases h.2 with⟨h1,h0⟩|⟨g,b,_,h1,_⟩
 .subst h0;exact⟨_,_,h1⟩
 .exact⟨_,_,h1⟩
section
variable {w W W':Aw} {P:Az} {bl:Nat} {s:BA} {bz:Nat} {pl:Aq} {j:Nat} {bad:Aq} {ts:Ap} {env:Au} {b0 b1 B c:Nat} {vk vs:Ax} {ks:Dq} {n:Nat} {xs:Ay}
def kY.lm{d:Nat}(hd:0<d)(Q:LM w P bl s bz pl j bad ts env b0 b1 B c vk vs ks n xs W)(h:kY W bl s bz pl j bad d W'):∃j' bad',LM w P bl s bz pl j' bad' ts env b0 b1 B c vk vs ks n xs W'/\Fr W W' (· = bl)/\H_ ((bad=false/\bt s j=d/\j'=j+1/\bad'=false)\/((bad=true\/bt s j≠d)/\j'=j/\bad'=true)):=by
 obtain⟨j',bad',a,hf,b⟩:=kY.any hd Q.M h;exact⟨j',bad',Q.call a.L hf a.jl,hf,b⟩
def kz.lm(Q:LM w P bl s bz pl j bad ts env b0 b1 B c vk vs ks n xs W)(h:kz W bl s bz pl j bad e W'):∃tx j',e=.returned (.string tx)/\LM w P bl s bz pl j' bad ts env b0 b1 B c vk vs ks n xs W'/\Fr W W' (· = bl)/\tx.size<=4000/\H_ (tx=s.extract j j'/\j<=j'/\(bad=false->j'=zo s j)):=by
 obtain⟨tx,j',he,a,hf,hx,b⟩:=kz.any Q.M h;exact⟨tx,j',he,Q.call a.L hf a.jl,hf,hx,b⟩
def zL.lm{r:Dh}(Q:LM w P bl s bz pl j bad ts env b0 b1 B c vk vs ks n xs W)(h:zL W bl s bz pl r e W'):∃(k:Nat) (m:Int) (tx:BA) (a1:Option Addr) (m1 c1:Nat) (a2:Option Addr) (m2 c2:Nat) (j':Nat) (bad':Bool),e=.returned (.agg #[U_ k,Z_ m,.string tx,.slice a1 m1 c1,.slice a2 m2 c2])/\LM w P bl s bz pl j' bad' ts env b0 b1 B c vk vs ks n xs W'/\Fr W W' (· = bl)/\
  H_ ((∃d,r=some (d,j')/\bad'=false)\/(r=none/\bad'=true)):=by
 obtain⟨k,m,tx,a1,m1,c1,a2,m2,c2,he,hf,a⟩:=h;cases r with
 |none=>
  obtain⟨j',h1,b⟩:=a;exact⟨k,m,tx,a1,m1,c1,a2,m2,c2,j',true,he,Q.call b hf h1,hf,.inr ⟨rfl,rfl⟩⟩
 |some q=>
  exact⟨k,m,tx,a1,m1,c1,a2,m2,c2,q.2,false,he,Q.call a.2 hf a.1,hf,.inl ⟨q.1,rfl,rfl⟩⟩
end
def Gs(R_:Du)(R:Al)(s:BA)(fin:Nat)(keyed:Aq)(acc:Ag)(i j j':Nat)(bad':Aq):Prop:=
 (bad'=false/\j<=j'/\i+acc.length<=j'/\∃nn,s.size<nn+j'/\R_=pZ acc (yc R s fin keyed nn (kP acc) j'))\/(bad'=true/\R_=none)
def Gn(R_:Du)(R:Al)(s:BA)(fin:Nat)(keyed:Aq)(acc:Ag)(i j:Nat)(tx:BA)(j':Nat)(bad':Aq):Prop:=
 (bad'=false/\j<=j'/\i+acc.length<=j'/\∃nn,s.size<nn+1+j'/\R_=if bt s j'=58 then nc R s fin keyed nn acc tx (j'+1) else none)\/(bad'=true/\R_=none)
def Mg(R_:Du)(R:Al)(s:BA)(fin:Nat)(keyed:Aq)(acc:Ag)(ks:Dq)(i j j':Nat)(bad':Aq):Prop:=
 (bad'=false/\j<=j'/\i+acc.length<=j'/\∃nn key,(∀d,ks=km keyed (acc++[(key,d)]))/\s.size<nn+1+j'/\R_=nc R s fin keyed nn acc key j')\/(bad'=true/\R_=none)
def ZE{a:Du}{R:Al}{s:BA}{j:Nat}(d:j=i)(hc:bt s j≠fin)(b:a=if bt s i=fin then some ([],i+1) else pZ [] (yc R s fin keyed (s.size+2) none i)):Gs a R s fin keyed [] i j j false:=by
 subst d;rw[n_ hc]at b;exact .inl ⟨rfl,l_,by simp,s.size+2,M_,b⟩
def VE{d:Du}{R:Al}{s:BA}{b:Ag}{j nn:Nat}(hc:bt s j≠fin)(g:i+b.length<=j)(g:s.size<nn+j)(a:d=nM R s fin keyed nn b j)(g:(bt s j=44/\j'=j+1/\bad'=false)\/(bt s j≠44/\j'=j/\bad'=true)):Gs d R s fin keyed b i j j' bad':=by
 unfold nM at a;rw[n_ hc]at a;rcases g with⟨h,rfl,rfl⟩|⟨h,rfl,rfl⟩
 .rw[i_ h]at a;exact .inl ⟨rfl,M_,M_,nn,M_,a⟩
 .rw[n_ h]at a;exact .inr ⟨rfl,a⟩
def ZI{b:Du}{R:Al}{s:BA}{a:Ag}{j:Nat}(q:j'<=s.size)(h:Gs b R s fin false a i j j' bad')(ks:Dq)(o:bad'=false->ks=km false a):Mg b R s fin false a ks i j j' bad':=by
 rcases h with⟨rfl,h1,l,nn,a,g⟩|h
 .obtain⟨m,rfl⟩:∃m,nn=m+1:=⟨nn-1,M_⟩;rw[cy]at g;refine .inl ⟨rfl,h1,l,m,noB,λd=>by rw[o rfl];rfl,M_,g⟩
 .exact .inr h
def ib{g:Du}{R:Al}{s:BA}{b:Ag}{j a:Nat}{tx:BA}(q:j'<=s.size)(h:Gs g R s fin true b i j j' bad')(l:tx=s.extract j' a/\j'<=a/\(bad'=false->a=zo s j')):(kV (kP b) tx=true->Gn g R s fin true b i j tx a bad')/\(kV (kP b) tx=false->Gn g R s fin true b i j tx a true):=by
 rcases h with⟨rfl,h1,b,nn,b,d⟩|h
 .obtain⟨m,rfl⟩:∃m,nn=m+1:=⟨nn-1,M_⟩;rw[cy]at d;have o:=l.2.2 rfl;unfold kJ at d;rw[i_ rfl,<- o,<- l.1]at d;refine⟨λhr=>.inl ⟨rfl,M_,M_,m,M_,?_⟩,λhr=>.inr ⟨rfl,?_⟩⟩
  .rw[d,hr];by_cases hb:bt s a=58
   .rw[i_ ⟨hb,rfl⟩,i_ hb]
   .rw[n_ (λx=>hb x.1),n_ hb]
  .rw[d,hr,n_ (λx=>by simp at x)]
 .exact⟨λ_=>.inr h,λ_=>.inr ⟨rfl,h.2⟩⟩
def aM{l:Du}{R:Al}{s:BA}{g:Ag}{j b:Nat}{bad:Aq}{tx:BA}{ks:Dq}(o:ks=km true g)(h:Gn l R s fin true g i j tx j' bad)(m:(bad=false/\bt s j'=58/\b=j'+1/\bad'=false)\/((bad=true\/bt s j'≠58)/\b=j'/\bad'=true)):Mg l R s fin true g (ks++[tx]) i j b bad':=by
 rcases h with⟨rfl,h1,g,nn,g,a⟩|⟨rfl,h⟩
 .rcases m with⟨_,hb,rfl,rfl⟩|⟨hb,rfl,rfl⟩
  .rw[i_ hb]at a;exact .inl ⟨rfl,M_,M_,nn,tx,λd=>by rw[o];simp[km],M_,a⟩
  .have g:bt s b≠58:=by simpa using hb
   rw[n_ g]at a;exact .inr ⟨rfl,a⟩
 .rcases m with⟨hb,_⟩|⟨_,rfl,rfl⟩
  .cases hb
  .exact .inr ⟨rfl,h⟩
def ls{a:Ag}{ks:Dq}(b:ks=km true a):(ks=[]->kP a=none)/\(∀q d,ks=q++[d]->kP a=some d):=by
 unfold km at b;rw[i_ rfl]at b;subst b;refine⟨λh=>?_,λq d h=>?_⟩
 .rw[List.map_eq_nil_iff]at h;subst h;rfl
 .unfold kP;rw[<- List.getLast?_map,h];simp
def cwFU1_{p:Prop}(h:p:=by
 clear t32 Q2;obtain⟨tx,j2,bad2,rfl,Q2,hx,o2⟩:=hcut;have hj2:=Q2.M.jl;have hBl:=Q2.bB;replace Q2:=zy Q2;replace o2:=zy o2;go_wp2_with (first
  |(go_at_call 99;apply(xQ 58 Q2.o.M.L hsl hj2 rfl D_).mono;rintro e w3 ⟨rfl,hE⟩;obtain⟨j3,bad3,Q3,F3,hJ⟩:=kY.lm D_ Q2.o hE;have hBl3:=Q3.bB;have t33:=Q3.r1.cell 3;simp only[zW,aa_,ab_]at t33;replace Q3:=zy Q3;clear hE)
  |(at_builtin;go_must ((first|(have:=cc1;refine wpList_append_own_at _ rfl _ _ 105 rfl (w.heap.size+2) 9 si _ 1 16 QR hs1 hs2 hs3 hs4 rfl D_ (S_ gk ks.length kc) ks.length (ks.map Value.string) rfl ?hown _ 1 1 [.string tx] rfl rfl (zK _ #[.string tx] _ _ ?nn) ?one ?b1 ?b2 ?b3 ?_)|(refine wpList_append_own_at _ rfl _ _ 105 rfl (w.heap.size+2) 9 si _ 1 16 QR hs1 hs2 hs3 hs4 rfl D_ (.slice ka ks.length kc) ks.length (ks.map Value.string) rfl ?hown _ 1 1 [.string tx] rfl rfl (zK _ #[.string tx] _ _ ?nn) ?one ?b1 ?b2 ?b3 ?_)))
    case hown=>exact World.ownsRow.alloc Q3.o.kr _
    case nn=>simp
    case one=>simp[Value.oneCell']
    case b1=>unfold maxLen;omega
    case b2=>omega
    case b3=>simp;omega
    intro v5 w5 ho5 hg5 hn5 hl5
    have I5:=Q3.o.key hg5 ho5 hl5
    obtain⟨e5,f5⟩:=Q3.o.keyCell hg5
    obtain⟨g5,cap5,rfl⟩:=zg ho5 M_
    clear hg5 hl5 hn5 ho5
    replace I5:=zy I5))
 go_meet;case rel=>
  have Q5:=I5.o;have el:(ks++[tx]).length=ks.length+1:=x6_
  refine⟨j3,bad3,some ⟨g5,0,none⟩,cap5,ks++[tx],?_,M_,aM hks.o o2.o hJ.o⟩;rw[el];exact Q5):p:=h
def FU{w:Aw}{P:Az}{bl:Nat}{s:BA}{bz:Nat}{pl:Aq}{ts:Ap}{env:Au}{k:Nat}(M:DM w P bl s bz pl i false ts env w)(hk:isT ts k t)(d7:fin=93\/fin=125)(hR:∀j,i<=j->j<=s.size->vS s env pl ts f t j):Calls prog 103 #[P_ bl,I_ k,U_ fin,.bool keyed] w (zL w bl s bz pl (XL keyed (jQ (rdT s env pl f t) s fin keyed i))):=by
 have hsl:=M.sl;have e9:=M.jl;have b5:0<fin:=M_;have e8:fin≠44:=M_;obtain⟨E,a0⟩:=e_ (jQ (rdT s env pl f t) s fin keyed i);rw[<- a0];refine hq_ λe7 Q_=>?_;obtain⟨R,S⟩:=e_ (rdT s env pl f t);rw[<- S]at a0;have start:Ct E R fin keyed i w P bl s bz pl ts env (s.size+3) ((w.alloc (.cells zV.toArray 108)).alloc (.cells zV.toArray 108)):=
  ⟨_,_,_,_,_,.inl ⟨[],i,og M,rfl,by simp[km],M_,.inl ⟨rfl,rfl,by rw[a0,jQ,Xm]⟩⟩⟩
 replace start:=zy start;replace hk:=zy hk;replace S:=zy S;replace hR:=zy hR;go_in;go_wp2;go_loopg [] (s.size+3) (λm W=>Ct E R fin keyed i w P bl s bz pl ts env m W);case atStart=>exact start
 case round=>
  obtain⟨vk,vs,ks,n,xs,hG|hB⟩:=hrel
  .obtain⟨x,j,Q,D,hks,hm,X⟩:=hG;obtain⟨ka,kc,rfl⟩:=zw Q.kr;obtain⟨J,K,rfl⟩:=zw Q.vr;have z:=Q.M.jl;have c2:=Q.M.L.c2;have t4:=Q.r1.cell 4;have t3:=Q.r1.cell 3;simp only[zW,aa_,ab_]at t3 t4;obtain⟨c,hc⟩:=x_ (bt s j);have H:=zy (show lk s j false=c by simp[lk,hc]);have A:H_ (n=x.length):=zy D;replace Q:=zy Q;replace D:=zy D;replace hks:=zy hks;by_cases a3:c=fin
   .subst a3;have e1:((c:Int) != (c:Int))=false:=x6_
    have G:j<s.size:=zp M_;rcases X with⟨F,y,l⟩|⟨V,a7,nn,b7,l⟩
    .subst F;have U:n=0:=A.o;subst U;replace l:=zy l;replace y:=zy y;replace hc:=zy hc;go_wp2_with (first
      |(go_at_call 100;apply(yA Q.o.M.L hsl z).mono;rintro e w1 ⟨rfl,I⟩;rw[H.o];have g:=zy (Q.o.si I);have N:=g.o.r1.cell 4;have a9:=g.o.M.L.c2;simp only[zW,aa_,ab_]at N)
      |(go_at_call 99;apply(xQ c g.o.M.L hsl z rfl b5).mono;rintro e w2 ⟨rfl,hE⟩;obtain⟨j2,bad2,Q2,F2,hJ⟩:=kY.lm b5 g hE;obtain⟨r0,r1,C,Y,Z⟩:=Q2.r0.f5;obtain⟨g0,g1,g2,g3,g4⟩:=Q2.r0.t5;obtain⟨t0,t1,t2,t3,t4⟩:=Q2.r1.f5;simp only[zV,zW,aa_,ab_,az_]at r0 r1 C Y Z t0 t1 t2 t3 t4;have u:=zy Q2.r0;replace Q2:=zy Q2))
     refine zU results103 u.o (λW5 O _=>?_);rw[Q_.o];rcases hJ.o with⟨_,_,rfl,rfl⟩|⟨h1,_,_⟩
     .refine vb Q2.o.M O ?_;rw[l.o,<- y.o,i_ hc.o];rfl
     .exact absurd hc.o (by simpa using h1)
    .have b9:0<x.length:=List.length_pos_iff.2 V;have U:(0:Int)<(n:Int):=by have:=A.o;omega
     replace l:=zy l;replace hc:=zy hc;go_wp2_with (first
      |(go_at_call 100;apply(yA Q.o.M.L hsl z).mono;rintro e w1 ⟨rfl,I⟩;rw[H.o];have g:=zy (Q.o.si I);have N:=g.o.r1.cell 4;simp only[zW,aa_,ab_]at N)
      |(go_at_call 100;apply(yA g.o.M.L hsl z).mono;rintro e w2 ⟨rfl,a8⟩;rw[H.o];have Q2:=g.o.si a8;have T:=Q2.M.L.c1;have T:=Q2.M.L.th 1;have Q3:=Q2.inc G;obtain⟨r0,r1,C,Y,Z⟩:=Q3.r0.f5;obtain⟨g0,g1,g2,g3,g4⟩:=Q3.r0.t5;obtain⟨t0,t1,t2,t3,t4⟩:=Q3.r1.f5;simp only[zV,zW,aa_,ab_,az_]at r0 r1 C Y Z t0 t1 t2 t3 t4;have u:=zy Q3.r0;replace Q2:=zy Q2;replace Q3:=zy Q3))
     refine zU results103 u.o (λW5 O _=>?_);rw[Q_.o];refine vb Q3.o.M O ?_;rw[l.o,nM,i_ hc.o];rfl
   .have e1:((c:Int) != (fin:Int))=true:=x1_
    have e2:((c:Int)==(fin:Int))=false:=x1_
    have b4:=zy (show bt s j≠fin by rw[hc];exact a3);have e6:n<=4000:=by
     have h0:=A.o;rcases X with⟨rfl,_,_⟩|⟨_,a7,_⟩
     .simp at h0;omega
     .omega
    replace X:=zy X;go_upto_if 33 with(go_at_call 100;apply(yA Q.o.M.L hsl z).mono;rintro e w1 ⟨rfl,I⟩;rw[H.o];have g:=Q.o.si I;have N:=g.r1.cell 4;have a9:=g.M.L.c2;simp only[zW,aa_,ab_]at N;replace g:=zy g);go_cut [] (λW=>∃j' bad',LM w P bl s bz pl j' bad' ts env w.heap.size (w.heap.size+1) (w.heap.size+2) 0 (.slice ka ks.length kc) (.slice J n K) ks n xs W/\Gs E R s fin keyed x i j j' bad');case first=>
     rcases X.o with⟨F,y,l⟩|⟨V,a7,nn,b7,l⟩
     .have U:n=0:=by rw[A.o,F];rfl
      subst U;replace l:=zy l;replace y:=zy y;replace F:=zy F;go_wp2;go_meet;case rel=>
       refine⟨j,false,g,?_⟩;have:=F.o;subst this;exact ZE y b4 l
     .have b9:0<x.length:=List.length_pos_iff.2 V;have U:(0:Int)<(n:Int):=by have:=A.o;omega
      replace l:=zy l;replace V:=zy V;go_wp2_with (first
       |(go_at_call 100;apply(yA g.o.M.L hsl z).mono;rintro e w2 ⟨rfl,a8⟩;rw[H.o];have Q2:=zy (g.o.si a8))
       |(go_at_call 99;apply(xQ 44 Q2.o.M.L hsl z rfl D_).mono;rintro e w3 ⟨rfl,hE⟩;obtain⟨j3,bad3,Q3,F3,hJ⟩:=kY.lm D_ Q2 hE;replace Q3:=zy Q3))
      go_meet;case rel=>
       refine⟨j3,bad3,Q3,VE b4 a7 b7 l ?_⟩;rcases hJ.o with⟨_,a,b,c⟩|⟨a,b,c⟩
       .exact .inl ⟨a,b,c⟩
       .exact .inr ⟨by simpa using a,b,c⟩
    case rest=>
     obtain⟨z,a5,g,o1⟩:=hcut;have G:=g.M.jl;replace g:=zy g;replace o1:=zy o1;replace hc:=zy hc;replace a3:=zy a3;go_upto_if 48 with fail;go_cut [] (λW=>∃j' bad' F H y,LM w P bl s bz pl j' bad' ts env w.heap.size (w.heap.size+1) (w.heap.size+2) 0 (.slice F y.length H) (.slice J n K) y n xs W/\y.length<=5000/\Mg E R s fin keyed x y i j j' bad');case first=>
      have y:ks.length<=4000:=by
       rw[hks.o];unfold km;split
       .rw[bu_,<- A.o];exact e6
       .simp
      cases keyed with
      |false=>
       go_wp2;go_meet;case rel=>exact⟨z,a5,ka,kc,ks,g,M_,ZI G o1 ks (λ_=>hks)⟩
      |true=>
       obtain⟨si,hs1,hs2,hs3,hs4⟩:=info_parts Cx;rcases List.eq_nil_or_concat ks with u|⟨q,kl,u⟩
       .have a4:=zy ((ls hks).1 u);have e4:=zy (show ks.length=0 by rw[u];rfl);replace u:=zy u;go_upto_if 66 with(go_at_call 102;apply(qE g.o.M.L hsl G).mono;intro e w2 T;obtain⟨tx,j2,rfl,Q2,F2,hx,hK⟩:=T.lm g;have t32:=Q2.r1.cell 3;simp only[zW,aa_,ab_]at t32;rw[e4.o]at t32;replace Q2:=zy Q2);go_cut [10] (λv W=>∃tx j' bad',v=.string tx/\LM w P bl s bz pl j' bad' ts env w.heap.size (w.heap.size+1) (w.heap.size+2) 0 (.slice ka ks.length kc) (.slice J n K) ks n xs W/\tx.size<=4000/\Gn E R s fin true x i j tx j' bad');case first=>
         go_wp2;go_meet;case rel=>exact⟨tx,j2,a5,rfl,Q2,hx,(ib G o1 hK).1 (by rw[a4.o];rfl)⟩
        case rest=>
         exact cwFU1_
       .have a4:=zy ((ls hks).2 q kl (by simpa using u));have hm:ks.length=q.length+1:=by rw[u];simp
        have y:q.length<=4000:=M_;have d6:=zy (show(ks.map Value.string)[q.length]?=some (.string kl) by rw[u];simp);obtain⟨gk,y,b6⟩:=zg g.o.kr M_;simp only[Value.slice.injEq,true_and]at b6;obtain⟨rfl,rfl⟩:=b6;replace u:=zy u;replace hm:=zy hm;go_upto_if 66 with(go_at_call 102;apply(qE g.o.M.L hsl G).mono;intro e w2 T;obtain⟨tx,j2,rfl,Q2,F2,hx,hK⟩:=T.lm g;have t32:=Q2.r1.cell 3;simp only[zW,aa_,ab_]at t32;rw[hm.o]at t32;have u:=zr Q2.kr rfl d6;replace Q2:=zy Q2);go_cut [10] (λv W=>∃tx j' bad',v=.string tx/\LM w P bl s bz pl j' bad' ts env w.heap.size (w.heap.size+1) (w.heap.size+2) 0 (S_ gk ks.length kc) (.slice J n K) ks n xs W/\tx.size<=4000/\Gn E R s fin true x i j tx j' bad');case first=>
         have u:=Q2.o.M.L.c2;have u:=Q2.o.M.L.th 2;cases hb:Op.bytesLess kl.toList tx.toList
         .go_wp2;go_meet;case rel=>exact⟨tx,j2,true,rfl,Q2.o.sp,hx,(ib G o1 hK).2 (by rw[a4.o];exact hb)⟩
         .go_wp2;go_meet;case rel=>exact⟨tx,j2,a5,rfl,Q2,hx,(ib G o1 hK).1 (by rw[a4.o];exact hb)⟩
        case rest=>
         have cc1:=Nat;exact cwFU1_
     case rest=>
      obtain⟨j2,bad2,g,g,b8,Q2,g,o2⟩:=hcut;have hj2:=Q2.M.jl;obtain⟨ti,d8,d9,e0,e3⟩:=info_parts XS;obtain⟨C,u⟩:=e_ (if bad2=true then none else R j2);have g:=zy (show Calls prog 66 #[P_ bl,I_ k] wc (zL wc bl s bz pl C) by
       cases bad2 with
       |true=>rw[u,i_ rfl];exact YA t wc P bl bz k j2 Q2.M.here hk
       |false=>
        rw[u,n_ D_,S.o]
        refine hR.o j2 ?_ hj2 wc P bl bz k Q2.M.here hk
        rcases o2 with⟨_,_,h,_⟩|⟨h,_⟩
        .omega
        .cases h)
      have hBl:=Q2.bB;replace Q2:=zy Q2;replace o2:=zy o2;replace u:=zy u;go_wp2_with (first
       |(go_at_call 66;apply g.o.mono;intro e w3 hP;obtain⟨T,dm,a6,a1,m1,c1,a2,m2,c2,j3,bad3,rfl,Q3,F3,hJ⟩:=zL.lm Q2 hP;have g:=Q3.alloc (.cells (zW T dm a6 (.slice a1 m1 c1) (.slice a2 m2 c2)).toArray 108);have t4:=g.r1.cell 4;simp only[zW,aa_,ab_]at t4;have hBl3:=Q3.bB;replace Q3:=zy Q3;replace g:=zy g)
       |(at_builtin;go_must (refine wpList_append_own_at _ rfl _ _ 106 rfl (w.heap.size+2) 108 ti _ 5 80 Xa d8 d9 e0 e3 rfl D_ (.slice J n K) n xs rfl ?hown _ 1 1 (zW T dm a6 (.slice a1 m1 c1) (.slice a2 m2 c2)) rfl rfl (zK _ (zW T dm a6 (.slice a1 m1 c1) (.slice a2 m2 c2)).toArray _ _ ?nn) ?one ?b1 ?b2 ?b3 ?_)
         case hown=>exact World.ownsRow.alloc g.o.vr _
         case nn=>simp
         case one=>simp[zW,Value.oneCell']
         case b1=>unfold maxLen;omega
         case b2=>omega
         case b3=>simp;omega
         intro v5 w5 ho5 hg5 hn5 hl5
         have I5:=g.o.item hg5 ho5 hl5
         obtain⟨e5,f5⟩:=g.o.ie hg5
         obtain⟨g5,cap5,rfl⟩:=zg ho5 M_
         replace I5:=zy I5))
      have Q5:=I5.o;rcases hJ.o with⟨d,hr,rfl⟩|⟨hr,rfl⟩
      .have d2:bad2=false:=by
        cases hb:bad2 with
        |false=>rfl
        |true=>rw[u.o,hb]at hr;cases hr
       subst d2;have g:R j2=some (d,j3):=by rw[<- hr,u.o];rfl
       have y:=vD s env pl f t j2 d j3 (by rw[<- S.o];exact g);rcases o2.o with⟨_,h1,y,nn,key,z,y,y⟩|⟨hb,_⟩
       .go_roundg (s.size+2-j3);case measure=>omega
        case rel=>
         refine⟨_,_,b8,n+1,_,.inl ⟨x++[(key,d)],j3,Q5,by rw[ag_,ao_,D.o],z d,l_,.inr ⟨by simp,by rw[ag_,ao_];omega,nn,M_,?_⟩⟩⟩;rw[y,nc,g]
       .cases hb
      .go_roundg 0;case measure=>omega
       case rel=>
        refine⟨_,_,b8,n+1,_,.inr ⟨j3,Q5,?_⟩⟩;rcases o2.o with⟨hb,_,_,nn,key,_,_,y⟩|⟨_,h⟩
        .have g:R j2=none:=by rw[<- hr,u.o,hb];rfl
         rw[y,nc,g]
        .exact h
  .obtain⟨j,Q,l⟩:=hB;obtain⟨ka,kc,rfl⟩:=zw Q.kr;obtain⟨J,K,rfl⟩:=zw Q.vr;have c2:=Q.M.L.c2;obtain⟨r0,r1,C,Y,Z⟩:=Q.r0.f5;obtain⟨g0,g1,g2,g3,g4⟩:=Q.r0.t5;obtain⟨t0,t1,t2,t3,t4⟩:=Q.r1.f5;simp only[zV,zW,aa_,ab_,az_]at r0 r1 C Y Z t0 t1 t2 t3 t4;have g:=zy Q.r0;replace Q:=zy Q;replace l:=zy l;go_wp2;refine zU results103 g.o (λW5 O _=>?_);rw[Q_.o];exact vA Q.o.M O (by rw[l.o];rfl)
def Wb{w:Aw}{P:Az}{bl:Nat}{s:BA}{bz:Nat}{pl:Aq}{ts:Ap}{env:Au}{k:Nat}(M:DM w P bl s bz pl i true ts env w):Calls prog 103 #[P_ bl,I_ k,U_ fin,.bool keyed] w (zL w bl s bz pl none):=by
 refine hq_ λa b=>?_;have start:=zy (og M);go_in;go_wp2;go_loopg [] 0 (λ_ W=>LM w P bl s bz pl i true ts env w.heap.size (w.heap.size+1) (w.heap.size+2) 0 (L_) (L_) [] 0 [] W);case atStart=>exact start
 case round=>
  have Q:=hrel;have c2:=Q.M.L.c2;obtain⟨r0,r1,a,d,g⟩:=Q.r0.f5;obtain⟨h,h,h,h,h⟩:=Q.r0.t5;obtain⟨h,l,m,t3,t4⟩:=Q.r1.f5;simp only[zV,zW,aa_,ab_,az_]at r0 r1 a d g h l m t3 t4;have a:=zy Q.r0;replace Q:=zy Q;go_wp2;refine zU results103 a.o (λa a _=>?_);rw[b.o];exact vA Q.o.M a rfl
def ou{w:Aw}{P:Az}{bl:Nat}{s:BA}{bz:Nat}{pl:Aq}{bad:Aq}{ts:Ap}{env:Au}{k:Nat}{e:Int}(fin:Nat)(M:DM w P bl s bz pl i bad ts env w)(hk:isT ts k t)(he:e=(fin:Int))(b:fin=93\/fin=125)(a:bad=false->∀j,i<=j->j<=s.size->vS s env pl ts f t j):Calls prog 103 #[P_ bl,I_ k,.int .u8 e,.bool keyed] w (zL w bl s bz pl (if bad=true then none else XL keyed (jQ (rdT s env pl f t) s fin keyed i))):=by
 subst he;cases bad with
 |true=>rw[i_ rfl];exact Wb M
 |false=>rw[n_ D_];exact FU M hk b (a rfl)
def zL.any{w W W':Aw}{P:Az}{bl:Nat}{s:BA}{bz:Nat}{pl:Aq}{j:Nat}{bad:Aq}{ts:Ap}{env:Au}{r:Dh}(M:DM w P bl s bz pl j bad ts env W)(h:zL W bl s bz pl r e W'):∃(k:Nat) (m:Int) (tx:BA) (a1:Option Addr) (m1 c1:Nat) (a2:Option Addr) (m2 c2:Nat) (j':Nat) (bad':Bool),e=.returned (.agg #[U_ k,Z_ m,.string tx,.slice a1 m1 c1,.slice a2 m2 c2])/\DM w P bl s bz pl j' bad' ts env W'/\Fr W W' (· = bl)/\
  H_ ((∃d,r=some (d,j')/\bad'=false)\/(r=none/\bad'=true)):=by
 obtain⟨k,m,tx,a1,m1,c1,a2,m2,c2,he,hf,a⟩:=h;cases r with
 |none=>
  obtain⟨j',h1,b⟩:=a;exact⟨k,m,tx,a1,m1,c1,a2,m2,c2,j',true,he,M.call b hf h1,hf,.inr ⟨rfl,rfl⟩⟩
 |some q=>
  exact⟨k,m,tx,a1,m1,c1,a2,m2,c2,q.2,false,he,M.call a.2 hf a.1,hf,.inl ⟨q.1,rfl,rfl⟩⟩
def DT.withKind(c:Nat):DT->DT
 | .mk _ n tx ks ds=>.mk c n tx ks ds
def qT{R:Al}{s:BA}{c:Nat}(h:bt s i=c):xH R s c i=(XL (c==123) (jQ R s (xw c) (c==123) (i+1))).map (λq=>(q.1.withKind c,q.2)):=by
 unfold xH;rw[i_ h];cases jQ R s (xw c) (c==123) (i+1) with
 |none=>rfl
 |some q=>rfl
def cq0_{p:Prop}(h:p:=by
 intro w P bl bz k M hk;obtain⟨kj,hk,K⟩:=hk;obtain⟨g,m,b7,sv,z0,b9,z1,z2,ho,V⟩:=M.Z.type hk;simp only[az_]at z1;refine hq_ λb4 Q_=>?_;have d7:=M.lt;have d8:=yt z0;have d9:=yt z1;have c3:=M.L.c3;have c2:=M.L.c2;have a4:=M.jl;have a5:=M.sl;obtain⟨h0,l,rfl⟩:=zg ho (by simp);have a0:=zr ho rfl (k:=0) (x:=I_ kj) rfl;have e0:=yt a0;have a3:P h0:=V h0 rfl;have b8:=M.Plt h0 a3;have a8:h0≠bl:=λe=>M.nP (e▸a3);(first|(have:=cc1;have I:=zy (iS M 123 (S_ h0 1 l)))|(have I:=zy (iS M 91 (S_ h0 1 l))));(first|(have:=cc1;have B0:=zy (tk w 123 (S_ h0 1 l)))|(have B0:=zy (tk w 91 (S_ h0 1 l))));(first|(have:=cc1;have B1:=zy (iI w 123 (S_ h0 1 l)))|(have B1:=zy (iI w 91 (S_ h0 1 l))));(first|(have:=cc1;have B2:=zy (oL w 123 (S_ h0 1 l)))|(have B2:=zy (oL w 91 (S_ h0 1 l))));(first|(have:=cc1;have a6:=zy (show(dw w 123 (S_ h0 1 l)).cell? ⟨h0,0,none⟩=some (I_ kj) from yZ a0 _ _ _))|(have a6:=zy (show(dw w 91 (S_ h0 1 l)).cell? ⟨h0,0,none⟩=some (I_ kj) from yZ a0 _ _ _)));(first|(have:=cc1;have U:=zy (show(dw w 123 (S_ h0 1 l)).heap.size=w.heap.size+3 by simp[dw]))|(have U:=zy (show(dw w 91 (S_ h0 1 l)).heap.size=w.heap.size+3 by simp[dw])));have d2:=λX Y Z=>yZ c2 X Y Z;have d6:(k:Int)<(m:Int):=M_;replace M:=zy M;replace ho:=zy ho;replace V:=zy V;replace hk:=zy hk;replace K:=zy K;replace hR:=zy hR;go_in;go_wp2_with (first
  |(go_at_call 99;(first|(have:=cc1;apply(xQ 123 I.o.L a5 a4 rfl D_).mono)|(apply(xQ 91 I.o.L a5 a4 rfl D_).mono));rintro e w1 ⟨rfl,hE⟩;obtain⟨j1,b5,E,u,J⟩:=kY.any D_ I.o hE;have N:=u.bl B0.o M_;have O:=u.bl B1.o M_;have Q:=u.bl B2.o M_;have u1:=O.cell 1;have x1:=(World.cell?_of_block (a:=⟨h0,0,none⟩) (u.block h0 (by rw[U.o];omega) a8)).trans a6.o;simp only[aa_,ab_]at u1;have a9:=u.size;rw[U.o]at a9;revert E u N O Q;refine k_ λE u N O Q=>?_;clear hE)
  |(go_at_call 103;(first|(have:=cc1;apply(ou (f:=f) 125 E.o.here K.o rfl D_ (λhb j h1 T=>hR.o j (by rcases J.o with⟨_,_,h,_⟩|⟨_,_,h⟩;omega;rw[h]at hb;cases hb) T)).mono)|(apply(ou (f:=f) 93 E.o.here K.o rfl D_ (λhb j h1 T=>hR.o j (by rcases J.o with⟨_,_,h,_⟩|⟨_,_,h⟩;omega;rw[h]at hb;cases hb) T)).mono));intro e v hP;obtain⟨A,C,D,a1,m1,c1,a2,m2,c2,j2,b6,rfl,S,F,a7⟩:=zL.any E.o hP;have R:=F.bl N.o M_;have b:=F.bl Q.o M_;have y0:=b.cell 0;have z5:=b.th 0;have y1:=b.cell 1;have z6:=b.th 1;have y2:=b.cell 2;have z7:=b.th 2;have y3:=b.cell 3;have z8:=b.th 3;have y4:=b.cell 4;have z9:=b.th 4;simp only[zW,aa_,ab_,az_]at y0 y1 y2 y3 y4;have y:=Blk.fi b (U_ A) (Z_ C) (.string D) (.slice a1 m1 c1) (.slice a2 m2 c2);have G:=(Fr.fi v (w.heap.size+2) (U_ A) (Z_ C) (.string D) (.slice a1 m1 c1) (.slice a2 m2 c2)).bl R M_;have y5:=y.cell 0;have y6:=y.th 0;(first|(have:=cc1;have H:=G_ y 0 (.int .u8 123))|(have H:=G_ y 0 (.int .u8 91)));(first|(have:=cc1;have z:=T_ G (a:=⟨w.heap.size+2,0,none⟩) (.int .u8 123) (by simp))|(have z:=T_ G (a:=⟨w.heap.size+2,0,none⟩) (.int .u8 91) (by simp)));obtain⟨r0,r1,r2,r3,r4⟩:=z.f5;obtain⟨t0,t1,t2,t3,t4⟩:=H.f5;obtain⟨g0,g1,g2,g3,g4⟩:=z.t5;simp only[zV,zW,aa_,ab_,an_,az_]at r0 r1 r2 r3 r4 t0 t1 t2 t3 t4 y5;revert S F R b y;refine k_ λS F R b y=>?_;revert G H z;refine h_ λG H z=>?_;clear hP))
 refine zU results66 z.o (λW5 hF _=>?_);rw[Q_.o];(first|(have:=cc1;have F6:Fr v (World.setCell (World.setCell (World.setCell (World.setCell (World.setCell (World.setCell v ⟨w.heap.size+1+1,0,none⟩ (U_ A)) ⟨w.heap.size+1+1,1,none⟩ (Z_ C)) ⟨w.heap.size+1+1,2,none⟩ (.string D)) ⟨w.heap.size+1+1,3,none⟩ (.slice a1 m1 c1)) ⟨w.heap.size+1+1,4,none⟩ (.slice a2 m2 c2)) ⟨w.heap.size+1+1,0,none⟩ (.int .u8 123)) (λg=>g=w.heap.size+2):=(Fr.fi v (w.heap.size+2) (U_ A) (Z_ C) (.string D) (.slice a1 m1 c1) (.slice a2 m2 c2)).setCell ⟨w.heap.size+2,0,none⟩ (.int .u8 123) (λ_=>rfl))|(have F6:Fr v (World.setCell (World.setCell (World.setCell (World.setCell (World.setCell (World.setCell v ⟨w.heap.size+1+1,0,none⟩ (U_ A)) ⟨w.heap.size+1+1,1,none⟩ (.int .i64 C)) ⟨w.heap.size+1+1,2,none⟩ (.string D)) ⟨w.heap.size+1+1,3,none⟩ (.slice a1 m1 c1)) ⟨w.heap.size+1+1,4,none⟩ (.slice a2 m2 c2)) ⟨w.heap.size+1+1,0,none⟩ (.int .u8 91)) (λg=>g=w.heap.size+2):=(Fr.fi v (w.heap.size+2) (U_ A) (Z_ C) (.string D) (.slice a1 m1 c1) (.slice a2 m2 c2)).setCell ⟨w.heap.size+2,0,none⟩ (.int .u8 91) (λ_=>rfl)));have M6:=S.o.own (F6.mono (λ_ _ e=>M_));rcases a7.o with⟨d,hr,rfl⟩|⟨hr,rfl⟩
 .rcases J.o with⟨_,hb,rfl,rfl⟩|⟨_,_,rfl⟩
  .refine vb M6 hF ?_;simp only[rdT];rw[qT hb];rw[n_ D_]at hr;(first|(have:=cc1;exact congrArg (λx=>Option.map Prod.snd (Option.map (λq=>(DT.withKind 123 q.1,q.2)) x)) hr)|(exact congrArg (λx=>Option.map Prod.snd (Option.map (λq=>(DT.withKind 91 q.1,q.2)) x)) hr))
  .cases hr
 .refine vA M6 hF ?_;simp only[rdT];rcases J.o with⟨_,hb,rfl,rfl⟩|⟨hb,_,rfl⟩
  .rw[qT hb];rw[n_ D_]at hr;exact congrArg (Option.map _) hr
  .unfold xH;rw[n_ (by simpa using hb)]):p:=h
def YE{s:BA}{env:Au}{pl:Aq}{ts:Ap}(hR:∀j,i<j->j<=s.size->vS s env pl ts f t j):vS s env pl ts (f+1) (.wrap 91 p t) i:=by
 exact cq0_
def oT{s:BA}{env:Au}{pl:Aq}{ts:Ap}(hR:∀j,i<j->j<=s.size->vS s env pl ts f t j):vS s env pl ts (f+1) (.wrap 123 p t) i:=by
 have cc1:=Nat
 exact cq0_
section
variable {w W W':Aw} {P:Az} {bl:Nat} {s:BA} {bz:Nat} {pl:Aq} {j:Nat} {ts:Ap} {env:Au} {k:Nat} {n:Int} {tx:BA} {a1 a2:Am} {m1 c1 m2 c2:Nat} {r:Dh}
def fi(b0:Nat)(hb:w.heap.size<=b0)(M:DM w P bl s bz pl j false ts env W)(hF:Fr W W' (λg=>g=b0))(hr:r.map Prod.snd=some j):zL w bl s bz pl r (.returned (.agg (zW k n tx (.slice a1 m1 c1) (.slice a2 m2 c2)).toArray)) W':=by
 have cc1:=Nat
 exact cq30_
def gX(b0:Nat)(hb:w.heap.size<=b0)(M:DM w P bl s bz pl j true ts env W)(b:Fr W W' (λg=>g=b0))(hr:r=none):zL w bl s bz pl r (.returned (.agg (zW k n tx (.slice a1 m1 c1) (.slice a2 m2 c2)).toArray)) W':=by
 have a:=M.own (b.mono (λ_ _ e=>M_));subst hr;exact⟨k,n,tx,_,_,_,_,_,_,rfl,a.fr,j,M.jl,a.L⟩
end
def bw(w:Aw)(sv:Ax):World:=
 ((w.alloc (.cells #[.int .u8 40,sv] 169)).alloc (.cells zV.toArray 108)).alloc (.cells (zW 40 0 noB (L_) (L_)).toArray 108)
def CY(w:Aw)(sv:Ax):Blk (bw w sv) w.heap.size [.int .u8 40,sv] 169:=((B_ w _ _).alloc _).alloc _
def CZ(w:Aw)(sv:Ax):Blk (bw w sv) (w.heap.size+1) zV 108:=by
 have:=(B_ (w.alloc (.cells #[.int .u8 40,sv] 169)) zV.toArray 108).alloc (.cells (zW 40 0 noB (L_) (L_)).toArray 108);simpa[bw] using this
def Co(w:Aw)(sv:Ax):Blk (bw w sv) (w.heap.size+2) (zW 40 0 noB (L_) (L_)) 108:=by
 have:=B_ ((w.alloc (.cells #[.int .u8 40,sv] 169)).alloc (.cells zV.toArray 108)) (zW 40 0 noB (L_) (L_)).toArray 108;simpa[bw] using this
def Ca{w:Aw}{P:Az}{bl:Nat}{s:BA}{bz:Nat}{pl:Aq}{j:Nat}{bad:Aq}{ts:Ap}{env:Au}(M:DM w P bl s bz pl j bad ts env w)(sv:Ax):DM w P bl s bz pl j bad ts env (bw w sv):=((M.alloc _).alloc _).alloc _
def Fs(n:Int):Option (DT×Nat)->Option (DT×Nat)
 |none=>none
 |some (d,j)=>some (.mk 40 n noB [] [d],j)
def ej{w:Aw}{P:Az}{bl:Nat}{s:BA}{bz:Nat}{ts:Ap}{env:Au}{h0 sn sc v:Nat}(M:DM w P bl s bz true i false ts env w)(x:w.cell? ⟨h0,0,none⟩=some (I_ v))(q:0<sn)(u:isT ts v t)(q:vS s env true ts f t i):Calls prog 104 #[P_ bl,.agg #[.int .u8 40,S_ h0 sn sc]] w (zL w bl s bz true (Fs 0 (rdT s env true f t i))):=by
 refine hq_ λC G=>?_;have C:=M.lt;have C:=yt x;have C:=M.sl;have C:=M.jl;have c4:=M.L.c4;have d4:=λX Y Z=>yZ c4 X Y Z;have C:=λX Y Z=>yZ x X Y Z;have y:=zy (Ca M (S_ h0 sn sc));have x:=CY w (S_ h0 sn sc);have b1:=x.cell 1;simp only[bw,zV,zW,noB,aa_,ab_,az_]at b1;have z:=zy (CZ w (S_ h0 sn sc));have A:=zy (Co w (S_ h0 sn sc));have D:=zy (show(bw w (S_ h0 sn sc)).heap.size=w.heap.size+3 by simp[bw]);revert M u q;refine h_ λM u q=>?_;go_in;go_wp2_with (go_at_call 66;apply(q.o _ P bl bz v y.o.here u).mono;intro e m hP;obtain⟨b,h,l,a1,m1,c1,a2,m2,c2,q,q,rfl,C,q,O⟩:=zL.any y hP;have u:=q.size;rw[D.o]at u;have x:=q.bl z M_;have y:=q.bl A M_;have D:=(C.alloc (.cells #[U_ b,Z_ h,.string l,.slice a1 m1 c1,.slice a2 m2 c2] 108)).alloc (.cells #[U_ b,Z_ h,.string l,.slice a1 m1 c1,.slice a2 m2 c2] 108);have z:=(x.alloc (.cells #[U_ b,Z_ h,.string l,.slice a1 m1 c1,.slice a2 m2 c2] 108)).alloc (.cells #[U_ b,Z_ h,.string l,.slice a1 m1 c1,.slice a2 m2 c2] 108);have u:=(y.alloc (.cells #[U_ b,Z_ h,.string l,.slice a1 m1 c1,.slice a2 m2 c2] 108)).alloc (.cells #[U_ b,Z_ h,.string l,.slice a1 m1 c1,.slice a2 m2 c2] 108);have y4:=u.cell 4;have y5:=u.th 4;have A:=G_ u 4 (S_ (m.heap.size+1) 1 1);have v:=T_ z (a:=⟨w.heap.size+1+1,4,none⟩) (S_ (m.heap.size+1) 1 1) x6_;obtain⟨r0,r1,Q,R,S⟩:=v.f5;obtain⟨T,U,V,t3,t4⟩:=A.f5;obtain⟨H,I,J,K,N⟩:=v.t5;simp only[zV,zW,aa_,ab_,an_,ap_,az_]at r0 r1 Q R S T U V t3 t4 y4 y5 H I J K N;replace C:=zy C;replace q:=zy q;replace x:=zy x;replace y:=zy y;replace D:=zy D;replace z:=zy z;replace u:=zy u;replace v:=zy v;replace A:=zy A);refine zU results104 v.o (λq F _=>?_);rw[G.o];have E:=D.o.put ⟨w.heap.size+1+1,4,none⟩ (S_ (m.heap.size+1) 1 1) y4_;rcases O.o with⟨d,hr,rfl⟩|⟨hr,rfl⟩
 .have q:Fr m (World.setCell ((m.alloc (.cells #[U_ b,Z_ h,.string l,.slice a1 m1 c1,.slice a2 m2 c2] 108)).alloc (.cells #[U_ b,Z_ h,.string l,.slice a1 m1 c1,.slice a2 m2 c2] 108)) ⟨w.heap.size+1+1,4,none⟩ (S_ (m.heap.size+1) 1 1)) (λg=>g=w.heap.size+2):=((((A_ m (λg=>g=w.heap.size+2)).alloc _).alloc _).setCell _ _ (λ_=>rfl));have q:((m.alloc (.cells #[U_ b,Z_ h,.string l,.slice a1 m1 c1,.slice a2 m2 c2] 108)).alloc (.cells #[U_ b,Z_ h,.string l,.slice a1 m1 c1,.slice a2 m2 c2] 108)).ownsRow 0 108 5 (S_ (m.heap.size+1) 1 1) 1 (zW b h l (.slice a1 m1 c1) (.slice a2 m2 c2)):=by
   have:=World.ownsRow_lit (base:=0) (e:=108) (size:=5) (m.alloc (.cells #[U_ b,Z_ h,.string l,.slice a1 m1 c1,.slice a2 m2 c2] 108)) #[U_ b,Z_ h,.string l,.slice a1 m1 c1,.slice a2 m2 c2] 1 o_ (by simp[maxLen]) rfl;have e:(m.alloc (.cells #[U_ b,Z_ h,.string l,.slice a1 m1 c1,.slice a2 m2 c2] 108)).heap.size=m.heap.size+1:=x6_
   rw[e]at this;exact this
  have b:=zj q ((A_ _ (λg=>g=w.heap.size+2)).setCell ⟨w.heap.size+1+1,4,none⟩ (S_ (m.heap.size+1) 1 1) (λ_=>rfl)) (λg hg e=>by simp only[Value.ownBlock,af_]at hg;omega);refine fi (w.heap.size+1) M_ E F ?_;rw[hr];rfl
 .exact gX (w.heap.size+1) M_ E F (by rw[hr];rfl)
def Mm(s:BA)(env:Au)(pl:Aq)(ts:Ap)(f:Nat)(l:Af)(i:Nat):Prop:=
 ∀(w:World) (P:Nat->Prop) (bl bz:Nat) (js:List Nat) (h0 sn sc:Nat),DM w P bl s bz pl i false ts env w->cQ ts js l->w.ownsRow 0 3 1 (S_ h0 sn sc) js.length (js.map λ(n:Nat)=>Value.int .i64 (n:Int))->P h0->
  Calls prog 104 #[P_ bl,.agg #[.int .u8 40,S_ h0 sn sc]] w (zL w bl s bz pl (yQ (rdT s env pl f) s pl l i))
def mV{w:Aw}{base:Nat}{e:Av}{size:Nat}{n:Nat}{xs:Ay}{a:Am}{m c:Nat}(h:w.ownsRow base e size (.slice a m c) n xs):m=n:=by
 rcases h.2 with⟨h1,h0⟩|⟨g,b,_,h1,_⟩
 .cases h1;exact h0.symm
 .cases h1;rfl
def Gy{s:BA}{env:Au}{ts:Ap}{l:Af}(hl:l≠[])(a:∀t∈l,vS s env true ts f t i):Mm s env true ts f l i:=by
 intro w P bl bz b h0 sn sc M d ho _;cases l with
 |nil=>exact absurd rfl hl
 |cons t r=>
  obtain⟨j,q,rfl,b,_⟩:=d;have d:=zr ho (g:=h0) (cap:=sc) (by rw[mV ho]) (k:=0) (x:=I_ j) rfl;have hn:=mV ho;have h:=ej (sn:=sn) (sc:=sc) M d (by rw[hn];simp) b (a t x6_);have e:yQ (rdT s env true f) s true (t::r) i=Fs 0 (rdT s env true f t i):=by
   unfold yQ Fs;rw[i_ rfl];rfl
  rw[e];exact h
def WR{s:BA}{env:Au}{pl:Aq}{ts:Ap}{l:Af}(F:l≠[])(hB:Mm s env pl ts f l i):vS s env pl ts (f+1) (.alts p l) i:=by
 intro w P bl bz k M hk;obtain⟨x,hk,h⟩:=hk;obtain⟨g,m,u,sv,z0,u,u,G,ho,v⟩:=M.Z.type hk;simp only[az_]at u;refine hq_ λH C=>?_;have E:0<x.length:=by rw[oo h];exact List.length_pos_iff.2 F
 have F:=M.lt;have F:=yt z0;have F:=yt u;have c3:=M.L.c3;have c2:=M.L.c2;have u:=M.jl;have u:=M.sl;obtain⟨h0,a,rfl⟩:=zg ho E;have D:P h0:=v h0 rfl;obtain⟨sn,q⟩:=e_ x.length;simp only[<- q]at G ho;replace q:=zy q;have y:=zy (iS M 40 (S_ h0 sn a));have A:=zy (tk w 40 (S_ h0 sn a));have u:=iI w 40 (S_ h0 sn a);have u0:=u.cell 0;have E:=u.cell 1;simp only[dw,zV,zW,noB,aa_,ab_,az_]at u0 E;have E:=zy (zj ho ((((A_ w N_).alloc (.cells zV.toArray 108)).alloc (.cells #[.int .u8 40,S_ h0 sn a] 169)).alloc (.cells (zW 40 0 noB (L_) (L_)).toArray 108)) u_);have F:=zy (show(dw w 40 (S_ h0 sn a)).heap.size=w.heap.size+3 by simp[dw]);have F:=λX Y Z=>yZ c2 X Y Z;have F:(k:Int)<(m:Int):=M_;replace M:=zy M;replace ho:=zy ho;replace v:=zy v;replace hk:=zy hk;replace h:=zy h;replace hB:=zy hB;go_in;go_wp2_with (go_at_call 104;apply(hB.o _ P bl bz x h0 sn a y.o.here h (by rw[<- q.o];exact E) D).mono;intro e a hP;obtain⟨a,a,a,a1,m1,c1,a2,m2,c2,a,a,rfl,b,h,q⟩:=zL.any y hP;have a:=h.bl A M_;obtain⟨r0,r1,u,v,x⟩:=a.f5;obtain⟨y,y,y,y,y⟩:=a.t5;simp only[zV,zW,aa_,ab_,az_]at r0 r1 u v x;revert b h a;refine h_ λb h a=>?_);refine zU results66 a.o (λa z _=>?_);rw[C.o];rcases q.o with⟨d,hr,rfl⟩|⟨hr,rfl⟩
 .exact vb b z (by simp only[rdT];rw[hr];rfl)
 .exact vA b z (by simp only[rdT];exact hr)
def PJ(s:BA)(env:Au)(pl:Aq)(ts:Ap)(f:Nat)(pb:PB)(i:Nat):Prop:=
 ∀(w:World) (P:Nat->Prop) (bl bz:Nat) (so:Int) (fv:Value) (sb:BA) (o n:Int),DM w P bl s bz pl i false ts env w->fX w P ts pb so fv sb n->
  Calls prog 105 #[P_ bl,.agg #[.int .u8 so,fv,.string sb,Z_ o,Z_ n]] w (zL w bl s bz pl (yv (rdT s env pl f) s pb i))
def nw(w:Aw)(c:Nat)(fv:Ax)(sb:BA)(o n:Int):World:=
 ((w.alloc (.cells #[U_ c,fv,.string sb,Z_ o,Z_ n] 62)).alloc (.cells zV.toArray 108)).alloc (.cells (zW c 0 noB (L_) (L_)).toArray 108)
def Uf(w:Aw)(c:Nat)(fv:Ax)(sb:BA)(o n:Int):Blk (nw w c fv sb o n) w.heap.size [U_ c,fv,.string sb,Z_ o,Z_ n] 62:=((B_ w _ _).alloc _).alloc _
def Ug(w:Aw)(c:Nat)(fv:Ax)(sb:BA)(o n:Int):Blk (nw w c fv sb o n) (w.heap.size+1) zV 108:=by
 have:=(B_ (w.alloc (.cells #[U_ c,fv,.string sb,Z_ o,Z_ n] 62)) zV.toArray 108).alloc (.cells (zW c 0 noB (L_) (L_)).toArray 108);simpa[nw] using this
def Uw(w:Aw)(c:Nat)(fv:Ax)(sb:BA)(o n:Int):Blk (nw w c fv sb o n) (w.heap.size+2) (zW c 0 noB (L_) (L_)) 108:=by
 have:=B_ ((w.alloc (.cells #[U_ c,fv,.string sb,Z_ o,Z_ n] 62)).alloc (.cells zV.toArray 108)) (zW c 0 noB (L_) (L_)).toArray 108;simpa[nw] using this
def Uk{w:Aw}{P:Az}{bl:Nat}{s:BA}{bz:Nat}{pl:Aq}{j:Nat}{bad:Aq}{ts:Ap}{env:Au}(M:DM w P bl s bz pl j bad ts env w)(c:Nat)(fv:Ax)(sb:BA)(o n:Int):DM w P bl s bz pl j bad ts env (nw w c fv sb o n):=((M.alloc _).alloc _).alloc _
def KS{s:BA}{env:Au}{pl:Aq}{ts:Ap}{m:Nat}:PJ s env pl ts f (.bytes m) i:=by
 intro w P bl bz so fv sb o n M u;obtain⟨⟨A,D,C,rfl⟩,a3,rfl,u⟩:=u;refine hq_ λa9 Q_=>?_;have b6:=M.lt;have a8:=M.jl;have X:=M.sl;have M0:=zy (Uk M 102 (.slice A D C) sb o n);have B0:=zy (Uf w 102 (.slice A D C) sb o n);have B1:=zy (Ug w 102 (.slice A D C) sb o n);have B2:=zy (Uw w 102 (.slice A D C) sb o n);have b5:=zy (show(nw w 102 (.slice A D C) sb o n).heap.size=w.heap.size+3 by simp[nw]);replace M:=zy M;replace a3:=zy a3;replace u:=zy u;have hn:=u.o;subst hn;go_in;go_upto_if 94 with(first
  |(go_at_call 102;apply(qE z.o.L X z.o.jl).mono;intro e w2 hT;obtain⟨tx,j2,rfl,S,x,hx,hK⟩:=hT.any z;have H:=x.bl F M_;have I:=x.bl G M_;have q:=x.bl Z M_;have p1:=q.cell 2;have p2:=q.th 2;have b:=S.put ⟨w.heap.size+1+1,2,none⟩ (.string tx) y4_;have d:=G_ q 2 (.string tx);have g:=T_ I (a:=⟨w.heap.size+1+1,2,none⟩) (.string tx) yt_;have K:=T_ H (a:=⟨w.heap.size+1+1,2,none⟩) (.string tx) (by show ¬(w.heap.size=w.heap.size+1+1);omega);have p3:=d.cell 2;have p4:=K.cell 4;have a5:=b.L.c2;have a6:=b.L.th 2;simp only[zW,aa_,ab_,an_,ap_]at p1 p3 p4;revert S x H I q b;refine m_ λS x H I q b=>?_;revert d g K;refine h_ λd g K=>?_)
  |(go_at_call 99;apply(xQ 39 M0.o.L X a8 rfl D_).mono;rintro e w1 ⟨rfl,E⟩;obtain⟨j1,a0,z,v,hJ⟩:=kY.any D_ M0 E;have F:=v.bl B0 M_;have G:=v.bl B1 M_;have Z:=zy (v.bl B2 M_);revert z v F G;refine g_ λz v F G=>?_))
 go_cut [] (λW=>∃O,DM w P bl s bz pl j2 O ts env W/\Blk W (w.heap.size+1) zV 108/\Blk W (w.heap.size+2) (zW 102 0 tx (L_) (L_)) 108/\((O=a0/\tx.size=m)\/(O=true/\tx.size≠m)));case first=>
  by_cases h:tx.size=m
  .have en:(((tx.size:Nat):Int) != (m:Int))=false:=x1_
   replace h:=zy h;go_wp2;go_meet;case rel=>exact⟨a0,b,g,d,.inl ⟨rfl,h⟩⟩
  .have en:(((tx.size:Nat):Int) != (m:Int))=true:=x1_
   replace h:=zy h;go_wp2;go_meet;case rel=>exact⟨true,b.o.sp,T_ g _ yl_,T_ d _ ym_,.inr ⟨rfl,h⟩⟩
 case rest=>
  obtain⟨O,b,g,d,Q⟩:=hcut;revert b g d Q;refine g_ λb g d Q=>?_;go_wp2_with (go_at_call 99;apply(xQ 39 b.o.L X b.o.jl rfl D_).mono;rintro e w4 ⟨rfl,E⟩;obtain⟨j4,b4,N,J,a7⟩:=kY.any D_ b E;have y:=J.bl g M_;have R:=J.bl d M_;obtain⟨r0,r1,r2,r3,r4⟩:=y.f5;obtain⟨t0,t1,t2,t3,t4⟩:=R.f5;obtain⟨g0,g1,g2,g3,g4⟩:=y.t5;simp only[zV,zW,aa_,ab_,az_]at r0 r1 r2 r3 r4 t0 t1 t2 t3 t4;revert N J y R;refine g_ λN J y R=>?_);refine zU results105 y.o (λW5 hF _=>?_);rw[Q_.o];obtain⟨Y,b7,a4⟩:=hK.o;rcases a7.o with⟨rfl,l,rfl,rfl⟩|⟨l,_,rfl⟩
  .rcases Q.o with⟨hb,h⟩|⟨hb,_⟩
   .subst hb;rcases hJ.o with⟨_,h1,rfl,_⟩|⟨_,_,hb⟩
    .have T:=a4 rfl;have U:j2-(i+1)=m:=by
      rw[<- h,Y,a6_];have:=b.o.jl;omega
     subst Y;refine fi (w.heap.size+1) M_ N hF ?_;unfold yv;simp only;rw[<- T,i_ ⟨h1,U,l⟩];rfl
    .cases hb
   .cases hb
  .refine gX (w.heap.size+1) M_ N hF ?_;unfold yv;simp only;refine n_ (λV=>?_);rcases hJ.o with⟨_,h1,rfl,rfl⟩|⟨h1,_,hb⟩
   .have T:=a4 rfl;rw[<- T]at V;have U:tx.size=m:=by
     rw[Y,a6_];have:=b.o.jl;omega
    rcases Q.o with⟨hb,_⟩|⟨_,hb⟩
    .rcases l with l|l
     .rw[l]at hb;cases hb
     .exact l V.2.2
    .exact hb U
   .rcases h1 with h1|h1
    .cases h1
    .exact h1 V.1
def KV{sb:BA}{l:As}(h:sb.data.toList.map UInt8.toNat=l.map Prod.fst)(c:Nat):plc sb c=match (l.map Prod.fst).findIdx? (λx=>x==c) with|some k=>(k:Int)|none=>-1:=by
 rw[<- h,List.findIdx?_map];rfl
def FV{s:BA}{env:Au}{pl:Aq}{ts:Ap}{l:As}{Y:Ac}(H:∀c∈l.map Prod.fst,0<c)(Z:l.length<=300):PJ s env pl ts f (.enum l Y) i:=by
 intro w P bl bz so fv sb o n M u;obtain⟨⟨b,m,d,rfl⟩,J,rfl,u⟩:=u;refine hq_ λY O=>?_;have Y:=M.lt;have S:=M.jl;have V:=M.sl;have I:=zy (Uk M 101 (.slice b m d) sb o n);have A:=zy (Uf w 101 (.slice b m d) sb o n);have Q:=zy (Ug w 101 (.slice b m d) sb o n);have R:=zy (Uw w 101 (.slice b m d) sb o n);have Y:=zy (show(nw w 101 (.slice b m d) sb o n).heap.size=w.heap.size+3 by simp[nw]);replace M:=zy M;replace J:=zy J;replace u:=zy u;have U:sb.size<=100000:=by
  have:=congrArg List.length u;rw[bu_,bu_]at this;have e:sb.size=sb.data.toList.length:=by rw[Array.length_toList];rfl
  omega
 obtain⟨c,hc⟩:=x_ (bt s i);have T:=zy (show lk s i false=c by simp[lk,hc]);obtain⟨v,hv⟩:=x_ (plc sb c);replace hc:=zy hc;replace hv:=zy hv;replace H:=zy H;go_in;go_wp2;change Code.wp _ _ _ _ (nw w 101 (.slice b m d) sb o n);generalize nw w 101 (.slice b m d) sb o n=W0 at *;have u2:=A.o.c2;refine tr_ 6 (λW=>z_ W w.heap.size 2 (.string sb)) ?_;refine tb_ 0 rfl K_ (λ_ _ _ h=>h) xo_ x8_ ?_;refine tb_ 1 rfl K_ (λ_ _ _ h=>h) xo_ x8_ ?_;refine tb_ 2 rfl K_ (λ_ _ _ h=>h) xo_ x8_ ?_;refine zh 3 rfl K_ (λ_=>u2) (λK z=>?_);go_simp;apply(yA (I.o.si (zq.drew W0)).L V S).mono;rintro e w1 ⟨rfl,d⟩;rw[T.o];refine z _ _ ?_;have b:zq W0 w1:=(zq.drew W0).trans d;have G:=I.o.si b;have C:=(A_ W0 (λg=>g=bl)).si b;have E:=C.bl A M_;have F:=C.bl Q M_;have y:=C.bl R M_;have D:=E.cell 2;have N:=y.cell 1;have X:=y.th 1;simp only[zW,aa_,ab_]at D N;refine zh 4 rfl K_ (λ_=>D) (λK z=>?_);go_simp;apply(jK sb c w1 U).mono;rintro e w' ⟨rfl,b⟩;rw[hv.o];refine z _ _ ?_;rw[b];refine t1_ 5 D ?_;refine t1_ 6 D ?_;refine td_ ?_ _;have d:=G.put ⟨w.heap.size+1+1,1,none⟩ (Z_ v) y4_;have m:=G_ y 1 (Z_ v);have z:=T_ F (a:=⟨w.heap.size+1+1,1,none⟩) (Z_ v) yt_;have b:=m.cell 1;have A:=d.L.c1;have A:=d.L.c2;have A:=d.L.th 1;have A:=d.L.th 2;simp only[zW,aa_,ab_,an_,ap_]at b;have A:=KV u c;have b:=Uy sb c;rw[hv.o]at A b;replace G:=zy G;replace C:=zy C;replace E:=zy E;replace F:=zy F;replace y:=zy y;replace A:=zy A;by_cases a0:v<0
 .have y:=d.sp;have b:=T_ z (a:=⟨bl,2,none⟩) (.bool true) yl_;have u:=T_ m (a:=⟨bl,2,none⟩) (.bool true) ym_;obtain⟨r0,r1,E,F,G⟩:=b.f5;obtain⟨I,J,N,t3,t4⟩:=u.f5;obtain⟨S,T,U,V,X⟩:=b.t5;simp only[zV,zW,aa_,ab_,an_,ap_,az_]at r0 r1 E F G I J N t3 t4;replace d:=zy d;replace y:=zy y;replace z:=zy z;replace m:=zy m;replace b:=zy b;replace u:=zy u;go_wp2;refine zU results105 b.o (λR D _=>?_);rw[O.o];refine gX (w.heap.size+1) M_ y D ?_;unfold yv;simp only;rw[hc.o];have h:=A.o;cases C:(l.map Prod.fst).findIdx? (λx=>x==c) with
  |none=>rw[ite_self]
  |some q=>rw[C]at h;simp only at h;omega
 .have Q:0<=v:=M_;have Q:i<s.size:=by
   refine zp (s:=s) (i:=i) ?_;rw[hc.o];have h:=A.o;cases C:(l.map Prod.fst).findIdx? (λx=>x==c) with
   |none=>rw[C]at h;simp only at h;omega
   |some q=>
    obtain⟨Y,Z,_⟩:=List.findIdx?_eq_some_iff_getElem.1 C;have:=H.o _ (bi_ Y);simp only[beq_iff_eq]at Z;omega
  have y:=d.inc Q;have b:=T_ z (a:=⟨bl,1,none⟩) (Z_ ((i:Int)+1)) yl_;have u:=T_ m (a:=⟨bl,1,none⟩) (Z_ ((i:Int)+1)) ym_;obtain⟨r0,r1,E,F,G⟩:=b.f5;obtain⟨I,J,N,t3,t4⟩:=u.f5;obtain⟨S,T,U,V,X⟩:=b.t5;simp only[zV,zW,aa_,ab_,an_,ap_,az_]at r0 r1 E F G I J N t3 t4;replace d:=zy d;replace y:=zy y;replace z:=zy z;replace m:=zy m;replace b:=zy b;replace u:=zy u;go_wp2;refine zU results105 b.o (λR D _=>?_);rw[O.o];refine fi (w.heap.size+1) M_ y D ?_;unfold yv;simp only;rw[i_ Q,hc.o];have h:=A.o;cases C:(l.map Prod.fst).findIdx? (λx=>x==c) with
  |none=>rw[C]at h;simp only at h;omega
  |some q=>rfl
end Go.Proofs.YtokgeopihcopeaaGreatDoor
