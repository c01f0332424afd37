import Derived.Test.YtamhgejdkclmdaaGreatDoorW05
set_option maxHeartbeats 16000000
set_option maxRecDepth 100000
set_option linter.defProp false
set_option linter.unusedSimpArgs false
open Go.Proofs.Tryz
namespace Go.Proofs.YtamhgejdkclmdaaGreatDoor
open Go.RowKit
variable {i f fin j' p:Nat}{keyed bad':Ar}{t:PT}{e:Ak}
def zw{w:Aw}{base size n:Nat}{e:Av}{v:Ax}{xs:Ay}(h:w.ownsRow base e size v n xs):∃a c,v=.slice a n c:=by
 rcases h.2 with⟨h1,h0⟩|⟨g,b,_,h1,_⟩
 .subst h0;exact⟨_,_,h1⟩
 .exact⟨_,_,h1⟩
section
variable {w W W':Aw} {P:Az} {bl:Nat} {s:BA} {bz:Nat} {pl:Ar} {j:Nat} {bad:Ar} {ts:Ap} {env:Au} {b0 b1 B c:Nat} {vk vs:Ax} {ks:Dx} {n:Nat} {xs:Ay}
def kZ.lm{d:Nat}(hd:0<d)(Q:LM w P bl s bz pl j bad ts env b0 b1 B c vk vs ks n xs W)(h:kZ W bl s bz pl j bad d W'):∃j' bad',LM w P bl s bz pl j' bad' ts env b0 b1 B c vk vs ks n xs W'/\Fr W W' (· = bl)/\H_ ((bad=false/\bt s j=d/\j'=j+1/\bad'=false)\/((bad=true\/bt s j≠d)/\j'=j/\bad'=true)):=by
 obtain⟨j',bad',a,hf,b⟩:=kZ.any hd Q.M h;exact⟨j',bad',Q.call a.L hf a.jl,hf,b⟩
def kx.lm(Q:LM w P bl s bz pl j bad ts env b0 b1 B c vk vs ks n xs W)(h:kx W bl s bz pl j bad e W'):∃tx j',e=.returned (.string tx)/\LM w P bl s bz pl j' bad ts env b0 b1 B c vk vs ks n xs W'/\Fr W W' (· = bl)/\tx.size<=4000/\H_ (tx=s.extract j j'/\j<=j'/\(bad=false->j'=ze s j)):=by
 obtain⟨tx,j',he,a,hf,hx,b⟩:=kx.any Q.M h;exact⟨tx,j',he,Q.call a.L hf a.jl,hf,hx,b⟩
def zC.lm{r:Dm}(Q:LM w P bl s bz pl j bad ts env b0 b1 B c vk vs ks n xs W)(h:zC W bl s bz pl r e W'):∃(k:Nat) (m:Int) (tx:BA) (a1:Option Addr) (m1 c1:Nat) (a2:Option Addr) (m2 c2:Nat) (j':Nat) (bad':Bool),e=.returned (.agg #[U_ k,Z_ m,.string tx,.slice a1 m1 c1,.slice a2 m2 c2])/\LM w P bl s bz pl j' bad' ts env b0 b1 B c vk vs ks n xs W'/\Fr W W' (· = bl)/\
  H_ ((∃d,r=some (d,j')/\bad'=false)\/(r=none/\bad'=true)):=by
 obtain⟨k,m,tx,a1,m1,c1,a2,m2,c2,he,hf,a⟩:=h;cases r with
 |none=>
  obtain⟨j',h1,b⟩:=a;exact⟨k,m,tx,a1,m1,c1,a2,m2,c2,j',true,he,Q.call b hf h1,hf,.inr ⟨rfl,rfl⟩⟩
 |some q=>
  exact⟨k,m,tx,a1,m1,c1,a2,m2,c2,q.2,false,he,Q.call a.2 hf a.1,hf,.inl ⟨q.1,rfl,rfl⟩⟩
end
def Gs(R_:Dz)(R:Aj)(s:BA)(fin:Nat)(keyed:Ar)(acc:Af)(i j j':Nat)(bad':Ar):Prop:=
 (bad'=false/\j<=j'/\i+acc.length<=j'/\∃nn,s.size<nn+j'/\R_=pJ acc (ye R s fin keyed nn (kB acc) j'))\/(bad'=true/\R_=none)
def Gn(R_:Dz)(R:Aj)(s:BA)(fin:Nat)(keyed:Ar)(acc:Af)(i j:Nat)(tx:BA)(j':Nat)(bad':Ar):Prop:=
 (bad'=false/\j<=j'/\i+acc.length<=j'/\∃nn,s.size<nn+1+j'/\R_=if bt s j'=58 then nh R s fin keyed nn acc tx (j'+1) else none)\/(bad'=true/\R_=none)
def Mx(R_:Dz)(R:Aj)(s:BA)(fin:Nat)(keyed:Ar)(acc:Af)(ks:Dx)(i j j':Nat)(bad':Ar):Prop:=
 (bad'=false/\j<=j'/\i+acc.length<=j'/\∃nn key,(∀d,ks=kh keyed (acc++[(key,d)]))/\s.size<nn+1+j'/\R_=nh R s fin keyed nn acc key j')\/(bad'=true/\R_=none)
def ZA{a:Dz}{R:Aj}{s:BA}{j:Nat}(d:j=i)(hc:bt s j≠fin)(b:a=if bt s i=fin then some ([],i+1) else pJ [] (ye R s fin keyed (s.size+2) none i)):Gs a R s fin keyed [] i j j false:=by
 subst d;rw[n_ hc]at b;exact .inl ⟨rfl,l_,by simp,s.size+2,M_,b⟩
def Jy{d:Dz}{R:Aj}{s:BA}{b:Af}{j nn:Nat}(hc:bt s j≠fin)(g:i+b.length<=j)(g:s.size<nn+j)(a:d=nM R s fin keyed nn b j)(g:(bt s j=44/\j'=j+1/\bad'=false)\/(bt s j≠44/\j'=j/\bad'=true)):Gs d R s fin keyed b i j j' bad':=by
 unfold nM at a;rw[n_ hc]at a;rcases g with⟨h,rfl,rfl⟩|⟨h,rfl,rfl⟩
 .rw[i_ h]at a;exact .inl ⟨rfl,M_,M_,nn,M_,a⟩
 .rw[n_ h]at a;exact .inr ⟨rfl,a⟩
def ZE{b:Dz}{R:Aj}{s:BA}{a:Af}{j:Nat}(q:j'<=s.size)(h:Gs b R s fin false a i j j' bad')(ks:Dx)(o:bad'=false->ks=kh false a):Mx b R s fin false a ks i j j' bad':=by
 rcases h with⟨rfl,h1,l,nn,a,g⟩|h
 .obtain⟨m,rfl⟩:∃m,nn=m+1:=⟨nn-1,M_⟩;rw[cz]at g;refine .inl ⟨rfl,h1,l,m,noB,λd=>by rw[o rfl];rfl,M_,g⟩
 .exact .inr h
def ib{g:Dz}{R:Aj}{s:BA}{b:Af}{j a:Nat}{tx:BA}(q:j'<=s.size)(h:Gs g R s fin true b i j j' bad')(l:tx=s.extract j' a/\j'<=a/\(bad'=false->a=ze s j')):(kV (kB b) tx=true->Gn g R s fin true b i j tx a bad')/\(kV (kB b) tx=false->Gn g R s fin true b i j tx a true):=by
 rcases h with⟨rfl,h1,b,nn,b,d⟩|h
 .obtain⟨m,rfl⟩:∃m,nn=m+1:=⟨nn-1,M_⟩;rw[cz]at d;have o:=l.2.2 rfl;unfold kJ at d;rw[i_ rfl,<- o,<- l.1]at d;refine⟨λhr=>.inl ⟨rfl,M_,M_,m,M_,?_⟩,λhr=>.inr ⟨rfl,?_⟩⟩
  .rw[d,hr];by_cases hb:bt s a=58
   .rw[i_ ⟨hb,rfl⟩,i_ hb]
   .rw[n_ (λx=>hb x.1),n_ hb]
  .rw[d,hr,n_ (λx=>by simp at x)]
 .exact⟨λ_=>.inr h,λ_=>.inr ⟨rfl,h.2⟩⟩
def aR{l:Dz}{R:Aj}{s:BA}{g:Af}{j b:Nat}{bad:Ar}{tx:BA}{ks:Dx}(o:ks=kh true g)(h:Gn l R s fin true g i j tx j' bad)(m:(bad=false/\bt s j'=58/\b=j'+1/\bad'=false)\/((bad=true\/bt s j'≠58)/\b=j'/\bad'=true)):Mx l R s fin true g (ks++[tx]) i j b bad':=by
 rcases h with⟨rfl,h1,g,nn,g,a⟩|⟨rfl,h⟩
 .rcases m with⟨_,hb,rfl,rfl⟩|⟨hb,rfl,rfl⟩
  .rw[i_ hb]at a;exact .inl ⟨rfl,M_,M_,nn,tx,λd=>by rw[o];simp[kh],M_,a⟩
  .have g:bt s b≠58:=by simpa using hb
   rw[n_ g]at a;exact .inr ⟨rfl,a⟩
 .rcases m with⟨hb,_⟩|⟨_,rfl,rfl⟩
  .cases hb
  .exact .inr ⟨rfl,h⟩
def ls{a:Af}{ks:Dx}(b:ks=kh true a):(ks=[]->kB a=none)/\(∀q d,ks=q++[d]->kB a=some d):=by
 unfold kh at b;rw[i_ rfl]at b;subst b;refine⟨λh=>?_,λq d h=>?_⟩
 .rw[List.map_eq_nil_iff]at h;subst h;rfl
 .unfold kB;rw[<- List.getLast?_map,h];simp
def cwFU1_{p:Prop}(h:p:=by
 clear t32 Q2;obtain⟨tx,j2,bad2,rfl,Q2,hx,o2⟩:=hcut;have hj2:=Q2.M.jl;have hBl:=Q2.bB;replace Q2:=zy Q2;replace o2:=zy o2;go_wp2_with (first
  |(go_at_call 65;apply(xZ 58 Q2.o.M.L hsl hj2 rfl D_).mono;rintro e w3 ⟨rfl,hE⟩;obtain⟨j3,bad3,Q3,F3,hJ⟩:=kZ.lm D_ Q2.o hE;have hBl3:=Q3.bB;have t33:=Q3.r1.cell 3;simp only[zQ,aa_,ab_]at t33;replace Q3:=zy Q3;clear hE)
  |(at_builtin;go_must ((first|(have:=cc1;refine wpList_append_own_at _ rfl _ _ 74 rfl (w.heap.size+2) 9 si _ 1 16 QN hs1 hs2 hs3 hs4 rfl D_ (S_ gk ks.length kc) ks.length (ks.map Value.string) rfl ?hown _ 1 1 [.string tx] rfl rfl (zF _ #[.string tx] _ _ ?nn) ?one ?b1 ?b2 ?b3 ?_)|(refine wpList_append_own_at _ rfl _ _ 74 rfl (w.heap.size+2) 9 si _ 1 16 QN hs1 hs2 hs3 hs4 rfl D_ (.slice ka ks.length kc) ks.length (ks.map Value.string) rfl ?hown _ 1 1 [.string tx] rfl rfl (zF _ #[.string tx] _ _ ?nn) ?one ?b1 ?b2 ?b3 ?_)))
    case hown=>exact World.ownsRow.alloc Q3.o.kr _
    case nn=>simp
    case one=>simp[Value.oneCell']
    case b1=>unfold maxLen;omega
    case b2=>omega
    case b3=>simp;omega
    intro v5 w5 ho5 hg5 hn5 hl5
    have I5:=Q3.o.key hg5 ho5 hl5
    obtain⟨e5,f5⟩:=Q3.o.keyCell hg5
    obtain⟨g5,cap5,rfl⟩:=zp ho5 M_
    clear hg5 hl5 hn5 ho5
    replace I5:=zy I5))
 go_meet;case rel=>
  have Q5:=I5.o;have el:(ks++[tx]).length=ks.length+1:=x8_
  refine⟨j3,bad3,some ⟨g5,0,none⟩,cap5,ks++[tx],?_,M_,aR hks.o o2.o hJ.o⟩;rw[el];exact Q5):p:=h
def FU{w:Aw}{P:Az}{bl:Nat}{s:BA}{bz:Nat}{pl:Ar}{ts:Ap}{env:Au}{k:Nat}(M:DM w P bl s bz pl i false ts env w)(hk:isT ts k t)(d7:fin=93\/fin=125)(hR:∀j,i<=j->j<=s.size->vR s env pl ts f t j):Calls prog 69 #[P_ bl,I_ k,U_ fin,.bool keyed] w (zC w bl s bz pl (XC keyed (qj (rdT s env pl f t) s fin keyed i))):=by
 have hsl:=M.sl;have e9:=M.jl;have b5:0<fin:=M_;have e8:fin≠44:=M_;obtain⟨E,a0⟩:=e_ (qj (rdT s env pl f t) s fin keyed i);rw[<- a0];refine hq_ λe7 Q_=>?_;obtain⟨R,S⟩:=e_ (rdT s env pl f t);rw[<- S]at a0;have start:Cb E R fin keyed i w P bl s bz pl ts env (s.size+3) ((w.alloc (.cells zX.toArray 77)).alloc (.cells zX.toArray 77)):=
  ⟨_,_,_,_,_,.inl ⟨[],i,od M,rfl,by simp[kh],M_,.inl ⟨rfl,rfl,by rw[a0,qj,Xf]⟩⟩⟩
 replace start:=zy start;replace hk:=zy hk;replace S:=zy S;replace hR:=zy hR;go_in;go_wp2;go_loopg [] (s.size+3) (λm W=>Cb E R fin keyed i w P bl s bz pl ts env m W);case atStart=>exact start
 case round=>
  obtain⟨vk,vs,ks,n,xs,hG|hB⟩:=hrel
  .obtain⟨x,j,Q,D,hks,hm,X⟩:=hG;obtain⟨ka,kc,rfl⟩:=zw Q.kr;obtain⟨J,K,rfl⟩:=zw Q.vr;have z:=Q.M.jl;have c2:=Q.M.L.c2;have t4:=Q.r1.cell 4;have t3:=Q.r1.cell 3;simp only[zQ,aa_,ab_]at t3 t4;obtain⟨c,hc⟩:=x_ (bt s j);have H:=zy (show lk s j false=c by simp[lk,hc]);have A:H_ (n=x.length):=zy D;replace Q:=zy Q;replace D:=zy D;replace hks:=zy hks;by_cases a3:c=fin
   .subst a3;have e1:((c:Int) != (c:Int))=false:=x8_
    have G:j<s.size:=zm M_;rcases X with⟨F,y,l⟩|⟨V,a7,nn,b7,l⟩
    .subst F;have U:n=0:=A.o;subst U;replace l:=zy l;replace y:=zy y;replace hc:=zy hc;go_wp2_with (first
      |(go_at_call 66;apply(yN Q.o.M.L hsl z).mono;rintro e w1 ⟨rfl,I⟩;rw[H.o];have g:=zy (Q.o.si I);have N:=g.o.r1.cell 4;have a9:=g.o.M.L.c2;simp only[zQ,aa_,ab_]at N)
      |(go_at_call 65;apply(xZ c g.o.M.L hsl z rfl b5).mono;rintro e w2 ⟨rfl,hE⟩;obtain⟨j2,bad2,Q2,F2,hJ⟩:=kZ.lm b5 g hE;obtain⟨r0,r1,C,Y,Z⟩:=Q2.r0.f5;obtain⟨g0,g1,g2,g3,g4⟩:=Q2.r0.t5;obtain⟨t0,t1,t2,t3,t4⟩:=Q2.r1.f5;simp only[zX,zQ,aa_,ab_,az_]at r0 r1 C Y Z t0 t1 t2 t3 t4;have u:=zy Q2.r0;replace Q2:=zy Q2))
     refine zW results69 u.o (λW5 O _=>?_);rw[Q_.o];rcases hJ.o with⟨_,_,rfl,rfl⟩|⟨h1,_,_⟩
     .refine vq Q2.o.M O ?_;rw[l.o,<- y.o,i_ hc.o];rfl
     .exact absurd hc.o (by simpa using h1)
    .have b9:0<x.length:=List.length_pos_iff.2 V;have U:(0:Int)<(n:Int):=by have:=A.o;omega
     replace l:=zy l;replace hc:=zy hc;go_wp2_with (first
      |(go_at_call 66;apply(yN Q.o.M.L hsl z).mono;rintro e w1 ⟨rfl,I⟩;rw[H.o];have g:=zy (Q.o.si I);have N:=g.o.r1.cell 4;simp only[zQ,aa_,ab_]at N)
      |(go_at_call 66;apply(yN g.o.M.L hsl z).mono;rintro e w2 ⟨rfl,a8⟩;rw[H.o];have Q2:=g.o.si a8;have T:=Q2.M.L.c1;have T:=Q2.M.L.th 1;have Q3:=Q2.inc G;obtain⟨r0,r1,C,Y,Z⟩:=Q3.r0.f5;obtain⟨g0,g1,g2,g3,g4⟩:=Q3.r0.t5;obtain⟨t0,t1,t2,t3,t4⟩:=Q3.r1.f5;simp only[zX,zQ,aa_,ab_,az_]at r0 r1 C Y Z t0 t1 t2 t3 t4;have u:=zy Q3.r0;replace Q2:=zy Q2;replace Q3:=zy Q3))
     refine zW results69 u.o (λW5 O _=>?_);rw[Q_.o];refine vq Q3.o.M O ?_;rw[l.o,nM,i_ hc.o];rfl
   .have e1:((c:Int) != (fin:Int))=true:=x1_
    have e2:((c:Int)==(fin:Int))=false:=x1_
    have b4:=zy (show bt s j≠fin by rw[hc];exact a3);have e6:n<=4000:=by
     have h0:=A.o;rcases X with⟨rfl,_,_⟩|⟨_,a7,_⟩
     .simp at h0;omega
     .omega
    replace X:=zy X;go_upto_if 33 with(go_at_call 66;apply(yN Q.o.M.L hsl z).mono;rintro e w1 ⟨rfl,I⟩;rw[H.o];have g:=Q.o.si I;have N:=g.r1.cell 4;have a9:=g.M.L.c2;simp only[zQ,aa_,ab_]at N;replace g:=zy g);go_cut [] (λW=>∃j' bad',LM w P bl s bz pl j' bad' ts env w.heap.size (w.heap.size+1) (w.heap.size+2) 0 (.slice ka ks.length kc) (.slice J n K) ks n xs W/\Gs E R s fin keyed x i j j' bad');case first=>
     rcases X.o with⟨F,y,l⟩|⟨V,a7,nn,b7,l⟩
     .have U:n=0:=by rw[A.o,F];rfl
      subst U;replace l:=zy l;replace y:=zy y;replace F:=zy F;go_wp2;go_meet;case rel=>
       refine⟨j,false,g,?_⟩;have:=F.o;subst this;exact ZA y b4 l
     .have b9:0<x.length:=List.length_pos_iff.2 V;have U:(0:Int)<(n:Int):=by have:=A.o;omega
      replace l:=zy l;replace V:=zy V;go_wp2_with (first
       |(go_at_call 66;apply(yN g.o.M.L hsl z).mono;rintro e w2 ⟨rfl,a8⟩;rw[H.o];have Q2:=zy (g.o.si a8))
       |(go_at_call 65;apply(xZ 44 Q2.o.M.L hsl z rfl D_).mono;rintro e w3 ⟨rfl,hE⟩;obtain⟨j3,bad3,Q3,F3,hJ⟩:=kZ.lm D_ Q2 hE;replace Q3:=zy Q3))
      go_meet;case rel=>
       refine⟨j3,bad3,Q3,Jy b4 a7 b7 l ?_⟩;rcases hJ.o with⟨_,a,b,c⟩|⟨a,b,c⟩
       .exact .inl ⟨a,b,c⟩
       .exact .inr ⟨by simpa using a,b,c⟩
    case rest=>
     obtain⟨z,a5,g,o1⟩:=hcut;have G:=g.M.jl;replace g:=zy g;replace o1:=zy o1;replace hc:=zy hc;replace a3:=zy a3;go_upto_if 48 with fail;go_cut [] (λW=>∃j' bad' F H y,LM w P bl s bz pl j' bad' ts env w.heap.size (w.heap.size+1) (w.heap.size+2) 0 (.slice F y.length H) (.slice J n K) y n xs W/\y.length<=5000/\Mx E R s fin keyed x y i j j' bad');case first=>
      have y:ks.length<=4000:=by
       rw[hks.o];unfold kh;split
       .rw[bq_,<- A.o];exact e6
       .simp
      cases keyed with
      |false=>
       go_wp2;go_meet;case rel=>exact⟨z,a5,ka,kc,ks,g,M_,ZE G o1 ks (λ_=>hks)⟩
      |true=>
       obtain⟨si,hs1,hs2,hs3,hs4⟩:=info_parts MD;rcases List.eq_nil_or_concat ks with u|⟨q,kl,u⟩
       .have a4:=zy ((ls hks).1 u);have e4:=zy (show ks.length=0 by rw[u];rfl);replace u:=zy u;go_upto_if 66 with(go_at_call 68;apply(qA g.o.M.L hsl G).mono;intro e w2 T;obtain⟨tx,j2,rfl,Q2,F2,hx,hK⟩:=T.lm g;have t32:=Q2.r1.cell 3;simp only[zQ,aa_,ab_]at t32;rw[e4.o]at t32;replace Q2:=zy Q2);go_cut [10] (λv W=>∃tx j' bad',v=.string tx/\LM w P bl s bz pl j' bad' ts env w.heap.size (w.heap.size+1) (w.heap.size+2) 0 (.slice ka ks.length kc) (.slice J n K) ks n xs W/\tx.size<=4000/\Gn E R s fin true x i j tx j' bad');case first=>
         go_wp2;go_meet;case rel=>exact⟨tx,j2,a5,rfl,Q2,hx,(ib G o1 hK).1 (by rw[a4.o];rfl)⟩
        case rest=>
         exact cwFU1_
       .have a4:=zy ((ls hks).2 q kl (by simpa using u));have hm:ks.length=q.length+1:=by rw[u];simp
        have y:q.length<=4000:=M_;have d6:=zy (show(ks.map Value.string)[q.length]?=some (.string kl) by rw[u];simp);obtain⟨gk,y,b6⟩:=zp g.o.kr M_;simp only[Value.slice.injEq,true_and]at b6;obtain⟨rfl,rfl⟩:=b6;replace u:=zy u;replace hm:=zy hm;go_upto_if 66 with(go_at_call 68;apply(qA g.o.M.L hsl G).mono;intro e w2 T;obtain⟨tx,j2,rfl,Q2,F2,hx,hK⟩:=T.lm g;have t32:=Q2.r1.cell 3;simp only[zQ,aa_,ab_]at t32;rw[hm.o]at t32;have u:=zt Q2.kr rfl d6;replace Q2:=zy Q2);go_cut [10] (λv W=>∃tx j' bad',v=.string tx/\LM w P bl s bz pl j' bad' ts env w.heap.size (w.heap.size+1) (w.heap.size+2) 0 (S_ gk ks.length kc) (.slice J n K) ks n xs W/\tx.size<=4000/\Gn E R s fin true x i j tx j' bad');case first=>
         have u:=Q2.o.M.L.c2;have u:=Q2.o.M.L.th 2;cases hb:Op.bytesLess kl.toList tx.toList
         .go_wp2;go_meet;case rel=>exact⟨tx,j2,true,rfl,Q2.o.sp,hx,(ib G o1 hK).2 (by rw[a4.o];exact hb)⟩
         .go_wp2;go_meet;case rel=>exact⟨tx,j2,a5,rfl,Q2,hx,(ib G o1 hK).1 (by rw[a4.o];exact hb)⟩
        case rest=>
         have cc1:=Nat;exact cwFU1_
     case rest=>
      obtain⟨j2,bad2,g,g,b8,Q2,g,o2⟩:=hcut;have hj2:=Q2.M.jl;obtain⟨ti,d8,d9,e0,e3⟩:=info_parts XE;obtain⟨C,u⟩:=e_ (if bad2=true then none else R j2);have g:=zy (show Calls prog 40 #[P_ bl,I_ k] wc (zC wc bl s bz pl C) by
       cases bad2 with
       |true=>rw[u,i_ rfl];exact YS t wc P bl bz k j2 Q2.M.here hk
       |false=>
        rw[u,n_ D_,S.o]
        refine hR.o j2 ?_ hj2 wc P bl bz k Q2.M.here hk
        rcases o2 with⟨_,_,h,_⟩|⟨h,_⟩
        .omega
        .cases h)
      have hBl:=Q2.bB;replace Q2:=zy Q2;replace o2:=zy o2;replace u:=zy u;go_wp2_with (first
       |(go_at_call 40;apply g.o.mono;intro e w3 hP;obtain⟨T,dm,a6,a1,m1,c1,a2,m2,c2,j3,bad3,rfl,Q3,F3,hJ⟩:=zC.lm Q2 hP;have g:=Q3.alloc (.cells (zQ T dm a6 (.slice a1 m1 c1) (.slice a2 m2 c2)).toArray 77);have t4:=g.r1.cell 4;simp only[zQ,aa_,ab_]at t4;have hBl3:=Q3.bB;replace Q3:=zy Q3;replace g:=zy g)
       |(at_builtin;go_must (refine wpList_append_own_at _ rfl _ _ 75 rfl (w.heap.size+2) 77 ti _ 5 80 Xn d8 d9 e0 e3 rfl D_ (.slice J n K) n xs rfl ?hown _ 1 1 (zQ T dm a6 (.slice a1 m1 c1) (.slice a2 m2 c2)) rfl rfl (zF _ (zQ T dm a6 (.slice a1 m1 c1) (.slice a2 m2 c2)).toArray _ _ ?nn) ?one ?b1 ?b2 ?b3 ?_)
         case hown=>exact World.ownsRow.alloc g.o.vr _
         case nn=>simp
         case one=>simp[zQ,Value.oneCell']
         case b1=>unfold maxLen;omega
         case b2=>omega
         case b3=>simp;omega
         intro v5 w5 ho5 hg5 hn5 hl5
         have I5:=g.o.item hg5 ho5 hl5
         obtain⟨e5,f5⟩:=g.o.ie hg5
         obtain⟨g5,cap5,rfl⟩:=zp ho5 M_
         replace I5:=zy I5))
      have Q5:=I5.o;rcases hJ.o with⟨d,hr,rfl⟩|⟨hr,rfl⟩
      .have d2:bad2=false:=by
        cases hb:bad2 with
        |false=>rfl
        |true=>rw[u.o,hb]at hr;cases hr
       subst d2;have g:R j2=some (d,j3):=by rw[<- hr,u.o];rfl
       have y:=jR s env pl f t j2 d j3 (by rw[<- S.o];exact g);rcases o2.o with⟨_,h1,y,nn,key,z,y,y⟩|⟨hb,_⟩
       .go_roundg (s.size+2-j3);case measure=>omega
        case rel=>
         refine⟨_,_,b8,n+1,_,.inl ⟨x++[(key,d)],j3,Q5,by rw[ah_,ap_,D.o],z d,l_,.inr ⟨by simp,by rw[ah_,ap_];omega,nn,M_,?_⟩⟩⟩;rw[y,nh,g]
       .cases hb
      .go_roundg 0;case measure=>omega
       case rel=>
        refine⟨_,_,b8,n+1,_,.inr ⟨j3,Q5,?_⟩⟩;rcases o2.o with⟨hb,_,_,nn,key,_,_,y⟩|⟨_,h⟩
        .have g:R j2=none:=by rw[<- hr,u.o,hb];rfl
         rw[y,nh,g]
        .exact h
  .obtain⟨j,Q,l⟩:=hB;obtain⟨ka,kc,rfl⟩:=zw Q.kr;obtain⟨J,K,rfl⟩:=zw Q.vr;have c2:=Q.M.L.c2;obtain⟨r0,r1,C,Y,Z⟩:=Q.r0.f5;obtain⟨g0,g1,g2,g3,g4⟩:=Q.r0.t5;obtain⟨t0,t1,t2,t3,t4⟩:=Q.r1.f5;simp only[zX,zQ,aa_,ab_,az_]at r0 r1 C Y Z t0 t1 t2 t3 t4;have g:=zy Q.r0;replace Q:=zy Q;replace l:=zy l;go_wp2;refine zW results69 g.o (λW5 O _=>?_);rw[Q_.o];exact vD Q.o.M O (by rw[l.o];rfl)
def Wc{w:Aw}{P:Az}{bl:Nat}{s:BA}{bz:Nat}{pl:Ar}{ts:Ap}{env:Au}{k:Nat}(M:DM w P bl s bz pl i true ts env w):Calls prog 69 #[P_ bl,I_ k,U_ fin,.bool keyed] w (zC w bl s bz pl none):=by
 refine hq_ λa b=>?_;have start:=zy (od M);go_in;go_wp2;go_loopg [] 0 (λ_ W=>LM w P bl s bz pl i true ts env w.heap.size (w.heap.size+1) (w.heap.size+2) 0 (L_) (L_) [] 0 [] W);case atStart=>exact start
 case round=>
  have Q:=hrel;have c2:=Q.M.L.c2;obtain⟨r0,r1,a,d,g⟩:=Q.r0.f5;obtain⟨h,h,h,h,h⟩:=Q.r0.t5;obtain⟨h,l,m,t3,t4⟩:=Q.r1.f5;simp only[zX,zQ,aa_,ab_,az_]at r0 r1 a d g h l m t3 t4;have a:=zy Q.r0;replace Q:=zy Q;go_wp2;refine zW results69 a.o (λa a _=>?_);rw[b.o];exact vD Q.o.M a rfl
def ot{w:Aw}{P:Az}{bl:Nat}{s:BA}{bz:Nat}{pl:Ar}{bad:Ar}{ts:Ap}{env:Au}{k:Nat}{e:Int}(fin:Nat)(M:DM w P bl s bz pl i bad ts env w)(hk:isT ts k t)(he:e=(fin:Int))(b:fin=93\/fin=125)(a:bad=false->∀j,i<=j->j<=s.size->vR s env pl ts f t j):Calls prog 69 #[P_ bl,I_ k,.int .u8 e,.bool keyed] w (zC w bl s bz pl (if bad=true then none else XC keyed (qj (rdT s env pl f t) s fin keyed i))):=by
 subst he;cases bad with
 |true=>rw[i_ rfl];exact Wc M
 |false=>rw[n_ D_];exact FU M hk b (a rfl)
def zC.any{w W W':Aw}{P:Az}{bl:Nat}{s:BA}{bz:Nat}{pl:Ar}{j:Nat}{bad:Ar}{ts:Ap}{env:Au}{r:Dm}(M:DM w P bl s bz pl j bad ts env W)(h:zC W bl s bz pl r e W'):∃(k:Nat) (m:Int) (tx:BA) (a1:Option Addr) (m1 c1:Nat) (a2:Option Addr) (m2 c2:Nat) (j':Nat) (bad':Bool),e=.returned (.agg #[U_ k,Z_ m,.string tx,.slice a1 m1 c1,.slice a2 m2 c2])/\DM w P bl s bz pl j' bad' ts env W'/\Fr W W' (· = bl)/\
  H_ ((∃d,r=some (d,j')/\bad'=false)\/(r=none/\bad'=true)):=by
 obtain⟨k,m,tx,a1,m1,c1,a2,m2,c2,he,hf,a⟩:=h;cases r with
 |none=>
  obtain⟨j',h1,b⟩:=a;exact⟨k,m,tx,a1,m1,c1,a2,m2,c2,j',true,he,M.call b hf h1,hf,.inr ⟨rfl,rfl⟩⟩
 |some q=>
  exact⟨k,m,tx,a1,m1,c1,a2,m2,c2,q.2,false,he,M.call a.2 hf a.1,hf,.inl ⟨q.1,rfl,rfl⟩⟩
def DT.withKind(c:Nat):DT->DT
 | .mk _ n tx ks ds=>.mk c n tx ks ds
def qN{R:Aj}{s:BA}{c:Nat}(h:bt s i=c):xN R s c i=(XC (c==123) (qj R s (xj c) (c==123) (i+1))).map (λq=>(q.1.withKind c,q.2)):=by
 unfold xN;rw[i_ h];cases qj R s (xj c) (c==123) (i+1) with
 |none=>rfl
 |some q=>rfl
def cq0_{p:Prop}(h:p:=by
 intro w P bl bz k M hk;obtain⟨kj,hk,J⟩:=hk;obtain⟨g,m,b6,sv,z0,b8,z1,z2,ho,U⟩:=M.Z.type hk;simp only[az_]at z1;refine hq_ λa9 Q_=>?_;have d6:=M.lt;have d7:=yc z0;have d8:=yc z1;have c3:=M.L.c3;have c2:=M.L.c2;have a3:=M.jl;have a4:=M.sl;obtain⟨h0,b,rfl⟩:=zp ho (by simp);have V:=zt ho rfl (k:=0) (x:=I_ kj) rfl;have d9:=yc V;have a0:P h0:=U h0 rfl;have b7:=M.Plt h0 a0;have a7:h0≠bl:=λe=>M.nP (e▸a0);(first|(have:=cc1;have H:=zy (iS M 123 (S_ h0 1 b)))|(have H:=zy (iS M 91 (S_ h0 1 b))));(first|(have:=cc1;have B0:=zy (tm w 123 (S_ h0 1 b)))|(have B0:=zy (tm w 91 (S_ h0 1 b))));(first|(have:=cc1;have B1:=zy (iI w 123 (S_ h0 1 b)))|(have B1:=zy (iI w 91 (S_ h0 1 b))));(first|(have:=cc1;have B2:=zy (oH w 123 (S_ h0 1 b)))|(have B2:=zy (oH w 91 (S_ h0 1 b))));(first|(have:=cc1;have a5:=zy (show(dw w 123 (S_ h0 1 b)).cell? ⟨h0,0,none⟩=some (I_ kj) from ya V _ _ _))|(have a5:=zy (show(dw w 91 (S_ h0 1 b)).cell? ⟨h0,0,none⟩=some (I_ kj) from ya V _ _ _)));(first|(have:=cc1;have T:=zy (show(dw w 123 (S_ h0 1 b)).heap.size=w.heap.size+3 by simp[dw]))|(have T:=zy (show(dw w 91 (S_ h0 1 b)).heap.size=w.heap.size+3 by simp[dw])));have d2:=λX Y Z=>ya c2 X Y Z;have b9:(k:Int)<(m:Int):=M_;replace M:=zy M;replace ho:=zy ho;replace U:=zy U;replace hk:=zy hk;replace J:=zy J;replace hR:=zy hR;go_in;go_wp2_with (first
  |(go_at_call 65;(first|(have:=cc1;apply(xZ 123 H.o.L a4 a3 rfl D_).mono)|(apply(xZ 91 H.o.L a4 a3 rfl D_).mono));rintro e w1 ⟨rfl,hE⟩;obtain⟨j1,b4,D,l,I⟩:=kZ.any D_ H.o hE;have K:=l.bl B0.o M_;have N:=l.bl B1.o M_;have O:=l.bl B2.o M_;have u1:=N.cell 1;have x1:=(World.cell?_of_block (a:=⟨h0,0,none⟩) (l.block h0 (by rw[T.o];omega) a7)).trans a5.o;simp only[aa_,ab_]at u1;have a8:=l.size;rw[T.o]at a8;revert D l K N O;refine k_ λD l K N O=>?_;clear hE)
  |(go_at_call 69;(first|(have:=cc1;apply(ot (f:=f) 125 D.o.here J.o rfl D_ (λhb j h1 S=>hR.o j (by rcases I.o with⟨_,_,h,_⟩|⟨_,_,h⟩;omega;rw[h]at hb;cases hb) S)).mono)|(apply(ot (f:=f) 93 D.o.here J.o rfl D_ (λhb j h1 S=>hR.o j (by rcases I.o with⟨_,_,h,_⟩|⟨_,_,h⟩;omega;rw[h]at hb;cases hb) S)).mono));intro e u hP;obtain⟨z,A,C,a1,m1,c1,a2,m2,c2,j2,b5,rfl,R,E,a6⟩:=zC.any D.o hP;have Q:=E.bl K.o M_;have E2:=E.bl O.o M_;have y0:=E2.cell 0;have z5:=E2.th 0;have y1:=E2.cell 1;have z6:=E2.th 1;have y2:=E2.cell 2;have z7:=E2.th 2;have y3:=E2.cell 3;have z8:=E2.th 3;have y4:=E2.cell 4;have z9:=E2.th 4;simp only[zQ,aa_,ab_,az_]at y0 y1 y2 y3 y4;have v:=Blk.fi E2 (U_ z) (Z_ A) (.string C) (.slice a1 m1 c1) (.slice a2 m2 c2);have F:=(Fr.fi u (w.heap.size+2) (U_ z) (Z_ A) (.string C) (.slice a1 m1 c1) (.slice a2 m2 c2)).bl Q M_;have y5:=v.cell 0;have y6:=v.th 0;(first|(have:=cc1;have G:=G_ v 0 (.int .u8 123))|(have G:=G_ v 0 (.int .u8 91)));(first|(have:=cc1;have y:=T_ F (a:=⟨w.heap.size+2,0,none⟩) (.int .u8 123) (by simp))|(have y:=T_ F (a:=⟨w.heap.size+2,0,none⟩) (.int .u8 91) (by simp)));obtain⟨r0,r1,r2,r3,r4⟩:=y.f5;obtain⟨t0,t1,t2,t3,t4⟩:=G.f5;obtain⟨g0,g1,g2,g3,g4⟩:=y.t5;simp only[zX,zQ,aa_,ab_,am_,az_]at r0 r1 r2 r3 r4 t0 t1 t2 t3 t4 y5;revert R E Q E2 v;refine k_ λR E Q E2 v=>?_;revert F G y;refine h_ λF G y=>?_;clear hP))
 refine zW results40 y.o (λW5 hF _=>?_);rw[Q_.o];(first|(have:=cc1;have F6:Fr u (World.setCell (World.setCell (World.setCell (World.setCell (World.setCell (World.setCell u ⟨w.heap.size+1+1,0,none⟩ (U_ z)) ⟨w.heap.size+1+1,1,none⟩ (Z_ A)) ⟨w.heap.size+1+1,2,none⟩ (.string C)) ⟨w.heap.size+1+1,3,none⟩ (.slice a1 m1 c1)) ⟨w.heap.size+1+1,4,none⟩ (.slice a2 m2 c2)) ⟨w.heap.size+1+1,0,none⟩ (.int .u8 123)) (λg=>g=w.heap.size+2):=(Fr.fi u (w.heap.size+2) (U_ z) (Z_ A) (.string C) (.slice a1 m1 c1) (.slice a2 m2 c2)).setCell ⟨w.heap.size+2,0,none⟩ (.int .u8 123) (λ_=>rfl))|(have F6:Fr u (World.setCell (World.setCell (World.setCell (World.setCell (World.setCell (World.setCell u ⟨w.heap.size+1+1,0,none⟩ (U_ z)) ⟨w.heap.size+1+1,1,none⟩ (.int .i64 A)) ⟨w.heap.size+1+1,2,none⟩ (.string C)) ⟨w.heap.size+1+1,3,none⟩ (.slice a1 m1 c1)) ⟨w.heap.size+1+1,4,none⟩ (.slice a2 m2 c2)) ⟨w.heap.size+1+1,0,none⟩ (.int .u8 91)) (λg=>g=w.heap.size+2):=(Fr.fi u (w.heap.size+2) (U_ z) (Z_ A) (.string C) (.slice a1 m1 c1) (.slice a2 m2 c2)).setCell ⟨w.heap.size+2,0,none⟩ (.int .u8 91) (λ_=>rfl)));have M6:=R.o.own (F6.mono (λ_ _ e=>M_));rcases a6.o with⟨d,hr,rfl⟩|⟨hr,rfl⟩
 .rcases I.o with⟨_,hb,rfl,rfl⟩|⟨_,_,rfl⟩
  .refine vq M6 hF ?_;simp only[rdT];rw[qN hb];rw[n_ D_]at hr;(first|(have:=cc1;exact congrArg (λx=>Option.map Prod.snd (Option.map (λq=>(DT.withKind 123 q.1,q.2)) x)) hr)|(exact congrArg (λx=>Option.map Prod.snd (Option.map (λq=>(DT.withKind 91 q.1,q.2)) x)) hr))
  .cases hr
 .refine vD M6 hF ?_;simp only[rdT];rcases I.o with⟨_,hb,rfl,rfl⟩|⟨hb,_,rfl⟩
  .rw[qN hb];rw[n_ D_]at hr;exact congrArg (Option.map _) hr
  .unfold xN;rw[n_ (by simpa using hb)]):p:=h
def YN{s:BA}{env:Au}{pl:Ar}{ts:Ap}(hR:∀j,i<j->j<=s.size->vR s env pl ts f t j):vR s env pl ts (f+1) (.wrap 91 p t) i:=by
 exact cq0_
def oN{s:BA}{env:Au}{pl:Ar}{ts:Ap}(hR:∀j,i<j->j<=s.size->vR s env pl ts f t j):vR s env pl ts (f+1) (.wrap 123 p t) i:=by
 have cc1:=Nat
 exact cq0_
section
variable {w W W':Aw} {P:Az} {bl:Nat} {s:BA} {bz:Nat} {pl:Ar} {j:Nat} {ts:Ap} {env:Au} {k:Nat} {n:Int} {tx:BA} {a1 a2:Al} {m1 c1 m2 c2:Nat} {r:Dm}
def fV(b0:Nat)(hb:w.heap.size<=b0)(M:DM w P bl s bz pl j false ts env W)(hF:Fr W W' (λg=>g=b0))(hr:r.map Prod.snd=some j):zC w bl s bz pl r (.returned (.agg (zQ k n tx (.slice a1 m1 c1) (.slice a2 m2 c2)).toArray)) W':=by
 have cc1:=Nat
 exact cq32_
def gY(b0:Nat)(hb:w.heap.size<=b0)(M:DM w P bl s bz pl j true ts env W)(b:Fr W W' (λg=>g=b0))(hr:r=none):zC w bl s bz pl r (.returned (.agg (zQ k n tx (.slice a1 m1 c1) (.slice a2 m2 c2)).toArray)) W':=by
 have a:=M.own (b.mono (λ_ _ e=>M_));subst hr;exact⟨k,n,tx,_,_,_,_,_,_,rfl,a.fr,j,M.jl,a.L⟩
end
def bw(w:Aw)(sv:Ax):World:=
 ((w.alloc (.cells #[.int .u8 40,sv] 112)).alloc (.cells zX.toArray 77)).alloc (.cells (zQ 40 0 noB (L_) (L_)).toArray 77)
def Ct(w:Aw)(sv:Ax):Blk (bw w sv) w.heap.size [.int .u8 40,sv] 112:=((B_ w _ _).alloc _).alloc _
def Cd(w:Aw)(sv:Ax):Blk (bw w sv) (w.heap.size+1) zX 77:=by
 have:=(B_ (w.alloc (.cells #[.int .u8 40,sv] 112)) zX.toArray 77).alloc (.cells (zQ 40 0 noB (L_) (L_)).toArray 77);simpa[bw] using this
def Cr(w:Aw)(sv:Ax):Blk (bw w sv) (w.heap.size+2) (zQ 40 0 noB (L_) (L_)) 77:=by
 have:=B_ ((w.alloc (.cells #[.int .u8 40,sv] 112)).alloc (.cells zX.toArray 77)) (zQ 40 0 noB (L_) (L_)).toArray 77;simpa[bw] using this
def Ch{w:Aw}{P:Az}{bl:Nat}{s:BA}{bz:Nat}{pl:Ar}{j:Nat}{bad:Ar}{ts:Ap}{env:Au}(M:DM w P bl s bz pl j bad ts env w)(sv:Ax):DM w P bl s bz pl j bad ts env (bw w sv):=((M.alloc _).alloc _).alloc _
def Fs(n:Int):Option (DT×Nat)->Option (DT×Nat)
 |none=>none
 |some (d,j)=>some (.mk 40 n noB [] [d],j)
def ej{w:Aw}{P:Az}{bl:Nat}{s:BA}{bz:Nat}{ts:Ap}{env:Au}{h0 sn sc v:Nat}(M:DM w P bl s bz true i false ts env w)(x:w.cell? ⟨h0,0,none⟩=some (I_ v))(q:0<sn)(u:isT ts v t)(q:vR s env true ts f t i):Calls prog 70 #[P_ bl,.agg #[.int .u8 40,S_ h0 sn sc]] w (zC w bl s bz true (Fs 0 (rdT s env true f t i))):=by
 refine hq_ λz F=>?_;have z:=M.lt;have z:=yc x;have z:=M.sl;have z:=M.jl;have c4:=M.L.c4;have d4:=λX Y Z=>ya c4 X Y Z;have dx:=λX Y Z=>ya x X Y Z;have y:=zy (Ch M (S_ h0 sn sc));have x:=Ct w (S_ h0 sn sc);have b1:=x.cell 1;simp only[bw,zX,zQ,noB,aa_,ab_,az_]at b1;have A:=zy (Cd w (S_ h0 sn sc));have E:=zy (Cr w (S_ h0 sn sc));have G:=zy (show(bw w (S_ h0 sn sc)).heap.size=w.heap.size+3 by simp[bw]);revert M u q;refine h_ λM u q=>?_;go_in;go_wp2_with (go_at_call 40;apply(q.o _ P bl bz v y.o.here u).mono;intro e m hP;obtain⟨b,h,l,a1,m1,c1,a2,m2,c2,q,q,rfl,z,q,K⟩:=zC.any y hP;have u:=q.size;rw[G.o]at u;have E1:=q.bl A M_;have E2:=q.bl E M_;have A:=(z.alloc (.cells #[U_ b,Z_ h,.string l,.slice a1 m1 c1,.slice a2 m2 c2] 77)).alloc (.cells #[U_ b,Z_ h,.string l,.slice a1 m1 c1,.slice a2 m2 c2] 77);have x:=(E1.alloc (.cells #[U_ b,Z_ h,.string l,.slice a1 m1 c1,.slice a2 m2 c2] 77)).alloc (.cells #[U_ b,Z_ h,.string l,.slice a1 m1 c1,.slice a2 m2 c2] 77);have u:=(E2.alloc (.cells #[U_ b,Z_ h,.string l,.slice a1 m1 c1,.slice a2 m2 c2] 77)).alloc (.cells #[U_ b,Z_ h,.string l,.slice a1 m1 c1,.slice a2 m2 c2] 77);have U:=u.cell 4;have V:=u.th 4;have y:=G_ u 4 (S_ (m.heap.size+1) 1 1);have v:=T_ x (a:=⟨w.heap.size+1+1,4,none⟩) (S_ (m.heap.size+1) 1 1) x8_;obtain⟨r0,r1,N,O,Q⟩:=v.f5;obtain⟨R,S,T,t3,t4⟩:=y.f5;obtain⟨E,G,H,I,J⟩:=v.t5;simp only[zX,zQ,aa_,ab_,am_,ao_,az_]at r0 r1 N O Q R S T t3 t4 U V E G H I J;replace z:=zy z;replace q:=zy q;replace E1:=zy E1;replace E2:=zy E2;replace A:=zy A;replace x:=zy x;replace u:=zy u;replace v:=zy v;replace y:=zy y);refine zW results70 v.o (λq D _=>?_);rw[F.o];have C:=A.o.put ⟨w.heap.size+1+1,4,none⟩ (S_ (m.heap.size+1) 1 1) y0_;rcases K.o with⟨d,hr,rfl⟩|⟨hr,rfl⟩
 .have q:Fr m (World.setCell ((m.alloc (.cells #[U_ b,Z_ h,.string l,.slice a1 m1 c1,.slice a2 m2 c2] 77)).alloc (.cells #[U_ b,Z_ h,.string l,.slice a1 m1 c1,.slice a2 m2 c2] 77)) ⟨w.heap.size+1+1,4,none⟩ (S_ (m.heap.size+1) 1 1)) (λg=>g=w.heap.size+2):=((((A_ m (λg=>g=w.heap.size+2)).alloc _).alloc _).setCell _ _ (λ_=>rfl));have q:((m.alloc (.cells #[U_ b,Z_ h,.string l,.slice a1 m1 c1,.slice a2 m2 c2] 77)).alloc (.cells #[U_ b,Z_ h,.string l,.slice a1 m1 c1,.slice a2 m2 c2] 77)).ownsRow 0 77 5 (S_ (m.heap.size+1) 1 1) 1 (zQ b h l (.slice a1 m1 c1) (.slice a2 m2 c2)):=by
   have:=World.ownsRow_lit (base:=0) (e:=77) (size:=5) (m.alloc (.cells #[U_ b,Z_ h,.string l,.slice a1 m1 c1,.slice a2 m2 c2] 77)) #[U_ b,Z_ h,.string l,.slice a1 m1 c1,.slice a2 m2 c2] 1 o_ (by simp[maxLen]) rfl;have e:(m.alloc (.cells #[U_ b,Z_ h,.string l,.slice a1 m1 c1,.slice a2 m2 c2] 77)).heap.size=m.heap.size+1:=x8_
   rw[e]at this;exact this
  have b:=zj q ((A_ _ (λg=>g=w.heap.size+2)).setCell ⟨w.heap.size+1+1,4,none⟩ (S_ (m.heap.size+1) 1 1) (λ_=>rfl)) (λg hg e=>by simp only[Value.ownBlock,af_]at hg;omega);refine fV (w.heap.size+1) M_ C D ?_;rw[hr];rfl
 .exact gY (w.heap.size+1) M_ C D (by rw[hr];rfl)
def Mw(s:BA)(env:Au)(pl:Ar)(ts:Ap)(f:Nat)(l:Ad)(i:Nat):Prop:=
 ∀(w:World) (P:Nat->Prop) (bl bz:Nat) (js:List Nat) (h0 sn sc:Nat),DM w P bl s bz pl i false ts env w->cX ts js l->w.ownsRow 0 3 1 (S_ h0 sn sc) js.length (js.map λ(n:Nat)=>Value.int .i64 (n:Int))->P h0->
  Calls prog 70 #[P_ bl,.agg #[.int .u8 40,S_ h0 sn sc]] w (zC w bl s bz pl (jc (rdT s env pl f) s pl l i))
def mY{w:Aw}{base:Nat}{e:Av}{size:Nat}{n:Nat}{xs:Ay}{a:Al}{m c:Nat}(h:w.ownsRow base e size (.slice a m c) n xs):m=n:=by
 rcases h.2 with⟨h1,h0⟩|⟨g,b,_,h1,_⟩
 .cases h1;exact h0.symm
 .cases h1;rfl
def Gx{s:BA}{env:Au}{ts:Ap}{l:Ad}(hl:l≠[])(a:∀t∈l,vR s env true ts f t i):Mw s env true ts f l i:=by
 intro w P bl bz b h0 sn sc M d ho _;cases l with
 |nil=>exact absurd rfl hl
 |cons t r=>
  obtain⟨j,q,rfl,b,_⟩:=d;have d:=zt ho (g:=h0) (cap:=sc) (by rw[mY ho]) (k:=0) (x:=I_ j) rfl;have hn:=mY ho;have h:=ej (sn:=sn) (sc:=sc) M d (by rw[hn];simp) b (a t x8_);have e:jc (rdT s env true f) s true (t::r) i=Fs 0 (rdT s env true f t i):=by
   unfold jc Fs;rw[i_ rfl];rfl
  rw[e];exact h
def WT{s:BA}{env:Au}{pl:Ar}{ts:Ap}{l:Ad}(F:l≠[])(hB:Mw s env pl ts f l i):vR s env pl ts (f+1) (.alts p l) i:=by
 intro w P bl bz k M hk;obtain⟨x,hk,h⟩:=hk;obtain⟨g,m,u,sv,z0,u,u,G,ho,v⟩:=M.Z.type hk;simp only[az_]at u;refine hq_ λH C=>?_;have E:0<x.length:=by rw[oV h];exact List.length_pos_iff.2 F
 have F:=M.lt;have F:=yc z0;have F:=yc u;have c3:=M.L.c3;have c2:=M.L.c2;have u:=M.jl;have u:=M.sl;obtain⟨h0,a,rfl⟩:=zp ho E;have D:P h0:=v h0 rfl;obtain⟨sn,q⟩:=e_ x.length;simp only[<- q]at G ho;replace q:=zy q;have y:=zy (iS M 40 (S_ h0 sn a));have A:=zy (tm w 40 (S_ h0 sn a));have u:=iI w 40 (S_ h0 sn a);have u0:=u.cell 0;have E:=u.cell 1;simp only[dw,zX,zQ,noB,aa_,ab_,az_]at u0 E;have E:=zy (zj ho ((((A_ w N_).alloc (.cells zX.toArray 77)).alloc (.cells #[.int .u8 40,S_ h0 sn a] 112)).alloc (.cells (zQ 40 0 noB (L_) (L_)).toArray 77)) u_);have F:=zy (show(dw w 40 (S_ h0 sn a)).heap.size=w.heap.size+3 by simp[dw]);have F:=λX Y Z=>ya c2 X Y Z;have F:(k:Int)<(m:Int):=M_;replace M:=zy M;replace ho:=zy ho;replace v:=zy v;replace hk:=zy hk;replace h:=zy h;replace hB:=zy hB;go_in;go_wp2_with (go_at_call 70;apply(hB.o _ P bl bz x h0 sn a y.o.here h (by rw[<- q.o];exact E) D).mono;intro e a hP;obtain⟨a,a,a,a1,m1,c1,a2,m2,c2,a,a,rfl,b,h,q⟩:=zC.any y hP;have a:=h.bl A M_;obtain⟨r0,r1,u,v,x⟩:=a.f5;obtain⟨y,y,y,y,y⟩:=a.t5;simp only[zX,zQ,aa_,ab_,az_]at r0 r1 u v x;revert b h a;refine h_ λb h a=>?_);refine zW results40 a.o (λa z _=>?_);rw[C.o];rcases q.o with⟨d,hr,rfl⟩|⟨hr,rfl⟩
 .exact vq b z (by simp only[rdT];rw[hr];rfl)
 .exact vD b z (by simp only[rdT];exact hr)
def PP(s:BA)(env:Au)(pl:Ar)(ts:Ap)(f:Nat)(pb:PB)(i:Nat):Prop:=
 ∀(w:World) (P:Nat->Prop) (bl bz:Nat) (so:Int) (fv:Value) (sb:BA) (o n:Int),DM w P bl s bz pl i false ts env w->fK w P ts pb so fv sb n->
  Calls prog 71 #[P_ bl,.agg #[.int .u8 so,fv,.string sb,Z_ o,Z_ n]] w (zC w bl s bz pl (yj (rdT s env pl f) s pb i))
def nw(w:Aw)(c:Nat)(fv:Ax)(sb:BA)(o n:Int):World:=
 ((w.alloc (.cells #[U_ c,fv,.string sb,Z_ o,Z_ n] 42)).alloc (.cells zX.toArray 77)).alloc (.cells (zQ c 0 noB (L_) (L_)).toArray 77)
def Uw(w:Aw)(c:Nat)(fv:Ax)(sb:BA)(o n:Int):Blk (nw w c fv sb o n) w.heap.size [U_ c,fv,.string sb,Z_ o,Z_ n] 42:=((B_ w _ _).alloc _).alloc _
def Uk(w:Aw)(c:Nat)(fv:Ax)(sb:BA)(o n:Int):Blk (nw w c fv sb o n) (w.heap.size+1) zX 77:=by
 have:=(B_ (w.alloc (.cells #[U_ c,fv,.string sb,Z_ o,Z_ n] 42)) zX.toArray 77).alloc (.cells (zQ c 0 noB (L_) (L_)).toArray 77);simpa[nw] using this
def Uq(w:Aw)(c:Nat)(fv:Ax)(sb:BA)(o n:Int):Blk (nw w c fv sb o n) (w.heap.size+2) (zQ c 0 noB (L_) (L_)) 77:=by
 have:=B_ ((w.alloc (.cells #[U_ c,fv,.string sb,Z_ o,Z_ n] 42)).alloc (.cells zX.toArray 77)) (zQ c 0 noB (L_) (L_)).toArray 77;simpa[nw] using this
def Uj{w:Aw}{P:Az}{bl:Nat}{s:BA}{bz:Nat}{pl:Ar}{j:Nat}{bad:Ar}{ts:Ap}{env:Au}(M:DM w P bl s bz pl j bad ts env w)(c:Nat)(fv:Ax)(sb:BA)(o n:Int):DM w P bl s bz pl j bad ts env (nw w c fv sb o n):=((M.alloc _).alloc _).alloc _
def KO{s:BA}{env:Au}{pl:Ar}{ts:Ap}{m:Nat}:PP s env pl ts f (.bytes m) i:=by
 intro w P bl bz so fv sb o n M q;obtain⟨⟨z,C,A,rfl⟩,a0,rfl,q⟩:=q;refine hq_ λa8 Q_=>?_;have b5:=M.lt;have a7:=M.jl;have U:=M.sl;have Y:=zy (Uj M 102 (.slice z C A) sb o n);have B0:=zy (Uw w 102 (.slice z C A) sb o n);have B1:=zy (Uk w 102 (.slice z C A) sb o n);have B2:=zy (Uq w 102 (.slice z C A) sb o n);have b4:=zy (show(nw w 102 (.slice z C A) sb o n).heap.size=w.heap.size+3 by simp[nw]);replace M:=zy M;replace a0:=zy a0;replace q:=zy q;have hn:=q.o;subst hn;go_in;go_upto_if 94 with(first
  |(go_at_call 68;apply(qA y.o.L U y.o.jl).mono;intro e w2 hT;obtain⟨tx,j2,rfl,Q,v,hx,hK⟩:=hT.any y;have G:=v.bl E M_;have E1:=v.bl F M_;have E2:=v.bl X M_;have p1:=E2.cell 2;have p2:=E2.th 2;have b:=Q.put ⟨w.heap.size+1+1,2,none⟩ (.string tx) y0_;have d:=G_ E2 2 (.string tx);have g:=T_ E1 (a:=⟨w.heap.size+1+1,2,none⟩) (.string tx) yt_;have I:=T_ G (a:=⟨w.heap.size+1+1,2,none⟩) (.string tx) (by show ¬(w.heap.size=w.heap.size+1+1);omega);have p3:=d.cell 2;have p4:=I.cell 4;have a4:=b.L.c2;have a5:=b.L.th 2;simp only[zQ,aa_,ab_,am_,ao_]at p1 p3 p4;revert Q v G E1 E2 b;refine m_ λQ v G E1 E2 b=>?_;revert d g I;refine h_ λd g I=>?_)
  |(go_at_call 65;apply(xZ 39 Y.o.L U a7 rfl D_).mono;rintro e w1 ⟨rfl,D⟩;obtain⟨j1,Z,y,u,hJ⟩:=kZ.any D_ Y D;have E:=u.bl B0 M_;have F:=u.bl B1 M_;have X:=zy (u.bl B2 M_);revert y u E F;refine g_ λy u E F=>?_))
 go_cut [] (λW=>∃K,DM w P bl s bz pl j2 K ts env W/\Blk W (w.heap.size+1) zX 77/\Blk W (w.heap.size+2) (zQ 102 0 tx (L_) (L_)) 77/\((K=Z/\tx.size=m)\/(K=true/\tx.size≠m)));case first=>
  by_cases h:tx.size=m
  .have en:(((tx.size:Nat):Int) != (m:Int))=false:=x1_
   replace h:=zy h;go_wp2;go_meet;case rel=>exact⟨Z,b,g,d,.inl ⟨rfl,h⟩⟩
  .have en:(((tx.size:Nat):Int) != (m:Int))=true:=x1_
   replace h:=zy h;go_wp2;go_meet;case rel=>exact⟨true,b.o.sp,T_ g _ yj_,T_ d _ yk_,.inr ⟨rfl,h⟩⟩
 case rest=>
  obtain⟨K,b,g,d,N⟩:=hcut;revert b g d N;refine g_ λb g d N=>?_;go_wp2_with (go_at_call 65;apply(xZ 39 b.o.L U b.o.jl rfl D_).mono;rintro e w4 ⟨rfl,D⟩;obtain⟨j4,a9,J,H,a6⟩:=kZ.any D_ b D;have x:=H.bl g M_;have O:=H.bl d M_;obtain⟨r0,r1,r2,r3,r4⟩:=x.f5;obtain⟨t0,t1,t2,t3,t4⟩:=O.f5;obtain⟨g0,g1,g2,g3,g4⟩:=x.t5;simp only[zX,zQ,aa_,ab_,az_]at r0 r1 r2 r3 r4 t0 t1 t2 t3 t4;revert J H x O;refine g_ λJ H x O=>?_);refine zW results71 x.o (λW5 hF _=>?_);rw[Q_.o];obtain⟨V,b6,a3⟩:=hK.o;rcases a6.o with⟨rfl,l,rfl,rfl⟩|⟨l,_,rfl⟩
  .rcases N.o with⟨hb,h⟩|⟨hb,_⟩
   .subst hb;rcases hJ.o with⟨_,h1,rfl,_⟩|⟨_,_,hb⟩
    .have R:=a3 rfl;have S:j2-(i+1)=m:=by
      rw[<- h,V,bk_];have:=b.o.jl;omega
     subst V;refine fV (w.heap.size+1) M_ J hF ?_;unfold yj;simp only;rw[<- R,i_ ⟨h1,S,l⟩];rfl
    .cases hb
   .cases hb
  .refine gY (w.heap.size+1) M_ J hF ?_;unfold yj;simp only;refine n_ (λT=>?_);rcases hJ.o with⟨_,h1,rfl,rfl⟩|⟨h1,_,hb⟩
   .have R:=a3 rfl;rw[<- R]at T;have S:tx.size=m:=by
     rw[V,bk_];have:=b.o.jl;omega
    rcases N.o with⟨hb,_⟩|⟨_,hb⟩
    .rcases l with l|l
     .rw[l]at hb;cases hb
     .exact l T.2.2
    .exact hb S
   .rcases h1 with h1|h1
    .cases h1
    .exact h1 T.1
def KK{sb:BA}{l:As}(h:sb.data.toList.map UInt8.toNat=l.map Prod.fst)(c:Nat):plc sb c=match (l.map Prod.fst).findIdx? (λx=>x==c) with|some k=>(k:Int)|none=>-1:=by
 rw[<- h,List.findIdx?_map];rfl
def FY{s:BA}{env:Au}{pl:Ar}{ts:Ap}{l:As}{b9:Ac}(R:∀c∈l.map Prod.fst,0<c)(e2:l.length<=300):PP s env pl ts f (.enum l b9) i:=by
 intro w P bl bz so fv sb o n M C;obtain⟨⟨y,A,z,rfl⟩,a0,rfl,C⟩:=C;refine hq_ λd2 Q_=>?_;have e1:=M.lt;have a7:=M.jl;have b6:=M.sl;have M0:=zy (Uj M 101 (.slice y A z) sb o n);have Z:=zy (Uw w 101 (.slice y A z) sb o n);have B1:=zy (Uk w 101 (.slice y A z) sb o n);have B2:=zy (Uq w 101 (.slice y A z) sb o n);have e0:=zy (show(nw w 101 (.slice y A z) sb o n).heap.size=w.heap.size+3 by simp[nw]);replace M:=zy M;replace a0:=zy a0;replace C:=zy C;have b5:sb.size<=100000:=by
  have:=congrArg List.length C;rw[bq_,bq_]at this;have e:sb.size=sb.data.toList.length:=by rw[Array.length_toList];rfl
  omega
 obtain⟨c,hc⟩:=x_ (bt s i);have a8:=zy (show lk s i false=c by simp[lk,hc]);obtain⟨v,hv⟩:=x_ (plc sb c);replace hc:=zy hc;replace hv:=zy hv;replace R:=zy R;go_in;go_wp2;change Code.wp _ _ _ _ (nw w 101 (.slice y A z) sb o n);generalize nw w 101 (.slice y A z) sb o n=W0 at *;have u2:=Z.o.c2;refine tr_ 6 (λW=>z_ W w.heap.size 2 (.string sb)) ?_;refine tb_ 0 rfl K_ (λ_ _ _ h=>h) xq_ x9_ ?_;refine tb_ 1 rfl K_ (λ_ _ _ h=>h) xq_ x9_ ?_;refine tb_ 2 rfl K_ (λ_ _ _ h=>h) xq_ x9_ ?_;refine zh 3 rfl K_ (λ_=>u2) (λK H=>?_);go_simp;apply(yN (M0.o.si (zq.drew W0)).L b6 a7).mono;rintro e w1 ⟨rfl,b8⟩;rw[a8.o];refine H _ _ ?_;have a5:zq W0 w1:=(zq.drew W0).trans b8;have O:=M0.o.si a5;have G:=(A_ W0 (λg=>g=bl)).si a5;have J:=G.bl Z M_;have N:=G.bl B1 M_;have F:=G.bl B2 M_;have I:=J.cell 2;have p1:=F.cell 1;have p2:=F.th 1;simp only[zQ,aa_,ab_]at I p1;refine zh 4 rfl K_ (λ_=>I) (λK H=>?_);go_simp;apply(jQ sb c w1 b5).mono;rintro e w' ⟨rfl,a4⟩;rw[hv.o];refine H _ _ ?_;rw[a4];refine t1_ 5 I ?_;refine t1_ 6 I ?_;refine td_ ?_ _;have d:=O.put ⟨w.heap.size+1+1,1,none⟩ (Z_ v) y0_;have E2:=G_ F 1 (Z_ v);have E1:=T_ N (a:=⟨w.heap.size+1+1,1,none⟩) (Z_ v) yt_;have p3:=E2.cell 1;have d6:=d.L.c1;have d7:=d.L.c2;have d8:=d.L.th 1;have d9:=d.L.th 2;simp only[zQ,aa_,ab_,am_,ao_]at p3;have D:=KK C c;have a6:=Uz sb c;rw[hv.o]at D a6;replace O:=zy O;replace G:=zy G;replace J:=zy J;replace N:=zy N;replace F:=zy F;replace D:=zy D;by_cases b7:v<0
 .have u:=d.sp;have b:=T_ E1 (a:=⟨bl,2,none⟩) (.bool true) yj_;have m:=T_ E2 (a:=⟨bl,2,none⟩) (.bool true) yk_;obtain⟨r0,r1,S,T,U⟩:=b.f5;obtain⟨V,X,Y,t3,t4⟩:=m.f5;obtain⟨g0,g1,g2,g3,g4⟩:=b.t5;simp only[zX,zQ,aa_,ab_,am_,ao_,az_]at r0 r1 S T U V X Y t3 t4;revert d E2 E1 u b m;refine m_ λd E2 E1 u b m=>?_;go_wp2;refine zW results71 b.o (λW5 Q _=>?_);rw[Q_.o];refine gY (w.heap.size+1) M_ u Q ?_;unfold yj;simp only;rw[hc.o];have h:=D.o;cases E:(l.map Prod.fst).findIdx? (λx=>x==c) with
  |none=>rw[ite_self]
  |some q=>rw[E]at h;simp only at h;omega
 .have e3:0<=v:=M_;have a3:i<s.size:=by
   refine zm (s:=s) (i:=i) ?_;rw[hc.o];have h:=D.o;cases E:(l.map Prod.fst).findIdx? (λx=>x==c) with
   |none=>rw[E]at h;simp only at h;omega
   |some q=>
    obtain⟨a9,b4,_⟩:=List.findIdx?_eq_some_iff_getElem.1 E;have:=R.o _ (bj_ a9);simp only[beq_iff_eq]at b4;omega
  have u:=d.inc a3;have b:=T_ E1 (a:=⟨bl,1,none⟩) (Z_ ((i:Int)+1)) yj_;have m:=T_ E2 (a:=⟨bl,1,none⟩) (Z_ ((i:Int)+1)) yk_;obtain⟨r0,r1,S,T,U⟩:=b.f5;obtain⟨V,X,Y,t3,t4⟩:=m.f5;obtain⟨g0,g1,g2,g3,g4⟩:=b.t5;simp only[zX,zQ,aa_,ab_,am_,ao_,az_]at r0 r1 S T U V X Y t3 t4;revert d E2 E1 u b m;refine m_ λd E2 E1 u b m=>?_;go_wp2;refine zW results71 b.o (λW5 Q _=>?_);rw[Q_.o];refine fV (w.heap.size+1) M_ u Q ?_;unfold yj;simp only;rw[i_ a3,hc.o];have h:=D.o;cases E:(l.map Prod.fst).findIdx? (λx=>x==c) with
  |none=>rw[E]at h;simp only at h;omega
  |some q=>rfl
end Go.Proofs.YtamhgejdkclmdaaGreatDoor
