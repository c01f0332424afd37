import Derived.Test.YtahhhgbojlkjnaaGreatDoorW05
set_option maxHeartbeats 16000000
set_option maxRecDepth 100000
set_option linter.defProp false
set_option linter.unusedSimpArgs false
open Go.Proofs.Tryz
namespace Go.Proofs.YtahhhgbojlkjnaaGreatDoor
open Go.RowKit
variable {i f p fin j':Nat}{t:PT}{e:Ah}{keyed bad':Ap}
def Bw{s:BA}{env:Ay}{pl:Ap}{ts:Aq}:jv s env pl ts (f+1) (.leaf 116 p) i:=by
 intro w P bl bz k M hk;simp only[isT]at hk;obtain⟨g,m,a7,sv,z0,a8,z1,z2,ho,a1⟩:=M.Z.type hk;simp only[af_]at z1;refine hq_ λa5 Q_=>?_;have b4:=M.lt;have b5:=zo z0;have b6:=zo z1;have c3:=M.L.c3;have c2:=M.L.c2;have J:=M.jl;have K:=M.sl;obtain⟨E,sn,F,rfl⟩:=zW ho;have A:=zy (ix M 116 (.slice E sn F));have U:=zy (cg w 116 (.slice E sn F));have V:=zy (dJ w 116 (.slice E sn F));have d2:=λX Y Z=>zJ c2 X Y Z;have a9:(k:Int)<(m:Int):=M_;replace M:=zy M;replace ho:=zy ho;replace a1:=zy a1;replace hk:=zy hk;obtain⟨c,hc⟩:=x_ (bt s i);have a0:=zy (show lk s i false=c by simp[lk,hc]);by_cases C:c=84
 .subst C;have a4:i<s.size:=zr M_;replace hc:=zy hc;go_in;go_wp2_with (go_at_call 104;apply(xv A.o.L K J).mono;rintro e w1 ⟨rfl,y⟩;rw[a0.o];have q:=A.o.si y;have l:=(A_ _ (λg=>g=bl)).si y;have u:=l.bl U M_;have v:=l.bl V M_;have p1:=v.cell 1;have p2:=v.th 1;simp only[zq,aa_,ab_]at p1;have b:=q.put ⟨w.heap.size+1+1,1,none⟩ (Z_ 1) x4_;have E2:=C_ v 1 (Z_ 1);have h:=E_ u (a:=⟨w.heap.size+2,1,none⟩) (Z_ 1) x8_;have c1:=b.L.c1;have f1:=b.L.th 1;have H:=b.inc a4;have G:=E_ E2 (a:=⟨bl,1,none⟩) (Z_ ((i:Int)+1)) x4_;have x:=E_ h (a:=⟨bl,1,none⟩) (Z_ ((i:Int)+1)) x4_;obtain⟨r0,r1,N,O,Q⟩:=x.f5;obtain⟨R,S,T,t3,t4⟩:=G.f5;obtain⟨g0,g1,g2,g3,g4⟩:=x.t5;simp only[zf,zq,aa_,ab_,an_,ao_,af_]at r0 r1 N O Q R S T t3 t4;revert q l u v b E2;refine m_ λq l u v b E2=>?_;revert h H G x;refine g_ λh H G x=>?_);refine zi results70 x.o (λW5 D _=>?_);rw[Q_.o];exact vb H (zF.bare _ _ 116 1 noB) D (by simp[rdT,xr,hc.o])
 .have b7:((c:Int)==84)=false:=x4_
  replace hc:=zy hc;replace C:=zy C;go_in;go_wp2_with (first
   |(go_at_call 104;apply(xv A.o.L K J).mono;rintro e w1 ⟨rfl,y⟩;rw[a0.o];have q:=A.o.si y;have l:=(A_ _ (λg=>g=bl)).si y;have u:=l.bl U M_;have v:=zy (l.bl V M_);revert q l u;refine h_ λq l u=>?_)
   |(go_at_call 103;apply(xX 70 q.o.L K J rfl D_).mono;rintro e w2 ⟨rfl,hE⟩;obtain⟨j2,a6,b,z,hJ⟩:=kF.any D_ q hE;have h:=z.bl u M_;have E2:=z.bl v M_;obtain⟨r0,r1,N,O,Q⟩:=h.f5;obtain⟨R,S,T,t3,t4⟩:=E2.f5;obtain⟨g0,g1,g2,g3,g4⟩:=h.t5;simp only[zf,zq,aa_,ab_,af_]at r0 r1 N O Q R S T t3 t4;revert b z h E2;refine g_ λb z h E2=>?_))
  refine zi results70 h.o (λW5 D _=>?_);rw[Q_.o];rcases hJ.o with⟨_,I,rfl,rfl⟩|⟨I,_,rfl⟩
  .exact vb b (zF.bare _ _ 116 0 noB) D (by simp[rdT,xr,I])
  .have a2:bt s i≠70:=by simpa using I
   have a3:bt s i≠84:=by rw[hc.o];exact C
   exact jq b ⟨_,_,_,rfl⟩ ⟨_,_,_,rfl⟩ D (by simp[rdT,xr,a2,a3])
def fP.any{w:Aw}{P:Au}{bl:Nat}{s:BA}{bz:Nat}{pl:Ap}{j kd:Nat}{ts:Aq}{env:Ay}{W W':Aw}(M:DM w P bl s bz pl j false ts env W)(h:fP W bl s bz pl j kd e W'):∃v j' bad',e=.returned (Z_ v)/\DM w P bl s bz pl j' bad' ts env W'/\Fr W W' (· = bl)/\H_ ((bad'=false/\vg s kd j=some (v,j'))\/(bad'=true/\vg s kd j=none)):=by
 obtain⟨k,neg,t,hn,o,hk,h1,l,g,m⟩:=h;subst hn o hk;rcases m with⟨a,b,c,d⟩|⟨a,c,d⟩
 .exact⟨_,_,_,d,M.call c g l,g,.inl ⟨rfl,by unfold vg;exact i_ a⟩⟩
 .exact⟨_,_,_,d,M.call c g l,g,.inr ⟨rfl,by unfold vg;exact n_ a⟩⟩
def Bu{s:BA}{env:Ay}{pl:Ap}{ts:Aq}:jv s env pl ts (f+1) (.leaf 105 p) i:=by
 exact cq5_
def Bb{s:BA}{env:Ay}{pl:Ap}{ts:Aq}:jv s env pl ts (f+1) (.leaf 108 p) i:=by
 have cc1:=Nat
 exact cq5_
def kZ.any{w:Aw}{P:Au}{bl:Nat}{s:BA}{bz:Nat}{pl:Ap}{j:Nat}{bad:Ap}{ts:Aq}{env:Ay}{W W':Aw}(M:DM w P bl s bz pl j bad ts env W)(h:kZ W bl s bz pl j bad e W'):∃tx j',e=.returned (.string tx)/\DM w P bl s bz pl j' bad ts env W'/\Fr W W' (· = bl)/\tx.size<=4000/\H_ (tx=s.extract j j'/\j<=j'/\(bad=false->j'=zX s j)):=by
 obtain⟨k,h1,b,g,l,m,a⟩:=h;refine⟨_,k,l,M.call m a g,a,?_,rfl,b,λhb=>by rw[h1,hb];rfl⟩;have:=M.sl;rw[a3_];omega
def Bg{s:BA}{env:Ay}{pl:Ap}{ts:Aq}:jv s env pl ts (f+1) (.leaf 115 p) i:=by
 intro w P bl bz k M hk;simp only[isT]at hk;obtain⟨g,m,a8,sv,z0,a9,T,z2,ho,R⟩:=M.Z.type hk;simp only[af_]at T;refine hq_ λa5 Q_=>?_;have b5:=M.lt;have b6:=zo z0;have b7:=zo T;have c3:=M.L.c3;have c2:=M.L.c2;have a3:=M.jl;have J:=M.sl;obtain⟨A,sn,C,rfl⟩:=zW ho;have K:=zy (ix M 115 (.slice A sn C));have U:=zy (cg w 115 (.slice A sn C));have V:=zy (dJ w 115 (.slice A sn C));have d2:=λX Y Z=>zJ c2 X Y Z;have b4:(k:Int)<(m:Int):=M_;replace M:=zy M;replace ho:=zy ho;replace R:=zy R;replace hk:=zy hk;go_in;go_wp2_with (first
  |(go_at_call 106;apply(kn h.o.L J h.o.jl).mono;intro e w2 Q;obtain⟨tx,j2,rfl,H,x,hx,hK⟩:=Q.any h;have E:=x.bl D M_;have E2:=x.bl D2 M_;have p1:=E2.cell 2;have p2:=E2.th 2;simp only[zq,aa_,ab_]at p1;have l:=H.put ⟨w.heap.size+1+1,2,none⟩ (.string tx) x4_;have F:=C_ E2 2 (.string tx);have G0:=zy (E_ E (a:=⟨w.heap.size+2,2,none⟩) (.string tx) x8_);revert H x E E2 l F;refine m_ λH x E E2 l F=>?_)
  |(go_at_call 103;apply(xX 34 l.o.L J l.o.jl rfl D_).mono;rintro e w4 ⟨rfl,u⟩;obtain⟨j4,a7,z,y,a2⟩:=kF.any D_ l u;have b:=y.bl G0 M_;have G:=y.bl F M_;obtain⟨r0,r1,r2,r3,r4⟩:=b.f5;obtain⟨t0,t1,t2,t3,t4⟩:=G.f5;obtain⟨g0,g1,g2,g3,g4⟩:=b.t5;simp only[zf,zq,aa_,ab_,an_,ao_,af_]at r0 r1 r2 r3 r4 t0 t1 t2 t3 t4;revert z y b G;refine g_ λz y b G=>?_)
  |(go_at_call 103;apply(xX 34 K.o.L J a3 rfl D_).mono;rintro e w1 ⟨rfl,u⟩;obtain⟨j1,a6,h,v,O⟩:=kF.any D_ K u;have D:=v.bl U M_;have D2:=zy (v.bl V M_);revert h v D;refine h_ λh v D=>?_))
 refine zi results70 b.o (λW5 N _=>?_);rw[Q_.o];obtain⟨a4,b8,S⟩:=hK.o;rcases a2.o with⟨rfl,q,rfl,rfl⟩|⟨q,rfl,rfl⟩
 .rcases O.o with⟨_,h1,rfl,_⟩|⟨_,_,hb⟩
  .have I:=S rfl;subst a4;refine vb z (zF.bare _ _ 115 0 _) N ?_;rw[I]at q⊢;simp[rdT,xr,h1,q]
  .cases hb
 .refine jq z ⟨_,_,_,rfl⟩ ⟨_,_,_,rfl⟩ N ?_;rcases O.o with⟨_,h1,rfl,rfl⟩|⟨h1,_,hb⟩
  .have I:=S rfl;rw[I]at q;have a1:bt s (zX s (i+1))≠34:=by simpa using q
   simp[rdT,xr,a1]
  .have a0:bt s i≠34:=by simpa using h1
   simp[rdT,xr,a0]
def lH{ts:Aq}{k:Nat}(h:isT ts k t):∃l,ts[k]?=some ⟨t.kind,l⟩:=by
 cases t with
 |leaf c p=>exact⟨_,h⟩
 |wrap c p t=>obtain⟨j,h,_⟩:=h;exact⟨_,h⟩
 |alts p l=>obtain⟨j,h,_⟩:=h;exact⟨_,h⟩
def cq8_{p:Prop}(h:p:=by
 (first|(have:=cc1;have a1:(er==0)=false:=by simp[he])|(intro w P bl bz k i M hk));obtain⟨l,hk⟩:=lH hk;obtain⟨c,hc⟩:=x_ t.kind;rw[hc]at hk;obtain⟨g,m,a0,sv,z0,a2,E,z2,ho,D⟩:=M.Z.type hk;simp only at E;refine hq_ λV G=>?_;have a4:=M.lt;have a5:=zo z0;have a6:=zo E;have c3:=M.L.c3;have c2:=M.L.c2;obtain⟨q,sn,u,rfl⟩:=zW ho;have a:=cg w c (.slice q sn u);have b:=dJ w c (.slice q sn u);have r0:=a.cell 0;have S:=b.cell 0;have H:=a.th 0;have r1:=a.cell 1;have T:=b.cell 1;have I:=a.th 1;have O:=a.cell 2;have U:=b.cell 2;have J:=a.th 2;have Q:=a.cell 3;have t3:=b.cell 3;have K:=a.th 3;have R:=a.cell 4;have t4:=b.cell 4;have N:=a.th 4;have d2:=λX Y Z=>zJ c2 X Y Z;simp only[dw,zf,zq,noB,aa_,ab_,af_]at r0 r1 O Q R S T U t3 t4 H I J K N;clear a b;have a3:(k:Int)<(m:Int):=M_;replace M:=zy M;replace ho:=zy ho;replace D:=zy D;replace hk:=zy hk;go_in;go_wp2;have F:=((B_ w (zq c 0 noB (L_) (L_)).toArray 32).alloc (.cells #[U_ c,.slice q sn u] 57)).alloc (.cells (zq c 0 noB (L_) (L_)).toArray 32);obtain⟨x,y,z,q3,A⟩:=F.f5;simp only[zq,noB,aa_,ab_]at x y z q3 A;(first|(have:=cc1;refine bodyPost_ret (v:=.agg (zq c 0 noB (L_) (L_)).toArray) (by simp[results,results26,go_sem,x,y,z,q3,A,zq,noB]) rfl ?_)|(refine bodyPost_ret (v:=.agg (zq c 0 noB (L_) (L_)).toArray) (by simp[results,results70,go_sem,x,y,z,q3,A,zq,noB]) rfl ?_));rw[G.o];(first|(have:=cc1;have C:=(((M.o.alloc (.cells (zq c 0 noB (L_) (L_)).toArray 32)).alloc (.cells #[U_ c,.slice q sn u] 57)).alloc (.cells (zq c 0 noB (L_) (L_)).toArray 32));exact⟨c,0,noB,none,0,0,none,0,0,rfl,C.fr,C.L⟩)|(exact jq (((M.o.alloc _).alloc _).alloc _) ⟨_,_,_,rfl⟩ ⟨_,_,_,rfl⟩ (A_ _ _) rfl))):p:=h
def ZY{s:BA}{env:Ay}{pl:Ap}{ts:Aq}(t:PT):Pl s env pl ts t:=by
 exact cq8_
def zh{w:Aw}{base size n:Nat}{e:As}{v:Ax}{xs:Az}(h:w.ownsRow base e size v n xs):∃a c,v=.slice a n c:=by
 rcases h.2 with⟨h1,h0⟩|⟨g,b,_,h1,_⟩
 .subst h0;exact⟨_,_,h1⟩
 .exact⟨_,_,h1⟩
section
variable {w W W':Aw} {P:Au} {bl:Nat} {s:BA} {bz:Nat} {pl:Ap} {j:Nat} {bad:Ap} {ts:Aq} {env:Ay} {b0 b1 B c:Nat} {vk vs:Ax} {ks:Aa} {n:Nat} {xs:Az}
def kF.lm{d:Nat}(hd:0<d)(Q:LM w P bl s bz pl j bad ts env b0 b1 B c vk vs ks n xs W)(h:kF W bl s bz pl j bad d W'):∃j' bad',LM w P bl s bz pl j' bad' ts env b0 b1 B c vk vs ks n xs W'/\Fr W W' (· = bl)/\H_ ((bad=false/\bt s j=d/\j'=j+1/\bad'=false)\/((bad=true\/bt s j≠d)/\j'=j/\bad'=true)):=by
 obtain⟨j',bad',a,b,g⟩:=kF.any hd Q.M h;exact⟨j',bad',Q.call a.L b a.jl,b,g⟩
def kZ.lm(Q:LM w P bl s bz pl j bad ts env b0 b1 B c vk vs ks n xs W)(h:kZ W bl s bz pl j bad e W'):∃tx j',e=.returned (.string tx)/\LM w P bl s bz pl j' bad ts env b0 b1 B c vk vs ks n xs W'/\Fr W W' (· = bl)/\tx.size<=4000/\H_ (tx=s.extract j j'/\j<=j'/\(bad=false->j'=zX s j)):=by
 obtain⟨tx,j',he,a,b,hx,g⟩:=kZ.any Q.M h;exact⟨tx,j',he,Q.call a.L b a.jl,b,hx,g⟩
def zD.lm{r:Cf}(Q:LM w P bl s bz pl j bad ts env b0 b1 B c vk vs ks n xs W)(h:zD W bl s bz pl r e W'):∃(k:Nat) (m:Int) (tx:BA) (a:Option Addr) (l c1:Nat) (b:Option Addr) (o c2:Nat) (j':Nat) (bad':Bool),e=.returned (.agg #[U_ k,Z_ m,.string tx,.slice a l c1,.slice b o c2])/\LM w P bl s bz pl j' bad' ts env b0 b1 B c vk vs ks n xs W'/\Fr W W' (· = bl)/\
  H_ ((∃d,r=some (d,j')/\bad'=false/\zF W' (λg=>B<=g/\vk.ownBlock≠some g/\vs.ownBlock≠some g) d (zq k m tx (.slice a l c1) (.slice b o c2)))\/(r=none/\bad'=true)):=by
 obtain⟨k,m,tx,z,z,he,⟨a,l,c1,rfl⟩,⟨b,o,c2,rfl⟩,u,x⟩:=h;have z:=Q.bB;cases r with
 |none=>
  obtain⟨j',h1,v⟩:=x;exact⟨k,m,tx,a,l,c1,b,o,c2,j',true,he,Q.call v u h1,u,.inr ⟨rfl,rfl⟩⟩
 |some q=>
  obtain⟨d,j'⟩:=q;obtain⟨h1,v,y⟩:=x;refine⟨k,m,tx,a,l,c1,b,o,c2,j',false,he,Q.call v u h1,u,.inl ⟨d,rfl,rfl,y.mono (λg _ hg=>⟨M_,λe=>?_,λe=>?_⟩)⟩⟩
  .have:=Q.kr.lt g e;omega
  .have:=Q.vr.lt g e;omega
end
def QH(R_:Cr)(R:Al)(s:BA)(fin:Nat)(keyed:Ap)(acc:Ae)(i j j':Nat)(bad':Ap):Prop:=
 (bad'=false/\j<=j'/\i+acc.length<=j'/\∃nn,s.size<nn+j'/\R_=pV acc (yZ R s fin keyed nn (vi acc) j'))\/(bad'=true/\R_=none)
def QL(R_:Cr)(R:Al)(s:BA)(fin:Nat)(keyed:Ap)(acc:Ae)(i j:Nat)(tx:BA)(j':Nat)(bad':Ap):Prop:=
 (bad'=false/\j<=j'/\i+acc.length<=j'/\∃nn,s.size<nn+1+j'/\R_=if bt s j'=58 then tJ R s fin keyed nn acc tx (j'+1) else none)\/(bad'=true/\R_=none)
def Pb(R_:Cr)(R:Al)(s:BA)(fin:Nat)(keyed:Ap)(acc:Ae)(ks:Aa)(i j j':Nat)(bad':Ap):Prop:=
 (bad'=false/\j<=j'/\i+acc.length<=j'/\∃nn key,(∀d,ks=jz keyed (acc++[(key,d)]))/\s.size<nn+1+j'/\R_=tJ R s fin keyed nn acc key j')\/(bad'=true/\R_=none)
def oF{a:Cr}{R:Al}{s:BA}{j:Nat}(g:j=i)(hc:bt s j≠fin)(b:a=if bt s i=fin then some ([],i+1) else pV [] (yZ R s fin keyed (s.size+2) none i)):QH a R s fin keyed [] i j j false:=by
 subst g;rw[n_ hc]at b;exact .inl ⟨rfl,l_,by simp,s.size+2,M_,b⟩
def Xc{b:Cr}{R:Al}{s:BA}{acc:Ae}{j nn:Nat}(hc:bt s j≠fin)(g:i+acc.length<=j)(g:s.size<nn+j)(a:b=tR R s fin keyed nn acc j)(g:(bt s j=44/\j'=j+1/\bad'=false)\/(bt s j≠44/\j'=j/\bad'=true)):QH b R s fin keyed acc i j j' bad':=by
 unfold tR at a;rw[n_ hc]at a;rcases g with⟨h,rfl,rfl⟩|⟨h,rfl,rfl⟩
 .rw[i_ h]at a;exact .inl ⟨rfl,M_,M_,nn,M_,a⟩
 .rw[n_ h]at a;exact .inr ⟨rfl,a⟩
def oG{a:Cr}{R:Al}{s:BA}{acc:Ae}{j:Nat}(o:j'<=s.size)(h:QH a R s fin false acc i j j' bad')(ks:Aa)(l:bad'=false->ks=jz false acc):Pb a R s fin false acc ks i j j' bad':=by
 rcases h with⟨rfl,h1,g,nn,a,b⟩|h
 .obtain⟨m,rfl⟩:∃m,nn=m+1:=⟨nn-1,M_⟩;rw[mH]at b;refine .inl ⟨rfl,h1,g,m,noB,λd=>by rw[l rfl];rfl,M_,b⟩
 .exact .inr h
def sd{g:Cr}{R:Al}{s:BA}{acc:Ae}{j a:Nat}{tx:BA}(q:j'<=s.size)(h:QH g R s fin true acc i j j' bad')(l:tx=s.extract j' a/\j'<=a/\(bad'=false->a=zX s j')):(kH (vi acc) tx=true->QL g R s fin true acc i j tx a bad')/\(kH (vi acc) tx=false->QL g R s fin true acc i j tx a true):=by
 rcases h with⟨rfl,h1,g,nn,g,b⟩|h
 .obtain⟨m,rfl⟩:∃m,nn=m+1:=⟨nn-1,M_⟩;rw[mH]at b;have o:=l.2.2 rfl;unfold kR at b;rw[i_ rfl,<- o,<- l.1]at b;refine⟨λhr=>.inl ⟨rfl,M_,M_,m,M_,?_⟩,λhr=>.inr ⟨rfl,?_⟩⟩
  .rw[b,hr];by_cases hb:bt s a=58
   .rw[i_ ⟨hb,rfl⟩,i_ hb]
   .rw[n_ (λx=>hb x.1),n_ hb]
  .rw[b,hr,n_ (λx=>by simp at x)]
 .exact⟨λ_=>.inr h,λ_=>.inr ⟨rfl,h.2⟩⟩
def eK{g:Cr}{R:Al}{s:BA}{acc:Ae}{j b:Nat}{bad:Ap}{tx:BA}{ks:Aa}(m:ks=jz true acc)(h:QL g R s fin true acc i j tx j' bad)(l:(bad=false/\bt s j'=58/\b=j'+1/\bad'=false)\/((bad=true\/bt s j'≠58)/\b=j'/\bad'=true)):Pb g R s fin true acc (ks++[tx]) i j b bad':=by
 rcases h with⟨rfl,h1,g,nn,g,a⟩|⟨rfl,h⟩
 .rcases l with⟨_,hb,rfl,rfl⟩|⟨hb,rfl,rfl⟩
  .rw[i_ hb]at a;exact .inl ⟨rfl,M_,M_,nn,tx,λd=>by rw[m];simp[jz],M_,a⟩
  .have g:bt s b≠58:=by simpa using hb
   rw[n_ g]at a;exact .inr ⟨rfl,a⟩
 .rcases l with⟨hb,_⟩|⟨_,rfl,rfl⟩
  .cases hb
  .exact .inr ⟨rfl,h⟩
def wo{acc:Ae}{ks:Aa}(a:ks=jz true acc):(ks=[]->vi acc=none)/\(∀q b,ks=q++[b]->vi acc=some b):=by
 unfold jz at a;rw[i_ rfl]at a;subst a;refine⟨λh=>?_,λq b h=>?_⟩
 .rw[List.map_eq_nil_iff]at h;subst h;rfl
 .unfold vi;rw[<- List.getLast?_map,h];simp
def cwWq1_{p:Prop}(h:p:=by
 clear t32 Q2 D2;obtain⟨tx,j2,bad2,rfl,Q2,D2,hx,o2⟩:=hcut;have hj2:=Q2.M.jl;have hBl:=Q2.bB;revert Q2 D2 o2;refine h_ λQ2 D2 o2=>?_;go_wp2_with (first
  |(go_at_call 103;apply(xX 58 Q2.o.M.L hsl hj2 rfl D_).mono;rintro e w3 ⟨rfl,hE⟩;obtain⟨j3,bad3,Q3,F3,hJ⟩:=kF.lm D_ Q2.o hE;have D3:=Q2.o.dts D2.o F3;have hBl3:=Q3.bB;have t33:=Q3.r1.cell 3;simp only[zq,aa_,ab_]at t33;replace Q3:=zy Q3;replace D3:=zy D3;clear hE)
  |(at_builtin;go_must ((first|(have:=cc1;refine wpList_append_own_at _ rfl _ _ 29 rfl (w.heap.size+2) 9 si _ 1 16 nV hs1 hs2 hs3 hs4 rfl D_ (S_ gk ks.length kc) ks.length (ks.map Value.string) rfl ?hown _ 1 1 [.string tx] rfl rfl (zL _ #[.string tx] _ _ ?nn) ?one ?b1 ?b2 ?b3 ?_)|(refine wpList_append_own_at _ rfl _ _ 29 rfl (w.heap.size+2) 9 si _ 1 16 nV hs1 hs2 hs3 hs4 rfl D_ (.slice ka ks.length kc) ks.length (ks.map Value.string) rfl ?hown _ 1 1 [.string tx] rfl rfl (zL _ #[.string tx] _ _ ?nn) ?one ?b1 ?b2 ?b3 ?_)))
    case hown=>exact World.ownsRow.alloc Q3.o.kr _
    case nn=>simp
    case one=>simp[Value.oneCell']
    case b1=>unfold maxLen;omega
    case b2=>omega
    case b3=>simp;omega
    intro v5 w5 ho5 hg5 hn5 hl5
    have I5:=Q3.o.key hg5 ho5 hl5
    obtain⟨e5,f5⟩:=Q3.o.keyCell hg5
    obtain⟨g5,cap5,rfl⟩:=zu ho5 M_
    clear hg5 hl5 hn5 ho5
    replace I5:=zy I5))
 go_meet;case rel=>
  obtain⟨Q5,hD5⟩:=I5.o;have el:(ks++[tx]).length=ks.length+1:=x8_
  refine⟨j3,bad3,some ⟨g5,0,none⟩,cap5,ks++[tx],?_,?_,M_,eK hks.o o2.o hJ.o⟩
  .rw[el];exact Q5
  .rw[el];exact hD5 _ D3.o):p:=h
def cwWq2_{p:Prop}(h:p:=by
 (first|(have:=cc1;clear start)|(obtain⟨j,Q,hres⟩:=hB));(first|(have:=cc1;have Q:=hrel)|(obtain⟨ka,kc,rfl⟩:=zh Q.kr;obtain⟨sa,sc,rfl⟩:=zh Q.vr));have c2:=Q.M.L.c2;obtain⟨r0,r1,r2,r3,r4⟩:=Q.r0.f5;obtain⟨g0,g1,g2,g3,g4⟩:=Q.r0.t5;obtain⟨t0,t1,t2,t3,t4⟩:=Q.r1.f5;simp only[zf,zq,aa_,ab_,af_]at r0 r1 r2 r3 r4 t0 t1 t2 t3 t4;have a:=zy Q.r0;replace Q:=zy Q;(first|(have:=cc1;clear hrel)|(replace hres:=zy hres));go_wp2;refine zi results107 a.o (λW5 hF _=>?_);rw[Q_.o];(first|(have:=cc1;exact jq Q.o.M ⟨_,_,_,rfl⟩ ⟨_,_,_,rfl⟩ hF rfl)|(exact jq Q.o.M ⟨_,_,_,rfl⟩ ⟨_,_,_,rfl⟩ hF (by rw[hres.o];rfl)))):p:=h
def Wq{w:Aw}{P:Au}{bl:Nat}{s:BA}{bz:Nat}{pl:Ap}{ts:Aq}{env:Ay}{k:Nat}(M:DM w P bl s bz pl i false ts env w)(hk:isT ts k t)(b9:fin=93\/fin=125)(hR:∀j,i<=j->j<=s.size->jv s env pl ts f t j):Calls prog 107 #[P_ bl,I_ k,U_ fin,.bool keyed] w (zD w bl s bz pl (Yg keyed (qc (rdT s env pl f t) s fin keyed i))):=by
 have hsl:=M.sl;have e3:=M.jl;have a7:0<fin:=M_;have e0:fin≠44:=M_;obtain⟨E,a1⟩:=e_ (qc (rdT s env pl f t) s fin keyed i);rw[<- a1];refine hq_ λd9 Q_=>?_;obtain⟨R,N⟩:=e_ (rdT s env pl f t);rw[<- N]at a1;have start:BY E R fin keyed i w P bl s bz pl ts env (s.size+3) ((w.alloc (.cells zf.toArray 32)).alloc (.cells zf.toArray 32)):=
  ⟨_,_,_,_,_,.inl ⟨[],i,eE M,Dts.nil _ _ _ _,by simp[jz],M_,.inl ⟨rfl,rfl,by rw[a1,qc,ZL]⟩⟩⟩
 replace start:=zy start;replace hk:=zy hk;replace N:=zy N;replace hR:=zy hR;go_in;go_wp2;go_loopg [] (s.size+3) (λm W=>BY E R fin keyed i w P bl s bz pl ts env m W);case atStart=>exact start
 case round=>
  obtain⟨vk,vs,ks,n,xs,hG|hB⟩:=hrel
  .obtain⟨acc,j,Q,D,hks,hm,U⟩:=hG;obtain⟨ka,kc,rfl⟩:=zh Q.kr;obtain⟨sa,sc,rfl⟩:=zh Q.vr;have A:=Q.M.jl;have c2:=Q.M.L.c2;have t4:=Q.r1.cell 4;have t3:=Q.r1.cell 3;simp only[zq,aa_,ab_]at t3 t4;obtain⟨c,hc⟩:=x_ (bt s j);have H:=zy (show lk s j false=c by simp[lk,hc]);have C:H_ (n=acc.length):=zy (by have:=D.1;simpa using this);replace Q:=zy Q;replace D:=zy D;replace hks:=zy hks;by_cases a2:c=fin
   .subst a2
    have G:j<s.size:=zr M_;rcases U with⟨F,z,hres⟩|⟨T,a4,nn,a9,hres⟩
    .subst F;have S:n=0:=C.o;subst S;replace hres:=zy hres;replace z:=zy z;replace hc:=zy hc;go_wp2_with (first
      |(go_at_call 104;apply(xv Q.o.M.L hsl A).mono;rintro e w1 ⟨rfl,y⟩;rw[H.o];have l:=zy (Q.o.si y);have u:=zy (D.o.si y);have J:=l.o.r1.cell 4;have a5:=l.o.M.L.c2;simp only[zq,aa_,ab_]at J)
      |(go_at_call 103;apply(xX c l.o.M.L hsl A rfl a7).mono;rintro e X ⟨rfl,hE⟩;obtain⟨j2,bad2,Q2,K,hJ⟩:=kF.lm a7 l hE;have D2:=l.o.dts u K;obtain⟨r0,r1,r2,r3,r4⟩:=Q2.r0.f5;obtain⟨g0,g1,g2,g3,g4⟩:=Q2.r0.t5;obtain⟨t0,t1,t2,t3,t4⟩:=Q2.r1.f5;simp only[zf,zq,aa_,ab_,af_]at r0 r1 r2 r3 r4 t0 t1 t2 t3 t4;have x:=zy Q2.r0;replace Q2:=zy Q2;replace D2:=zy D2))
     refine zi results107 x.o (λW5 hF _=>?_);rw[Q_.o];rcases hJ.o with⟨_,_,rfl,rfl⟩|⟨h1,_,_⟩
     .refine vb Q2.o.M ((Q2.o.dval D2 0).mono (λg _ hg=>M_)) hF ?_;rw[hres.o,<- z.o,i_ hc.o,hks.o];rfl
     .exact absurd hc.o (by simpa using h1)
    .have b5:0<acc.length:=List.length_pos_iff.2 T;have S:(0:Int)<(n:Int):=by have:=C.o;omega
     replace hres:=zy hres;replace hc:=zy hc;go_wp2_with (first
      |(go_at_call 104;apply(xv Q.o.M.L hsl A).mono;rintro e w1 ⟨rfl,y⟩;rw[H.o];have l:=zy (Q.o.si y);have u:=zy (D.o.si y);have J:=l.o.r1.cell 4;simp only[zq,aa_,ab_]at J)
      |(go_at_call 104;apply(xv l.o.M.L hsl A).mono;rintro e X ⟨rfl,V⟩;rw[H.o];have Q2:=l.o.si V;have D2:=u.o.si V;have I:=Q2.M.L.c1;have I:=Q2.M.L.th 1;have Q3:=Q2.inc G;have D3:=Q2.dts D2 (V_ X ⟨bl,1,none⟩ (Z_ ((j:Int)+1)));obtain⟨r0,r1,r2,r3,r4⟩:=Q3.r0.f5;obtain⟨g0,g1,g2,g3,g4⟩:=Q3.r0.t5;obtain⟨t0,t1,t2,t3,t4⟩:=Q3.r1.f5;simp only[zf,zq,aa_,ab_,af_]at r0 r1 r2 r3 r4 t0 t1 t2 t3 t4;have x:=zy Q3.r0;revert Q2 D2 Q3 D3;refine g_ λQ2 D2 Q3 D3=>?_))
     refine zi results107 x.o (λW5 hF _=>?_);rw[Q_.o];refine vb Q3.o.M ((Q3.o.dval D3 0).mono (λg _ hg=>M_)) hF ?_;rw[hres.o,tR,i_ hc.o,hks.o];rfl
   .have e1:((c:Int) != (fin:Int))=true:=x4_
    have e2:((c:Int)==(fin:Int))=false:=x4_
    have a6:=zy (show bt s j≠fin by rw[hc];exact a2);have d8:n<=4000:=by
     have h0:=C.o;rcases U with⟨rfl,_,_⟩|⟨_,a4,_⟩
     .simp at h0;omega
     .omega
    replace U:=zy U;go_upto_if 33 with(go_at_call 104;apply(xv Q.o.M.L hsl A).mono;rintro e w1 ⟨rfl,y⟩;rw[H.o];have l:=Q.o.si y;have u:=D.o.si y;have J:=l.r1.cell 4;simp only[zq,aa_,ab_]at J;replace l:=zy l;replace u:=zy u);go_cut [] (λW=>∃j' bad',LM w P bl s bz pl j' bad' ts env w.heap.size (w.heap.size+1) (w.heap.size+2) 0 (.slice ka ks.length kc) (.slice sa n sc) ks n xs W/\Dts W (w.heap.size+2) (.slice ka ks.length kc) (.slice sa n sc) (acc.map Prod.snd) n xs/\QH E R s fin keyed acc i j j' bad');case first=>
     rcases U.o with⟨F,z,hres⟩|⟨T,a4,nn,a9,hres⟩
     .have S:n=0:=by rw[C.o,F];rfl
      subst S;replace hres:=zy hres;replace z:=zy z;replace F:=zy F;go_wp2;go_meet;case rel=>
       refine⟨j,false,l,u,?_⟩;have:=F.o;subst this;exact oF z a6 hres
     .have b5:0<acc.length:=List.length_pos_iff.2 T;have S:(0:Int)<(n:Int):=by have:=C.o;omega
      replace hres:=zy hres;replace T:=zy T;go_wp2_with (first
       |(go_at_call 104;apply(xv l.o.M.L hsl A).mono;rintro e X ⟨rfl,V⟩;rw[H.o];have Q2:=zy (l.o.si V);have D2:=zy (u.o.si V))
       |(go_at_call 103;apply(xX 44 Q2.o.M.L hsl A rfl D_).mono;rintro e w3 ⟨rfl,hE⟩;obtain⟨j3,bad3,Q3,F3,hJ⟩:=kF.lm D_ Q2 hE;have D3:=zy (Q2.o.dts D2 F3);replace Q3:=zy Q3))
      go_meet;case rel=>
       refine⟨j3,bad3,Q3,D3,Xc a6 a4 a9 hres ?_⟩;rcases hJ.o with⟨_,a,b,c⟩|⟨a,b,c⟩
       .exact .inl ⟨a,b,c⟩
       .exact .inr ⟨by simpa using a,b,c⟩
    case rest=>
     obtain⟨F,a3,l,u,I⟩:=hcut;have G:=l.M.jl;replace l:=zy l;replace u:=zy u;replace I:=zy I;replace hc:=zy hc;replace a2:=zy a2;go_upto_if 48 with fail;go_cut [] (λW=>∃j' bad' z A y,LM w P bl s bz pl j' bad' ts env w.heap.size (w.heap.size+1) (w.heap.size+2) 0 (.slice z y.length A) (.slice sa n sc) y n xs W/\Dts W (w.heap.size+2) (.slice z y.length A) (.slice sa n sc) (acc.map Prod.snd) n xs/\y.length<=5000/\Pb E R s fin keyed acc y i j j' bad');case first=>
      have y:ks.length<=4000:=by
       rw[hks.o];unfold jz;split
       .rw[bm_,<- C.o];exact d8
       .simp
      cases keyed with
      |false=>
       go_wp2;go_meet;case rel=>exact⟨F,a3,ka,kc,ks,l,u,M_,oG G I ks (λ_=>hks)⟩
      |true=>
       obtain⟨si,hs1,hs2,hs3,hs4⟩:=info_parts Gt;rcases List.eq_nil_or_concat ks with x|⟨q,Z,x⟩
       .have hlast:=zy ((wo hks).1 x);have d7:=zy (show ks.length=0 by rw[x];rfl);replace x:=zy x;go_upto_if 66 with(go_at_call 106;apply(kn l.o.M.L hsl G).mono;intro e X O;obtain⟨tx,j2,rfl,Q2,K,hx,Y⟩:=O.lm l;have D2:=l.o.dts u K;have t32:=Q2.r1.cell 3;simp only[zq,aa_,ab_]at t32;rw[d7.o]at t32;replace Q2:=zy Q2;replace D2:=zy D2);go_cut [10] (λv W=>∃tx j' bad',v=.string tx/\LM w P bl s bz pl j' bad' ts env w.heap.size (w.heap.size+1) (w.heap.size+2) 0 (.slice ka ks.length kc) (.slice sa n sc) ks n xs W/\Dts W (w.heap.size+2) (.slice ka ks.length kc) (.slice sa n sc) (acc.map Prod.snd) n xs/\tx.size<=4000/\QL E R s fin true acc i j tx j' bad');case first=>
         go_wp2;go_meet;case rel=>exact⟨tx,j2,a3,rfl,Q2,D2,hx,(sd G I Y).1 (by rw[hlast.o];rfl)⟩
        case rest=>
         exact cwWq1_
       .have hlast:=zy ((wo hks).2 q Z (by simpa using x));have hm:ks.length=q.length+1:=by rw[x];simp
        have y:q.length<=4000:=M_;have b7:=zy (show(ks.map Value.string)[q.length]?=some (.string Z) by rw[x];simp);obtain⟨gk,y,a8⟩:=zu l.o.kr M_;simp only[Value.slice.injEq,true_and]at a8;obtain⟨rfl,rfl⟩:=a8;replace x:=zy x;replace hm:=zy hm;go_upto_if 66 with(go_at_call 106;apply(kn l.o.M.L hsl G).mono;intro e X O;obtain⟨tx,j2,rfl,Q2,K,hx,Y⟩:=O.lm l;have D2:=l.o.dts u K;have t32:=Q2.r1.cell 3;simp only[zq,aa_,ab_]at t32;rw[hm.o]at t32;have x:=ze Q2.kr rfl b7;replace Q2:=zy Q2;replace D2:=zy D2);go_cut [10] (λv W=>∃tx j' bad',v=.string tx/\LM w P bl s bz pl j' bad' ts env w.heap.size (w.heap.size+1) (w.heap.size+2) 0 (S_ gk ks.length kc) (.slice sa n sc) ks n xs W/\Dts W (w.heap.size+2) (S_ gk ks.length kc) (.slice sa n sc) (acc.map Prod.snd) n xs/\tx.size<=4000/\QL E R s fin true acc i j tx j' bad');case first=>
         have x:=Q2.o.M.L.c2;have x:=Q2.o.M.L.th 2;cases hb:Op.bytesLess Z.toList tx.toList
         .go_wp2;go_meet;case rel=>exact⟨tx,j2,true,rfl,Q2.o.sp,Q2.o.dts D2 (V_ _ _ _),hx,(sd G I Y).2 zp_⟩
         .go_wp2;go_meet;case rel=>exact⟨tx,j2,a3,rfl,Q2,D2,hx,(sd G I Y).1 zp_⟩
        case rest=>
         have cc1:=Nat;exact cwWq1_
     case rest=>
      obtain⟨j2,bad2,l,l,b4,Q2,D2,l,o2⟩:=hcut;have hj2:=Q2.M.jl;obtain⟨ti,d0,d1,d2,d6⟩:=info_parts wC;obtain⟨r2,x⟩:=e_ (if bad2=true then none else R j2);have l:=zy (show Calls prog 70 #[P_ bl,I_ k] wc (zD wc bl s bz pl r2) by
       cases bad2 with
       |true=>rw[x,i_ rfl];exact ZY t wc P bl bz k j2 Q2.M.here hk
       |false=>
        rw[x,n_ D_,N.o]
        refine hR.o j2 ?_ hj2 wc P bl bz k Q2.M.here hk
        rcases o2 with⟨_,_,h,_⟩|⟨h,_⟩
        .omega
        .cases h)
      replace Q2:=zy Q2;replace D2:=zy D2;replace o2:=zy o2;replace x:=zy x;go_wp2_with (first
       |(go_at_call 70;apply l.o.mono;intro e w3 hP;obtain⟨Z,dm,a0,O,m1,c1,Y,m2,c2,j3,bad3,rfl,Q3,F3,hJ⟩:=zD.lm Q2 hP;have D3:=Q2.o.dts D2 F3;have l:=Q3.alloc (.cells (zq Z dm a0 (.slice O m1 c1) (.slice Y m2 c2)).toArray 32);have D4:=D3.alloc (.cells (zq Z dm a0 (.slice O m1 c1) (.slice Y m2 c2)).toArray 32);have t4:=l.r1.cell 4;simp only[zq,aa_,ab_]at t4;have hBl3:=Q3.bB;revert Q3 D3 l D4;refine g_ λQ3 D3 l D4=>?_)
       |(at_builtin;go_must (refine wpList_append_own_at _ rfl _ _ 30 rfl (w.heap.size+2) 32 ti _ 5 80 wi d0 d1 d2 d6 rfl D_ (.slice sa n sc) n xs rfl ?hown _ 1 1 (zq Z dm a0 (.slice O m1 c1) (.slice Y m2 c2)) rfl rfl (zL _ (zq Z dm a0 (.slice O m1 c1) (.slice Y m2 c2)).toArray _ _ ?nn) ?one ?b1 ?b2 ?b3 ?_)
         case hown=>exact World.ownsRow.alloc l.o.vr _
         case nn=>simp
         case one=>simp[zq,Value.oneCell']
         case b1=>unfold maxLen;omega
         case b2=>omega
         case b3=>simp;omega
         intro v5 w5 ho5 hg5 hn5 hl5
         have I5:=l.o.item hg5 ho5 hl5
         obtain⟨e5,f5⟩:=l.o.ie hg5
         obtain⟨g5,cap5,rfl⟩:=zu ho5 M_
         replace I5:=zy I5))
      obtain⟨Q5,hD5⟩:=I5.o;rcases hJ.o with⟨d,hr,rfl,b8⟩|⟨hr,rfl⟩
      .have b6:bad2=false:=by
        cases hb:bad2 with
        |false=>rfl
        |true=>rw[x.o,hb]at hr;cases hr
       subst b6;have l:R j2=some (d,j3):=by rw[<- hr,x.o];rfl
       have u:=qv s env pl f t j2 d j3 (by rw[<- N.o];exact l);rcases o2.o with⟨_,h1,u,nn,key,z,u,u⟩|⟨hb,_⟩
       .have y:=hD5 _ d D4 (b8.fr ((A_ w3 N_).alloc _) u_);go_roundg (s.size+2-j3);case measure=>omega
        case rel=>
         refine⟨_,_,b4,n+1,_,.inl ⟨acc++[(key,d)],j3,Q5,by rw[bh_];exact y,z d,l_,.inr ⟨by simp,by rw[ah_,ap_];omega,nn,M_,?_⟩⟩⟩;rw[u,tJ,l]
       .cases hb
      .go_roundg 0;case measure=>omega
       case rel=>
        refine⟨_,_,b4,n+1,_,.inr ⟨j3,Q5,?_⟩⟩;rcases o2.o with⟨hb,_,_,nn,key,_,_,u⟩|⟨_,h⟩
        .have l:R j2=none:=by rw[<- hr,x.o,hb];rfl
         rw[u,tJ,l]
        .exact h
  .exact cwWq2_
def JE{w:Aw}{P:Au}{bl:Nat}{s:BA}{bz:Nat}{pl:Ap}{ts:Aq}{env:Ay}{k:Nat}(M:DM w P bl s bz pl i true ts env w):Calls prog 107 #[P_ bl,I_ k,U_ fin,.bool keyed] w (zD w bl s bz pl none):=by
 refine hq_ λa Q_=>?_;have start:=zy (eE M);go_in;go_wp2;go_loopg [] 0 (λ_ W=>LM w P bl s bz pl i true ts env w.heap.size (w.heap.size+1) (w.heap.size+2) 0 (L_) (L_) [] 0 [] W);case atStart=>exact start
 case round=>
  have cc1:=Nat;exact cwWq2_
def eA{w:Aw}{P:Au}{bl:Nat}{s:BA}{bz:Nat}{pl:Ap}{bad:Ap}{ts:Aq}{env:Ay}{k:Nat}{e:Int}(fin:Nat)(M:DM w P bl s bz pl i bad ts env w)(hk:isT ts k t)(he:e=(fin:Int))(b:fin=93\/fin=125)(a:bad=false->∀j,i<=j->j<=s.size->jv s env pl ts f t j):Calls prog 107 #[P_ bl,I_ k,.int .u8 e,.bool keyed] w (zD w bl s bz pl (if bad=true then none else Yg keyed (qc (rdT s env pl f t) s fin keyed i))):=by
 subst he;cases bad with
 |true=>rw[i_ rfl];exact JE M
 |false=>rw[n_ D_];exact Wq M hk b (a rfl)
def zD.any{w W W':Aw}{P:Au}{bl:Nat}{s:BA}{bz:Nat}{pl:Ap}{j:Nat}{bad:Ap}{ts:Aq}{env:Ay}{r:Cf}(M:DM w P bl s bz pl j bad ts env W)(h:zD W bl s bz pl r e W'):∃(k:Nat) (m:Int) (tx:BA) (a:Option Addr) (l c1:Nat) (b:Option Addr) (o c2:Nat) (j':Nat) (bad':Bool),e=.returned (.agg #[U_ k,Z_ m,.string tx,.slice a l c1,.slice b o c2])/\DM w P bl s bz pl j' bad' ts env W'/\Fr W W' (· = bl)/\
  H_ ((∃d,r=some (d,j')/\bad'=false/\zF W' (λg=>W.heap.size<=g) d (zq k m tx (.slice a l c1) (.slice b o c2)))\/(r=none/\bad'=true)):=by
 obtain⟨k,m,tx,z,z,he,⟨a,l,c1,rfl⟩,⟨b,o,c2,rfl⟩,u,x⟩:=h;cases r with
 |none=>
  obtain⟨j',h1,v⟩:=x;exact⟨k,m,tx,a,l,c1,b,o,c2,j',true,he,M.call v u h1,u,.inr ⟨rfl,rfl⟩⟩
 |some q=>
  obtain⟨d,j'⟩:=q;obtain⟨h1,v,y⟩:=x;exact⟨k,m,tx,a,l,c1,b,o,c2,j',false,he,M.call v u h1,u,.inl ⟨d,rfl,rfl,y⟩⟩
def DT.withKind(c:Nat):DT->DT
 | .mk _ n tx ks ds=>.mk c n tx ks ds
def zF.recast{w:Aw}{P:Au}{d:DT}{k:Nat}{m:Int}{tx:BA}{vk vs:Ax}(h:zF w P d (zq k m tx vk vs))(c:Nat):zF w P (d.withKind c) (zq c m tx vk vs):=by
 generalize a:zq k m tx vk vs=v at h;cases h with
 |mk X hk hkP hs hsP hd=>
  simp only[zq,List.cons.injEq,and_true,Value.int.injEq,Value.string.injEq,true_and]at a;obtain⟨_,rfl,rfl,rfl,rfl⟩:=a;exact .mk X hk hkP hs hsP hd
def kx{R:Al}{s:BA}{c:Nat}(h:bt s i=c):xO R s c i=(Yg (c==123) (qc R s (xl c) (c==123) (i+1))).map (λq=>(q.1.withKind c,q.2)):=by
 unfold xO;rw[i_ h];cases qc R s (xl c) (c==123) (i+1) with
 |none=>rfl
 |some q=>rfl
def cq0_{p:Prop}(h:p:=by
 intro w P bl bz k M hk;obtain⟨kj,hk,Q⟩:=hk;obtain⟨g,m,b8,sv,z0,d0,z1,z2,ho,a1⟩:=M.Z.type hk;simp only[af_]at z1;refine hq_ λb5 Q_=>?_;have d6:=M.lt;have d7:=zo z0;have d8:=zo z1;have c3:=M.L.c3;have c2:=M.L.c2;have a5:=M.jl;have a6:=M.sl;obtain⟨h0,b,rfl⟩:=zu ho (by simp);have a2:=ze ho rfl (k:=0) (x:=I_ kj) rfl;have d9:=zo a2;have a3:P h0:=a1 h0 rfl;have b9:=M.Plt h0 a3;have a9:h0≠bl:=λe=>M.nP (e▸a3);(first|(have:=cc1;have N:=zy (ix M 123 (S_ h0 1 b)))|(have N:=zy (ix M 91 (S_ h0 1 b))));(first|(have:=cc1;have B0:=zy (cg w 123 (S_ h0 1 b)))|(have B0:=zy (cg w 91 (S_ h0 1 b))));(first|(have:=cc1;have B1:=zy (dQ w 123 (S_ h0 1 b)))|(have B1:=zy (dQ w 91 (S_ h0 1 b))));(first|(have:=cc1;have B2:=zy (dJ w 123 (S_ h0 1 b)))|(have B2:=zy (dJ w 91 (S_ h0 1 b))));(first|(have:=cc1;have a7:=zy (show(dw w 123 (S_ h0 1 b)).cell? ⟨h0,0,none⟩=some (I_ kj) from zJ a2 _ _ _))|(have a7:=zy (show(dw w 91 (S_ h0 1 b)).cell? ⟨h0,0,none⟩=some (I_ kj) from zJ a2 _ _ _)));(first|(have:=cc1;have a0:=zy (show(dw w 123 (S_ h0 1 b)).heap.size=w.heap.size+3 by simp[dw]))|(have a0:=zy (show(dw w 91 (S_ h0 1 b)).heap.size=w.heap.size+3 by simp[dw])));have d2:=λX Y Z=>zJ c2 X Y Z;have d1:(k:Int)<(m:Int):=M_;replace M:=zy M;replace ho:=zy ho;replace a1:=zy a1;replace hk:=zy hk;replace Q:=zy Q;replace hR:=zy hR;go_in;go_wp2_with (first
  |(go_at_call 103;(first|(have:=cc1;apply(xX 123 N.o.L a6 a5 rfl D_).mono)|(apply(xX 91 N.o.L a6 a5 rfl D_).mono));rintro e w1 ⟨rfl,hE⟩;obtain⟨j1,b6,G,l,O⟩:=kF.any D_ N.o hE;have R:=l.bl B0.o M_;have S:=l.bl B1.o M_;have T:=l.bl B2.o M_;have u1:=S.cell 1;have x1:=(World.cell?_of_block (a:=⟨h0,0,none⟩) (l.block h0 (by rw[a0.o];omega) a9)).trans a7.o;simp only[aa_,ab_]at u1;have b4:=l.size;rw[a0.o]at b4;revert G l R S T;refine k_ λG l R S T=>?_;clear hE)
  |(go_at_call 107;(first|(have:=cc1;apply(eA (f:=f) 125 G.o.here Q.o rfl D_ (λhb j h1 h2=>hR.o j (by rcases O.o with⟨_,_,h,_⟩|⟨_,_,h⟩;omega;rw[h]at hb;cases hb) h2)).mono)|(apply(eA (f:=f) 93 G.o.here Q.o rfl D_ (λhb j h1 h2=>hR.o j (by rcases O.o with⟨_,_,h,_⟩|⟨_,_,h⟩;omega;rw[h]at hb;cases hb) h2)).mono));intro e q hP;obtain⟨A,C,D,y,E,c1,z,F,c2,j2,b7,rfl,V,H,a8⟩:=zD.any G.o hP;have U:=H.bl R.o M_;have E2:=H.bl T.o M_;have y0:=E2.cell 0;have z5:=E2.th 0;have y1:=E2.cell 1;have z6:=E2.th 1;have y2:=E2.cell 2;have z7:=E2.th 2;have y3:=E2.cell 3;have z8:=E2.th 3;have y4:=E2.cell 4;have z9:=E2.th 4;simp only[zq,aa_,ab_,af_]at y0 y1 y2 y3 y4;have u:=Blk.fi E2 (U_ A) (Z_ C) (.string D) (.slice y E c1) (.slice z F c2);have J:=(Fr.fi q (w.heap.size+2) (U_ A) (Z_ C) (.string D) (.slice y E c1) (.slice z F c2)).bl U M_;have y5:=u.cell 0;have y6:=u.th 0;(first|(have:=cc1;have K:=C_ u 0 (.int .u8 123))|(have K:=C_ u 0 (.int .u8 91)));(first|(have:=cc1;have v:=E_ J (a:=⟨w.heap.size+2,0,none⟩) (.int .u8 123) (by simp))|(have v:=E_ J (a:=⟨w.heap.size+2,0,none⟩) (.int .u8 91) (by simp)));obtain⟨r0,r1,r2,r3,r4⟩:=v.f5;obtain⟨t0,t1,t2,t3,t4⟩:=K.f5;obtain⟨g0,g1,g2,g3,g4⟩:=v.t5;simp only[zf,zq,aa_,ab_,an_,af_]at r0 r1 r2 r3 r4 t0 t1 t2 t3 t4 y5;revert V H U E2 u;refine k_ λV H U E2 u=>?_;revert J K v;refine h_ λJ K v=>?_;clear hP))
 refine zi results70 v.o (λW5 hF _=>?_);rw[Q_.o];(first|(have:=cc1;have I:Fr q (World.setCell (World.setCell (World.setCell (World.setCell (World.setCell (World.setCell q ⟨w.heap.size+1+1,0,none⟩ (U_ A)) ⟨w.heap.size+1+1,1,none⟩ (Z_ C)) ⟨w.heap.size+1+1,2,none⟩ (.string D)) ⟨w.heap.size+1+1,3,none⟩ (.slice y E c1)) ⟨w.heap.size+1+1,4,none⟩ (.slice z F c2)) ⟨w.heap.size+1+1,0,none⟩ (.int .u8 123)) (λg=>g=w.heap.size+2):=(Fr.fi q (w.heap.size+2) (U_ A) (Z_ C) (.string D) (.slice y E c1) (.slice z F c2)).setCell ⟨w.heap.size+2,0,none⟩ (.int .u8 123) (λ_=>rfl))|(have I:Fr q (World.setCell (World.setCell (World.setCell (World.setCell (World.setCell (World.setCell q ⟨w.heap.size+1+1,0,none⟩ (U_ A)) ⟨w.heap.size+1+1,1,none⟩ (.int .i64 C)) ⟨w.heap.size+1+1,2,none⟩ (.string D)) ⟨w.heap.size+1+1,3,none⟩ (.slice y E c1)) ⟨w.heap.size+1+1,4,none⟩ (.slice z F c2)) ⟨w.heap.size+1+1,0,none⟩ (.int .u8 91)) (λg=>g=w.heap.size+2):=(Fr.fi q (w.heap.size+2) (U_ A) (Z_ C) (.string D) (.slice y E c1) (.slice z F c2)).setCell ⟨w.heap.size+2,0,none⟩ (.int .u8 91) (λ_=>rfl)));have M6:=V.o.own (I.mono (λ_ _ e=>M_));rcases a8.o with⟨d,hr,rfl,a4⟩|⟨hr,rfl⟩
 .rcases O.o with⟨_,hb,rfl,rfl⟩|⟨_,_,rfl⟩
  ·(first|(have:=cc1;refine vb M6 (((a4.fr I (λg hg e=>M_)).mono (λg _ hg=>M_)).recast 123) hF ?_)|(refine vb M6 (((a4.fr I (λg hg e=>M_)).mono (λg _ hg=>M_)).recast 91) hF ?_));simp only[rdT];rw[kx hb];rw[n_ D_]at hr;exact congrArg (Option.map _) hr
  .cases hr
 .refine jq M6 ⟨_,_,_,rfl⟩ ⟨_,_,_,rfl⟩ hF ?_;simp only[rdT];rcases O.o with⟨_,hb,rfl,rfl⟩|⟨hb,_,rfl⟩
  .rw[kx hb];rw[n_ D_]at hr;exact congrArg (Option.map _) hr
  .unfold xO;rw[n_ (by simpa using hb)]):p:=h
def Zo{s:BA}{env:Ay}{pl:Ap}{ts:Aq}(hR:∀j,i<j->j<=s.size->jv s env pl ts f t j):jv s env pl ts (f+1) (.wrap 91 p t) i:=by
 exact cq0_
def ar{s:BA}{env:Ay}{pl:Ap}{ts:Aq}(hR:∀j,i<j->j<=s.size->jv s env pl ts f t j):jv s env pl ts (f+1) (.wrap 123 p t) i:=by
 have cc1:=Nat
 exact cq0_
section
variable {w W W':Aw} {P:Au} {bl:Nat} {s:BA} {bz:Nat} {pl:Ap} {j:Nat} {ts:Aq} {env:Ay} {k:Nat} {n:Int} {tx:BA} {vk vs:Ax} {d:DT} {r:Cf}
def fG(b0:Nat)(hb:w.heap.size<=b0)(M:DM w P bl s bz pl j false ts env W)(hD:zF W (λg=>w.heap.size<=g/\g≠b0) d (zq k n tx vk vs))(hF:Fr W W' (λg=>g=b0))(hr:r=some (d,j)):zD w bl s bz pl r (.returned (.agg (zq k n tx vk vs).toArray)) W':=by
 have cc2:=Nat
 exact cq14_
def gU(b0:Nat)(hb:w.heap.size<=b0)(M:DM w P bl s bz pl j true ts env W)(h1:∃a m c,vk=.slice a m c)(h:∃a m c,vs=.slice a m c)(l:Fr W W' (λg=>g=b0))(hr:r=none):zD w bl s bz pl r (.returned (.agg (zq k n tx vk vs).toArray)) W':=by
 have b:=M.own (l.mono (λ_ _ e=>M_));refine⟨k,n,tx,vk,vs,rfl,h1,h,b.fr,?_⟩;subst hr;exact⟨j,M.jl,b.L⟩
end
def zF.one{w:Aw}{P:Au}{d:DT}{v:Az}(h:zF w P d v)(g:Nat)(hg:P g)(ho:w.ownsRow 0 32 5 (S_ g 1 1) 1 v)(k:Nat)(n:Int)(tx:BA):zF w P (.mk k n tx [] [d]) (zq k n tx (L_) (S_ g 1 1)):=by
 refine .mk (λ_=>v) (World.ownsRow_nil _ _ _ _) (λg e=>by simp[Value.ownBlock]at e) ?_ (λg' e=>?_) (λi e he=>?_)
 .simpa[bt_] using ho
 .simp only[Value.ownBlock,ae_]at e;subst e;exact hg
 .cases i with
  |zero=>simp only[aa_,ae_]at he;subst he;exact h
  |succ i=>simp at he
def bw(w:Aw)(sv:Ax):World:=
 ((w.alloc (.cells #[.int .u8 40,sv] 57)).alloc (.cells zf.toArray 32)).alloc (.cells (zq 40 0 noB (L_) (L_)).toArray 32)
def BU(w:Aw)(sv:Ax):Blk (bw w sv) w.heap.size [.int .u8 40,sv] 57:=((B_ w _ _).alloc _).alloc _
def BB(w:Aw)(sv:Ax):Blk (bw w sv) (w.heap.size+1) zf 32:=by
 have:=(B_ (w.alloc (.cells #[.int .u8 40,sv] 57)) zf.toArray 32).alloc (.cells (zq 40 0 noB (L_) (L_)).toArray 32);simpa[bw] using this
def BP(w:Aw)(sv:Ax):Blk (bw w sv) (w.heap.size+2) (zq 40 0 noB (L_) (L_)) 32:=by
 have:=B_ ((w.alloc (.cells #[.int .u8 40,sv] 57)).alloc (.cells zf.toArray 32)) (zq 40 0 noB (L_) (L_)).toArray 32;simpa[bw] using this
def BF{w:Aw}{P:Au}{bl:Nat}{s:BA}{bz:Nat}{pl:Ap}{j:Nat}{bad:Ap}{ts:Aq}{env:Ay}(M:DM w P bl s bz pl j bad ts env w)(sv:Ax):DM w P bl s bz pl j bad ts env (bw w sv):=((M.alloc _).alloc _).alloc _
def KQ(n:Int):Option (DT×Nat)->Option (DT×Nat)
 |none=>none
 |some (d,j)=>some (.mk 40 n noB [] [d],j)
def ig{w:Aw}{P:Au}{bl:Nat}{s:BA}{bz:Nat}{ts:Aq}{env:Ay}{h0 sn sc A:Nat}(M:DM w P bl s bz true i false ts env w)(D:w.cell? ⟨h0,0,none⟩=some (I_ A))(y:0<sn)(z:isT ts A t)(y:jv s env true ts f t i):Calls prog 108 #[P_ bl,.agg #[.int .u8 40,S_ h0 sn sc]] w (zD w bl s bz true (KQ 0 (rdT s env true f t i))):=by
 refine hq_ λF K=>?_;have F:=M.lt;have c4:=M.L.c4;have d4:=λX Y Z=>zJ c4 X Y Z;have dx:=λX Y Z=>zJ D X Y Z;have E:=zy (BF M (S_ h0 sn sc));have D:=BU w (S_ h0 sn sc);have b1:=D.cell 1;simp only[bw,zf,zq,noB,aa_,ab_,af_]at b1;have G:=zy (BB w (S_ h0 sn sc));have J:=zy (BP w (S_ h0 sn sc));have C:=zy (show(bw w (S_ h0 sn sc)).heap.size=w.heap.size+3 by simp[bw]);revert M z y;refine h_ λM z y=>?_;go_in;go_wp2_with (go_at_call 70;apply(y.o _ P bl bz A E.o.here z).mono;intro e x hP;obtain⟨l,m,q,b,u,c1,h,v,c2,y,y,rfl,F,y,S⟩:=zD.any E hP;have z:=y.size;rw[C.o]at z;have E1:=y.bl G M_;have E2:=y.bl J M_;have G:=(F.alloc (.cells #[U_ l,Z_ m,.string q,.slice b u c1,.slice h v c2] 32)).alloc (.cells #[U_ l,Z_ m,.string q,.slice b u c1,.slice h v c2] 32);have D:=(E1.alloc (.cells #[U_ l,Z_ m,.string q,.slice b u c1,.slice h v c2] 32)).alloc (.cells #[U_ l,Z_ m,.string q,.slice b u c1,.slice h v c2] 32);have z:=(E2.alloc (.cells #[U_ l,Z_ m,.string q,.slice b u c1,.slice h v c2] 32)).alloc (.cells #[U_ l,Z_ m,.string q,.slice b u c1,.slice h v c2] 32);have y4:=z.cell 4;have y5:=z.th 4;have E:=C_ z 4 (S_ (x.heap.size+1) 1 1);have A:=E_ D (a:=⟨w.heap.size+1+1,4,none⟩) (S_ (x.heap.size+1) 1 1) x8_;obtain⟨r0,r1,U,V,r4⟩:=A.f5;obtain⟨t0,t1,t2,t3,t4⟩:=E.f5;obtain⟨J,N,O,Q,R⟩:=A.t5;simp only[zf,zq,aa_,ab_,an_,ao_,af_]at r0 r1 U V r4 t0 t1 t2 t3 t4 y4 y5 J N O Q R;replace F:=zy F;replace y:=zy y;replace E1:=zy E1;replace E2:=zy E2;replace G:=zy G;replace D:=zy D;replace z:=zy z;replace A:=zy A;replace E:=zy E);refine zi results108 A.o (λy I _=>?_);rw[K.o];have H:=G.o.put ⟨w.heap.size+1+1,4,none⟩ (S_ (x.heap.size+1) 1 1) xs_;rcases S.o with⟨d,hr,rfl,T⟩|⟨hr,rfl⟩
 .have y:Fr x (World.setCell ((x.alloc (.cells #[U_ l,Z_ m,.string q,.slice b u c1,.slice h v c2] 32)).alloc (.cells #[U_ l,Z_ m,.string q,.slice b u c1,.slice h v c2] 32)) ⟨w.heap.size+1+1,4,none⟩ (S_ (x.heap.size+1) 1 1)) (λg=>g=w.heap.size+2):=((((A_ x (λg=>g=w.heap.size+2)).alloc _).alloc _).setCell _ _ (λ_=>rfl));have z:((x.alloc (.cells #[U_ l,Z_ m,.string q,.slice b u c1,.slice h v c2] 32)).alloc (.cells #[U_ l,Z_ m,.string q,.slice b u c1,.slice h v c2] 32)).ownsRow 0 32 5 (S_ (x.heap.size+1) 1 1) 1 (zq l m q (.slice b u c1) (.slice h v c2)):=by
   have:=World.ownsRow_lit (base:=0) (e:=32) (size:=5) (x.alloc (.cells #[U_ l,Z_ m,.string q,.slice b u c1,.slice h v c2] 32)) #[U_ l,Z_ m,.string q,.slice b u c1,.slice h v c2] 1 o_ zw_ rfl;have e:(x.alloc (.cells #[U_ l,Z_ m,.string q,.slice b u c1,.slice h v c2] 32)).heap.size=x.heap.size+1:=x8_
   rw[e]at this;exact this
  have b:=zk z ((A_ _ (λg=>g=w.heap.size+2)).setCell ⟨w.heap.size+1+1,4,none⟩ (S_ (x.heap.size+1) 1 1) (λ_=>rfl)) (λg hg e=>by simp only[Value.ownBlock,ae_]at hg;omega);refine fG (w.heap.size+1) M_ H (zF.one ((T.fr y (λg hg e=>by rw[C.o]at hg;omega)).mono (λg _ hg=>⟨by rw[C.o]at hg;omega,by rw[C.o]at hg;omega⟩)) (x.heap.size+1) ⟨M_,M_⟩ b 40 0 noB) I ?_;rw[hr];rfl
 .exact gU (w.heap.size+1) M_ H ⟨_,_,_,rfl⟩ ⟨_,_,_,rfl⟩ I (by rw[hr];rfl)
def Ph(s:BA)(env:Ay)(pl:Ap)(ts:Aq)(f:Nat)(l:Af)(i:Nat):Prop:=
 ∀(w:World) (P:Nat->Prop) (bl bz:Nat) (js:List Nat) (h0 sn sc:Nat),DM w P bl s bz pl i false ts env w->cw ts js l->w.ownsRow 0 3 1 (S_ h0 sn sc) js.length (js.map λ(n:Nat)=>Value.int .i64 (n:Int))->P h0->
  Calls prog 108 #[P_ bl,.agg #[.int .u8 40,S_ h0 sn sc]] w (zD w bl s bz pl (jZ (rdT s env pl f) s pl l i))
def bu{w:Aw}{base:Nat}{e:As}{size:Nat}{n:Nat}{xs:Az}{a:Ao}{m c:Nat}(h:w.ownsRow base e size (.slice a m c) n xs):m=n:=by
 rcases h.2 with⟨h1,h0⟩|⟨g,b,_,h1,_⟩
 .cases h1;exact h0.symm
 .cases h1;rfl
def QZ{s:BA}{env:Ay}{ts:Aq}{l:Af}(hl:l≠[])(a:∀t∈l,jv s env true ts f t i):Ph s env true ts f l i:=by
 intro w P bl bz b h0 sn sc M m ho _;cases l with
 |nil=>exact absurd rfl hl
 |cons t r=>
  obtain⟨j,q,rfl,b,_⟩:=m;have m:=ze ho (g:=h0) (cap:=sc) (by rw[bu ho]) (k:=0) (x:=I_ j) rfl;have hn:=bu ho;have h:=ig (sn:=sn) (sc:=sc) M m (by rw[hn];simp) b (a t x8_);have e:jZ (rdT s env true f) s true (t::r) i=KQ 0 (rdT s env true f t i):=by
   unfold jZ KQ;rw[i_ rfl];rfl
  rw[e];exact h
def Qn{s:BA}{env:Ay}{pl:Ap}{ts:Aq}{l:Af}(H:l≠[])(hB:Ph s env pl ts f l i):jv s env pl ts (f+1) (.alts p l) i:=by
 intro w P bl bz k M hk;obtain⟨x,hk,h⟩:=hk;obtain⟨g,m,u,sv,z0,u,u,I,ho,v⟩:=M.Z.type hk;simp only[af_]at u;refine hq_ λJ C=>?_;have G:0<x.length:=by rw[bQ h];exact List.length_pos_iff.2 H
 have H:=M.lt;have H:=zo z0;have H:=zo u;have c3:=M.L.c3;have c2:=M.L.c2;obtain⟨h0,a,rfl⟩:=zu ho G;have D:P h0:=v h0 rfl;obtain⟨sn,q⟩:=e_ x.length;simp only[<- q]at I ho;replace q:=zy q;have y:=zy (ix M 40 (S_ h0 sn a));have A:=zy (cg w 40 (S_ h0 sn a));have u:=dQ w 40 (S_ h0 sn a);have u0:=u.cell 0;have G:=u.cell 1;simp only[dw,zf,zq,noB,aa_,ab_,af_]at u0 G;have G:=zy (zk ho ((((A_ w N_).alloc (.cells zf.toArray 32)).alloc (.cells #[.int .u8 40,S_ h0 sn a] 57)).alloc (.cells (zq 40 0 noB (L_) (L_)).toArray 32)) u_);have E:=zy (show(dw w 40 (S_ h0 sn a)).heap.size=w.heap.size+3 by simp[dw]);have H:=λX Y Z=>zJ c2 X Y Z;have H:(k:Int)<(m:Int):=M_;replace M:=zy M;replace ho:=zy ho;replace v:=zy v;replace hk:=zy hk;replace h:=zy h;replace hB:=zy hB;go_in;go_wp2_with (go_at_call 108;apply(hB.o _ P bl bz x h0 sn a y.o.here h (by rw[<- q.o];exact G) D).mono;intro e a hP;obtain⟨a,a,a,a,a,c1,a,a,c2,a,a,rfl,b,h,q⟩:=zD.any y hP;have a:=h.bl A M_;obtain⟨r0,r1,u,v,x⟩:=a.f5;obtain⟨y,y,y,y,y⟩:=a.t5;simp only[zf,zq,aa_,ab_,af_]at r0 r1 u v x;revert b h a;refine h_ λb h a=>?_);refine zi results70 a.o (λa z _=>?_);rw[C.o];rcases q.o with⟨d,hr,rfl,F⟩|⟨hr,rfl⟩
 .exact vb b (F.mono (λg _ hg=>by rw[E.o]at hg;omega)) z (by simp only[rdT];exact hr)
 .exact jq b ⟨_,_,_,rfl⟩ ⟨_,_,_,rfl⟩ z (by simp only[rdT];exact hr)
end Go.Proofs.YtahhhgbojlkjnaaGreatDoor
