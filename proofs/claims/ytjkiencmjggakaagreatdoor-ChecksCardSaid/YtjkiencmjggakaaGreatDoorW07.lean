import Derived.Test.YtjkiencmjggakaaGreatDoorW06
set_option maxHeartbeats 16000000
set_option maxRecDepth 100000
set_option linter.defProp false
set_option linter.unusedSimpArgs false
open Go.Proofs.Tryz
namespace Go.Proofs.YtjkiencmjggakaaGreatDoor
open Go.RowKit
variable {pl:Bool}{P:Nat->Prop}{i c j b q0:Nat}{pb:PB}{ds:List PD}{fs:List PF}{t:PT}{xs:List Value}{x:Value}{m:Int}
def gL(ds:List DT):Option (List DT×Nat)->Option (List DT×Nat)
 |none=>none
 |some (l,e)=>some (ds++l,e)
def Zk(x:Option (List DT×Nat)):gL [] x=x:=by
 match x with
 |none=>rfl
 |some (r,j)=>rfl
def gW(R:PT->Nat->Option (DT×Nat))(s:BA)(ds:List DT)(t:PT)(r:List PT)(j:Nat):Option (List DT×Nat):=
 match R t j with
 |none=>none
 |some (d,e)=>gL (ds++[d]) (zD R s false r e)
def cN(R:PT->Nat->Option (DT×Nat))(s:BA)(ds:List DT)(first:Bool)(t:PT)(r:List PT)(j:Nat):gL ds (zD R s first (t::r) j)=if first=true then gW R s ds t r j else if bt s j=44 then gW R s ds t r (j+1) else none:=by
 conv=>lhs;rw[zD]
 unfold gW;split
 .cases R t j with
  |none=>rfl
  |some q=>
   obtain⟨d,e⟩:=q;simp only;cases zD R s false r e with
   |none=>rfl
   |some q=>simp[gL]
 .split
  .cases R t (j+1) with
   |none=>rfl
   |some q=>
    obtain⟨d,e⟩:=q;simp only;cases zD R s false r e with
    |none=>rfl
    |some q=>simp[gL]
  .rfl
def nh(s:BA):Option (List DT×Nat)->Option (DT×Nat)
 |none=>none
 |some (ds,j)=>if bt s j=41 then some (.mk 114 0 noB [] ds,j+1) else none
def dF(R:PT->Nat->Option (DT×Nat))(s:BA)(fs:List PF)(i:Nat):yf R s (.recd fs) i=nh s (if bt s i=40 then zD R s true (fs.map PF.ty) (i+1) else none):=by
 unfold yf nh;by_cases a:bt s i=40
 .simp only[i_ a];rfl
 .simp only[n_ a]
def Bu(R_:Option (List DT×Nat))(R:PT->Nat->Option (DT×Nat))(fs:List PF)(i:Nat)(w:World)(P:Nat->Prop)(bl:Nat)(s:BA)(bz:Nat)(pl:Bool)(ts:List TR)(env:Nat->Option PB)(fa:Option Addr)(fc:Nat)(sb:BA)(o n:Int)(mm:Nat)(iv:Value)(W:World):Prop:=
 ∃q:Nat,iv=I_ q/\q<=fs.length/\fs.length+1-q<=mm/\Blk W w.heap.size [.int .u8 114,.slice fa fs.length fc,.string sb,z_ o,z_ n] 44/\∃sa m sc xs,
  ((∃ds j,LM w P bl s bz pl j false ts env (w.heap.size+1) (w.heap.size+2) (w.heap.size+3) 114 (L_) (.slice sa m sc) [] m xs W/\m=ds.length/\ds.length=q/\i+1+q<=j/\R_=gL ds (zD R s (decide (q=0)) ((fs.map PF.ty).drop q) j))\/
   (∃j,LM w P bl s bz pl j true ts env (w.heap.size+1) (w.heap.size+2) (w.heap.size+3) 114 (L_) (.slice sa m sc) [] m xs W/\R_=none))
def Bn(R_:Option (List DT×Nat))(R:PT->Nat->Option (DT×Nat))(s:BA)(ds:List DT)(t:PT)(r:List PT)(j j':Nat)(bad':Bool):Prop:=
 (bad'=false/\j<=j'/\R_=gW R s ds t r j')\/(bad'=true/\R_=none)
def LM.itemKeep{w W a:World}{bl:Nat}{s:BA}{bz:Nat}{bad:Bool}{ts:List TR}{env:Nat->Option PB}{b0 b1 B:Nat}{vk vs:Value}{ks:List BA}{n:Nat}{o:Obj}{t:Nat}{cs:List Value}(Q:LM w P bl s bz pl j bad ts env b0 b1 B c vk vs ks n xs W)(hg:(W.alloc o).grownBy a vs.ownBlock)(hb:Blk W b cs t)(h1:b<B)(f:b≠b1)(d:Value):Blk (a.setCell ⟨b1,4,none⟩ d) b cs t:=by
 have h:Fr W a (λg=>vs.ownBlock=some g):=a_ ((A_ W _).alloc o) hg (λk e _=>e);exact F_ (h.bl hb (λe=>by have:=Q.vr.lt _ e;omega)) d f
def YA{w:World}{bl:Nat}{s:BA}{bz:Nat}{bad:Bool}{ts:List TR}{env:Nat->Option PB}{fv:Value}{sb:BA}{o n:Int}(M:DM w P bl s bz pl i bad ts env w):LM w P bl s bz pl i bad ts env (w.heap.size+1) (w.heap.size+2) (w.heap.size+3) 114 (L_) (L_) [] 0 [] (nw w 114 fv sb o n):=
 ⟨GA M 114 fv sb o n,M_,by simp[nw],Fy w 114 fv sb o n,GO w 114 fv sb o n,World.ownsRow_nil _ _ _ _,World.ownsRow_nil _ _ _ _,λg hg=>by simp[Value.ownBlock]at hg⟩
def KI{s:BA}{env:Nat->Option PB}{ts:List TR}{f:Nat}(hR:∀g∈fs,∀j,i<j->j<=s.size->vV s env pl ts f g.ty j):WL s env pl ts f (.recd fs) i:=by
 intro w P bl bz so fv sb o n M hN;obtain⟨⟨fa,fn,fc,rfl⟩,a4,rfl,f7,hown,a5⟩:=hN;have e2:=mc hown;subst e2;obtain⟨E,G⟩:=e_ (if bt s i=40 then zD (rdT s env pl f) s true (fs.map PF.ty) (i+1) else none);have d9:yf (rdT s env pl f) s (.recd fs) i=nh s E:=by rw[G];exact dF _ _ _ _
 rw[d9];refine hq_ λf2 Q_=>?_;have h2:=M.lt;have e9:=M.jl;have b4:=M.sl;have Q0:=zy (YA (fv:=.slice fa fs.length fc) (sb:=sb) (o:=o) (n:=n) M);have B0:=zy (Fx w 114 (.slice fa fs.length fc) sb o n);replace M:=zy M;replace a4:=zy a4;replace hown:=zy hown;replace a5:=zy a5;replace G:=zy G;replace hR:=zy hR;obtain⟨R,H⟩:=e_ (rdT s env pl f);replace H:=zy H;go_in;go_wp2_with (go_at_call 88;apply(xg 40 Q0.o.M.L b4 e9 rfl D_).mono;rintro e w1 ⟨rfl,A⟩;obtain⟨F,b6,k,J,B⟩:=qc.lm D_ Q0 A;have z:=zy (J.bl B0 M_);replace k:=zy k;replace J:=zy J);have start:Bu E R fs i w P bl s bz pl ts env fa fc sb o n (fs.length+1) (O_) w1:=by
  refine⟨0,rfl,M_,M_,z,none,0,0,[],?_⟩;rcases B.o with⟨_,a1,rfl,rfl⟩|⟨a1,_,rfl⟩
  .refine .inl ⟨[],i+1,k,rfl,rfl,M_,?_⟩;rw[G.o,i_ a1,H.o,Zk];rfl
  .refine .inr ⟨F,k,?_⟩;rw[G.o,n_ (by simpa using a1)]
 replace start:=zy start;go_loopg [6] (fs.length+1) (λmm iv W=>Bu E R fs i w P bl s bz pl ts env fa fc sb o n mm iv W);case atStart=>exact start
 case round=>
  obtain⟨q,rfl,hq,hm,X,u,m,y,xs,hG|hB⟩:=hrel
  .obtain⟨ds,j,Q,D,a3,g8,l⟩:=hG;have d2:=Q.M.jl;have c2:=Q.M.L.c2;have x1:=X.c1;have f0:m=q:=M_;subst f0;replace X:=zy X;replace D:=zy D;replace a3:=zy a3;by_cases I:m<fs.length
   .have h3:(m:Int)<(fs.length:Int):=M_;obtain⟨g,hg⟩:∃g,fs[m]?=some g:=⟨_,af_ I⟩;have a6:g∈fs:=aj_ hg;obtain⟨num,a8,a7⟩:=a5.o m g hg;obtain⟨gf,cf,b9⟩:=zm hown M_;simp only[Value.slice.injEq,true_and]at b9;obtain⟨rfl,rfl⟩:=b9;obtain⟨rest,a0⟩:=e_ ((fs.map PF.ty).drop (m+1));have b8:(fs.map PF.ty).drop m=g.ty::rest:=by
     rw[a0,ba_ (by simpa using I)]
     congr 1
     rw[List.getElem_map]
     congr 1
     exact(ae_.1 hg).2
    rw[b8,cN]at l;have h4:m<=4000:=M_;replace l:=zy l;replace a0:=zy a0;replace a8:=zy a8;replace a7:=zy a7;replace a6:=zy a6;replace Q:=zy Q;go_upto_if 32 with fail;go_cut [] (λW=>∃j' b5,LM w P bl s bz pl j' b5 ts env (w.heap.size+1) (w.heap.size+2) (w.heap.size+3) 114 (L_) (.slice u m y) [] m xs W/\Blk W w.heap.size [.int .u8 114,S_ gf fs.length fc,.string sb,z_ o,z_ n] 44/\Bn E R s ds g.ty rest j j' b5);case first=>
     by_cases d8:m=0
     .subst d8;go_wp2;go_meet;case rel=>exact⟨j,false,Q,X,.inl ⟨rfl,l_,by rw[l.o];exact i_ D_⟩⟩
     .have h0:(0:Int)<(m:Int):=M_;go_wp2_with (go_at_call 88;apply(xg 44 Q.o.M.L b4 d2 rfl D_).mono;rintro e w2 ⟨rfl,A⟩;obtain⟨j2,b7,a,F2,B⟩:=qc.lm D_ Q A;have K:=zy (F2.bl X M_);replace a:=zy a);go_meet;case rel=>
       refine⟨j2,b7,a,K,?_⟩;have hr:=l.o;rw[n_ (by simpa using d8)]at hr;rcases B.o with⟨_,C,rfl,rfl⟩|⟨C,_,rfl⟩
       .exact .inl ⟨rfl,M_,by rw[hr,i_ C]⟩
       .exact .inr ⟨rfl,by rw[hr,n_ (by simpa using C)]⟩
    case rest=>
     obtain⟨F,b6,k,z,o1⟩:=hcut;have e8:=k.M.jl;have f4:=k.M.L.c2;cases b6 with
     |true=>
      have p:E=none:=by
       rcases o1 with⟨h,_⟩|⟨_,h⟩
       .cases h
       .exact h
      replace k:=zy k;replace z:=zy z;replace p:=zy p;go_wp2;go_roundg (fs.length+1-(m+1));case measure=>omega
      case rel=>exact⟨m+1,by simp,M_,l_,z,u,m,y,xs,.inr ⟨F,k,p⟩⟩
     |false=>
      have e1:j<=F/\E=gW R s ds g.ty rest F:=by
       rcases o1 with⟨_,h⟩|⟨h,_⟩
       .exact h
       .cases h
      obtain⟨g9,p⟩:=e1;have x1:=z.c1;have d7:=zj hown k.M.fr (λg hg e=>k.M.nP (e▸a4.o g hg));have e0:=zr d7 rfl a8;rw[bc_]at e0;obtain⟨ti,e3,e4,e6,e7⟩:=info_parts ZI;have hC:=zy (hR.o g a6 F M_ e8 wc P bl bz num k.M.here a7);replace k:=zy k;replace z:=zy z;replace p:=zy p;go_wp2_with (first
       |(go_at_call 64;apply hC.o.mono;intro e w3 hP;obtain⟨T,U,V,O,m1,c1,S,m2,c2,j3,f3,rfl,K,F3,B⟩:=zW.lm k hP;have X3:=F3.bl z M_;have C:=K.alloc (.cells (zt T U V (.slice O m1 c1) (.slice S m2 c2)).toArray 111);have X4:=X3.alloc (.cells (zt T U V (.slice O m1 c1) (.slice S m2 c2)).toArray 111);have t4:=C.r1.cell 4;simp only[zt,aa_,ab_]at t4;have f9:=K.bB;revert K X3 C X4;refine g_ λK X3 C X4=>?_)
       |(at_builtin;go_must (refine wpList_append_own_at _ rfl _ _ 109 rfl (w.heap.size+3) 111 ti _ 5 80 Zh e3 e4 e6 e7 rfl D_ (.slice u m y) m xs rfl ?hown _ 1 1 (zt T U V (.slice O m1 c1) (.slice S m2 c2)) rfl rfl (zN _ (zt T U V (.slice O m1 c1) (.slice S m2 c2)).toArray _ _ ?nn) ?one ?b1 ?b2 ?b3 ?_)
         case hown=>exact World.ownsRow.alloc C.o.vr _
         case nn=>simp
         case one=>simp[zt,Value.oneCell']
         case b1=>unfold maxLen;omega
         case b2=>omega
         case b3=>simp;omega
         intro v5 w5 a9 Z f1 d6
         have I5:=C.o.item Z a9 d6
         have N:=C.o.itemKeep Z X4 M_ M_ v5
         obtain⟨e5,f5⟩:=C.o.ie Z
         obtain⟨g5,f6,rfl⟩:=zm a9 M_
         replace I5:=zy I5
         replace N:=zy N))
      have Q5:=I5.o;rcases B.o with⟨d,hr,rfl⟩|⟨hr,rfl⟩
      .have g7:=qx s env pl f g.ty F d j3 hr;go_roundg (fs.length+1-(m+1));case measure=>omega
       case rel=>
        refine⟨m+1,by simp,M_,l_,N,_,m+1,_,_,.inl ⟨ds++[d],j3,Q5,by rw[ai_,av_,D.o],by rw[ai_,av_,a3.o],M_,?_⟩⟩;rw[p.o,gW,H.o,hr,<- a0.o];rfl
      .go_roundg (fs.length+1-(m+1));case measure=>omega
       case rel=>
        refine⟨m+1,by simp,M_,l_,N,_,m+1,_,_,.inr ⟨j3,Q5,?_⟩⟩;rw[p.o,gW,H.o,hr]
   .have g6:¬((m:Int)<(fs.length:Int)):=M_;have he:m=fs.length:=M_;have p:=zy (show E=some (ds,j) by rw[l,he,ca_ (by simp)];simp[zD,gL]);replace he:=zy he;replace Q:=zy Q;go_wp2_with (go_at_call 88;apply(xg 41 Q.o.M.L b4 d2 rfl D_).mono;rintro e w2 ⟨rfl,A⟩;obtain⟨j2,b7,a,F2,B⟩:=qc.lm D_ Q A;have r0:=a.r0.cell 0;have r1:=a.r0.cell 1;have r2:=a.r0.cell 2;have r3:=a.r0.cell 3;have r4:=a.r0.cell 4;obtain⟨g0,g1,g2,g3,g4⟩:=a.r0.t5;have t0:=a.r1.cell 0;have t1:=a.r1.cell 1;have t2:=a.r1.cell 2;have t3:=a.r1.cell 3;have t4:=a.r1.cell 4;simp only[zo,zt,aa_,ab_,az_]at r0 r1 r2 r3 r4 t0 t1 t2 t3 t4;have R0:=zy a.r0;replace a:=zy a);have L5:=G_ R0 (.int .u8 114) (O_) (.string noB) (L_) (.slice u m y);obtain⟨q0,q1,q2,q3,q4⟩:=L5.d5;have Y:=J_ w2 (w.heap.size+1) (.int .u8 114) (O_) (.string noB) (L_) (.slice u m y);generalize (((((World.setCell w2 ⟨w.heap.size+1,0,none⟩ (.int .u8 114)).setCell ⟨w.heap.size+1,1,none⟩ (O_)).setCell ⟨w.heap.size+1,2,none⟩ (.string noB)).setCell ⟨w.heap.size+1,3,none⟩ (L_)).setCell ⟨w.heap.size+1,4,none⟩ (.slice u m y))=W5 at *;refine bodyPost_ret (v:=.agg (zt 114 0 noB (L_) (.slice u m y)).toArray) (by simp[results,results94,go_sem,q0,q1,q2,q3,q4,zt]) rfl ?_;rw[Q_.o];rcases B.o with⟨_,a2,rfl,rfl⟩|⟨a2,_,rfl⟩
    .exact wS (w.heap.size+1) M_ a.o.M Y (by rw[p.o];exact congrArg (Option.map Prod.snd) (i_ a2))
    .exact wZ (w.heap.size+1) M_ a.o.M Y (by rw[p.o];exact n_ (by simpa using a2))
  .obtain⟨j,Q,l⟩:=hB;have c2:=Q.M.L.c2;have x1:=X.c1;have r0:=Q.r0.cell 0;have r1:=Q.r0.cell 1;have r2:=Q.r0.cell 2;have r3:=Q.r0.cell 3;have r4:=Q.r0.cell 4;obtain⟨g0,g1,g2,g3,g4⟩:=Q.r0.t5;have t0:=Q.r1.cell 0;have t1:=Q.r1.cell 1;have t2:=Q.r1.cell 2;have t3:=Q.r1.cell 3;have t4:=Q.r1.cell 4;simp only[zo,zt,aa_,ab_,az_]at r0 r1 r2 r3 r4 t0 t1 t2 t3 t4;have R0:=zy Q.r0;revert X Q l;refine h_ λX Q l=>?_;by_cases I:(q:Int)<(fs.length:Int);all_goals
    go_wp2;have L5:=G_ R0 (.int .u8 114) (O_) (.string noB) (L_) (.slice u m y);obtain⟨q0,q1,q2,q3,q4⟩:=L5.d5;have Y:=J_ wr (w.heap.size+1) (.int .u8 114) (O_) (.string noB) (L_) (.slice u m y);generalize (((((World.setCell wr ⟨w.heap.size+1,0,none⟩ (.int .u8 114)).setCell ⟨w.heap.size+1,1,none⟩ (O_)).setCell ⟨w.heap.size+1,2,none⟩ (.string noB)).setCell ⟨w.heap.size+1,3,none⟩ (L_)).setCell ⟨w.heap.size+1,4,none⟩ (.slice u m y))=W5 at *;refine bodyPost_ret (v:=.agg (zt 114 0 noB (L_) (.slice u m y)).toArray) (by simp[results,results94,go_sem,q0,q1,q2,q3,q4,zt]) rfl ?_;rw[Q_.o];exact wZ (w.heap.size+1) M_ Q.o.M Y (by rw[l.o];rfl)
def ZAt.named{w:World}{bz:Nat}{ts:List TR}{env:Nat->Option PB}(h:ZAt w P bz ts env){q:Nat}(d:q<6)(hp:env (65+q)=some pb):∃(so:Int) (fv:Value) (sb:BA) (o n:Int),wO w P ts pb so fv sb n/\w.cell? ⟨bz,1+q*5,none⟩=some (.int .u8 so)/\w.cell? ⟨bz,1+q*5+1,none⟩=some fv/\w.cell? ⟨bz,1+q*5+2,none⟩=some (.string sb)/\w.cell? ⟨bz,1+q*5+3,none⟩=some (z_ o)/\w.cell? ⟨bz,1+q*5+4,none⟩=some (z_ n):=by
 obtain⟨tv,zs,a,_,c⟩:=h.z;obtain⟨so,fv,sb,o,n,c1,c2⟩:=c q d pb hp;have key:∀p,p<5->w.cell? ⟨bz,1+q*5+p,none⟩=[Value.int .u8 so,fv,Value.string sb,Value.int .i64 o,Value.int .i64 n][p]?:=λp hp=>by
  rw[a.cell,show 1+q*5+p=(5*q+p)+1 by omega,ab_];exact c1 p hp
 exact⟨so,fv,sb,o,n,c2,key 0 M_,key 1 M_,key 2 M_,key 3 M_,key 4 M_⟩
def pi(q c:Nat)(h:c=65+q)(a:q<6):IntKind.i64.wrap (IntKind.i64.wrap (c:Int)-65)=(q:Int):=by
 subst h
 match q,a with
 | 0,_=>rfl
 | 1,_=>rfl
 | 2,_=>rfl
 | 3,_=>rfl
 | 4,_=>rfl
 | 5,_=>rfl
def Qe{s:BA}{env:Nat->Option PB}{ts:List TR}{f p:Nat}(hc:zp c=true)(U:env c=some pb)(a0:WL s env pl ts f pb i):vV s env pl ts (f+1) (.leaf c p) i:=by
 intro w P bl bz k M hk;simp only[isT]at hk;have b6:65<=c/\c<=70:=by simpa[zp] using hc
 obtain⟨q,V⟩:∃q,c=65+q:=⟨c-65,M_⟩;have a3:q<6:=M_;obtain⟨g,m,cap,sv,z0,b8,z1,z2,ho,a2⟩:=M.Z.type hk;simp only at z1;have a4:rdT s env pl (f+1) (.leaf c p) i=yf (rdT s env pl f) s pb i:=by
  simp only[rdT];unfold xj;rw[n_ M_,n_ M_,n_ M_,n_ M_,U]
 rw[a4];refine hq_ λb4 Q_=>?_;have d6:=M.lt;have d7:=zQ z0;have d8:=zQ z1;have c3:=M.L.c3;have c2:=M.L.c2;obtain⟨G,sn,H,rfl⟩:=yG ho;have M0:=zy (nk M c (.slice G sn H));have B0:=zy (lZ w c (.slice G sn H));have B1:=zy (ng w c (.slice G sn H));have a9:=zy (show(dw w c (.slice G sn H)).heap.size=w.heap.size+3 by simp[dw]);have d2:=λX Y Z=>yu c2 X Y Z;have b9:(k:Int)<(m:Int):=M_;have n1:((c:Int)==110)=false:=by simp;omega
 have n2:((c:Int)==116)=false:=by simp;omega
 have n3:((c:Int)==105)=false:=by simp;omega
 have n4:((c:Int)==108)=false:=by simp;omega
 have n5:((c:Int)==115)=false:=by simp;omega
 have n6:((c:Int)==91)=false:=by simp;omega
 have n7:((c:Int)==123)=false:=by simp;omega
 have n8:((c:Int)==40)=false:=by simp;omega
 replace M:=zy M;replace ho:=zy ho;replace a2:=zy a2;replace hk:=zy hk;replace a0:=zy a0;replace U:=zy U;replace V:=zy V;go_in;go_wp2;change Code.wp _ _ _ _ (dw w c (.slice G sn H));generalize dw w c (.slice G sn H)=W0 at *;have E:=M0.o.si (zq.drew W0);obtain⟨so,fv,sb,o,n,T,y0,y1,y2,y3,y4⟩:=E.Z.named a3 (by rw[<- V.o];exact U);obtain⟨fa,fn,fc,rfl⟩:=T.1;have u3:=E.L.c3;have u0:=B1.o.c0;have l:=pi q c V a3;have d9:(q:Int)<6:=M_;have hC:=zy (a0.o _ P bl bz so (.slice fa fn fc) sb o n E.here T);replace T:=zy T;refine tr_ 14 (λW=>(f_ W bl 3 (P_ bz)/\f_ W (w.heap.size+1) 0 (U_ c)/\f_ W bz (1+q*5) (.int .u8 so)/\f_ W bz (1+q*5+1) (.slice fa fn fc)/\f_ W bz (1+q*5+2) (.string sb)/\f_ W bz (1+q*5+3) (z_ o)/\f_ W bz (1+q*5+4) (z_ n))) ?_;refine tb_ 0 rfl K_ (λ_ _ _ h=>h) (by rfl) (by rintro W ⟨h1,r,u,y,z,A,B⟩;go_simp<;>first|rfl|exact l) ?_;refine tb_ 1 rfl K_ (λ_ _ _ h=>h) (by rfl) (by rintro W ⟨h1,r,u,y,z,A,B⟩;go_simp<;>first|rfl|exact l) ?_;refine tb_ 2 rfl K_ (λ_ _ _ h=>h) (by rfl) (by rintro W ⟨h1,r,u,y,z,A,B⟩;go_simp<;>first|rfl|exact l) ?_;refine tb_ 3 rfl K_ (λ_ _ _ h=>h) (by rfl) (by rintro W ⟨h1,r,u,y,z,A,B⟩;go_simp<;>first|rfl|exact l) ?_;refine tb_ 4 rfl K_ (λ_ _ _ h=>h) (by rfl) (by rintro W ⟨h1,r,u,y,z,A,B⟩;go_simp<;>first|rfl|exact l) ?_;refine tb_ 5 rfl K_ (λ_ _ _ h=>h) (by rfl) (by rintro W ⟨h1,r,u,y,z,A,B⟩;go_simp<;>first|rfl|exact l) ?_;refine tb_ 6 rfl K_ (λ_ _ _ h=>h) (by rfl) (by rintro W ⟨h1,r,u,y,z,A,B⟩;go_simp<;>first|rfl|exact l) ?_;refine tb_ 7 rfl K_ (λ_ _ _ h=>h) (by rfl) (by rintro W ⟨h1,r,u,y,z,A,B⟩;go_simp<;>first|rfl|exact l) ?_;refine xD 8 (I_ q) rfl K_ (λ_ _ _ h=>h) (by rfl) ?y8 ?_;case y8=>(rintro W ⟨h1,r,u,y,z,A,B⟩;go_simp<;>first|rfl|exact l)
 refine tb_ 9 rfl K_ (λ_ _ _ h=>h) (by rfl) (by rintro W ⟨h1,r,u,y,z,A,B⟩;go_simp<;>first|rfl|exact l) ?_;refine tb_ 10 rfl K_ (λ_ _ _ h=>h) (by rfl) (by rintro W ⟨h1,r,u,y,z,A,B⟩;go_simp<;>first|rfl|exact l) ?_;refine tb_ 11 rfl K_ (λ_ _ _ h=>h) (by rfl) (by rintro W ⟨h1,r,u,y,z,A,B⟩;go_simp<;>first|rfl|exact l) ?_;refine tb_ 12 rfl K_ (λ_ _ _ h=>h) (by rfl) (by rintro W ⟨h1,r,u,y,z,A,B⟩;go_simp<;>first|rfl|exact l) ?_;refine zw 13 rfl K_ (λ_=>⟨u3,u0,y0,y1,y2,y3,y4⟩) (λK hK=>?_);go_simp;apply hC.o.mono;intro e C hP;obtain⟨Q,R,S,N,m1,c1,O,m2,c2,j2,b5,rfl,J,I,a6⟩:=zW.any E hP;refine hK _ _ ?_;have D:=I.bl B0 M_;have D1:=I.bl B1 M_;have r0:=D.cell 0;have r1:=D.cell 1;have r2:=D.cell 2;have r3:=D.cell 3;have r4:=D.cell 4;obtain⟨g0,g1,g2,g3,g4⟩:=D.t5;simp only[zo,zt,aa_,ab_,az_]at r0 r1 r2 r3 r4;have a7:bz<W0.heap.size:=by rw[a9.o];omega
 have a8:bz≠bl:=λe=>E.nP (e▸E.Z.zP);have F:∀o',C.cell? ⟨bz,o',none⟩=W0.cell? ⟨bz,o',none⟩:=λo'=>World.cell?_of_block (a:=⟨bz,o',none⟩) (I.block bz a7 a8);have a5:=D1.c0;have a1:(C.cell? ⟨bl,3,none⟩=some (P_ bz)/\C.cell? ⟨w.heap.size+1,0,none⟩=some (U_ c)/\C.cell? ⟨bz,1+q*5,none⟩=some (.int .u8 so)/\C.cell? ⟨bz,1+q*5+1,none⟩=some (.slice fa fn fc)/\C.cell? ⟨bz,1+q*5+2,none⟩=some (.string sb)/\C.cell? ⟨bz,1+q*5+3,none⟩=some (z_ o)/\C.cell? ⟨bz,1+q*5+4,none⟩=some (z_ n)):=⟨J.L.c3,a5,(F _).trans y0,(F _).trans y1,(F _).trans y2,(F _).trans y3,(F _).trans y4⟩;refine t1_ 14 a1 ?_;refine td_ ?_ _;replace E:=zy E;replace J:=zy J;replace I:=zy I;replace D:=zy D;go_wp2;have L5:=G_ D (U_ Q) (z_ R) (.string S) (.slice N m1 c1) (.slice O m2 c2);obtain⟨q0,q1,q2,q3,q4⟩:=L5.d5;have hF:=J_ C (w.heap.size) (U_ Q) (z_ R) (.string S) (.slice N m1 c1) (.slice O m2 c2);generalize (((((World.setCell C ⟨w.heap.size,0,none⟩ (U_ Q)).setCell ⟨w.heap.size,1,none⟩ (z_ R)).setCell ⟨w.heap.size,2,none⟩ (.string S)).setCell ⟨w.heap.size,3,none⟩ (.slice N m1 c1)).setCell ⟨w.heap.size,4,none⟩ (.slice O m2 c2))=W5 at *;refine bodyPost_ret (v:=.agg (zt Q R S (.slice N m1 c1) (.slice O m2 c2)).toArray) (by simp[results,results64,go_sem,q0,q1,q2,q3,q4,zt]) rfl ?_;rw[Q_.o];rcases a6.o with⟨d,hr,rfl⟩|⟨hr,rfl⟩
 .exact xP J hF (by rw[hr];rfl)
 .exact vJ J hF hr
def FT(s:BA)(env:Nat->Option PB)(pl:Bool)(ts:List TR)(f:Nat)(l:List PT)(i:Nat):Prop:=
 ∀t∈l,∀j,(pl=true->j=i)->(pl=false->i<j)->j<=s.size->vV s env pl ts f t j
def Fi{s:BA}{env:Nat->Option PB}{ts:List TR}(v:qU env)(r:∀f l i,l≠[]->i<=s.size->FT s env pl ts f l i->Pq s env pl ts f l i):∀(f:Nat) (t:PT) (i:Nat),okT env t->i<=s.size->2*(s.size-i)+(if t.isAlts=true then 1 else 0)<f->vV s env pl ts f t i:=by
 intro f;induction f with
 |zero=>intro t i _ _ h;omega
 |succ f ih=>
  intro t i k hi hm;have d:∀u j,okT env u->i<j->j<=s.size->t.isAlts=false->vV s env pl ts f u j:=λu j hu h1 a e=>ih u j hu a (by
   rw[e]at hm
   simp only[bs_,if_false]at hm
   split<;>omega)
  cases t with
  |leaf c p=>
   rcases k with hb|⟨hn,pb,q⟩
   .simp only[zu,au_,beq_iff_eq]at hb;rcases hb with(((rfl|rfl)|rfl)|rfl)|rfl
    .exact PU
    .exact PG
    .exact PC
    .exact PM
    .exact PP
   .refine Qe hn q ?_;have hB:=v c pb q;cases pb with
    |recd fs=>exact KI (λg hg j h1 a=>d g.ty j (hB g hg) h1 a rfl)
    |enum l o=>exact KE hB.1 hB.2
    |bytes n=>exact JY
  |wrap c p u=>
   obtain⟨hc,hu⟩:=k;rcases hc with rfl|rfl
   .exact oS (λj h1 a=>d u j hu h1 a rfl)
   .exact eo (λj h1 a=>d u j hu h1 a rfl)
  |alts p l=>
   obtain⟨hl,q⟩:=k;refine Qa hl (r f l i hl hi (λu hu j h1 a e=>?_));obtain⟨d,k⟩:=vp q u hu;have q:i<=j:=by
    cases pl with
    |true=>have:=h1 rfl;omega
    |false=>have:=a rfl;omega
   refine ih u j k e ?_;rw[d];simp only[PT.isAlts,if_true]at hm;simp only[bs_,if_false];omega
def XS{s:BA}{env:Nat->Option PB}{ts:List TR}(a:qU env)(d:okT env t):vV s env true ts (2*s.size+2) t 0:=by
 refine Fi a (λf l i hl hi a=>QQ hl (λt h=>a t h i (λ_=>rfl) (λh=>by cases h) hi)) _ t 0 d o_ ?_;split<;>omega
def xu(env:Nat->Option PB)(pl:Bool)(t:PT)(s:BA):Option DT:=
 match rdT s env pl (2*s.size+2) t 0 with
 |none=>none
 |some (d,j)=>if j=s.size then some d else none
def eP(w:World)(r:Option DT)(e:Ending)(w':World):Prop:=
 ∃(k:Nat) (n:Int) (tx:BA) (a1:Option Addr) (m1 c1:Nat) (a2:Option Addr) (m2 c2:Nat),e=.returned (.tuple #[.agg #[U_ k,z_ n,.string tx,.slice a1 m1 c1,.slice a2 m2 c2],.bool r.isSome])/\Fr w w' N_
def lw(w:World)(s:BA)(bz:Nat)(pl:Bool):World:=
 (w.alloc (.cells zo.toArray 111)).alloc (.cells #[.string s,O_,.bool false,P_ bz,.bool pl] 168)
def Br{w:World}{s:BA}{bz:Nat}{ts:List TR}{env:Nat->Option PB}(Z:ZAt w P bz ts env)(hP:∀g,P g->g<w.heap.size)(hs:s.size<=4000):DM (lw w s bz pl) P (w.heap.size+1) s bz pl 0 false ts env (lw w s bz pl):=by
 refine⟨?_,Z.fr (((A_ w N_).alloc _).alloc _) u_,λh=>by have:=hP _ h;omega,λg hg=>by have:=hP g hg;simp[lw];omega,by simp[lw],A_ _ _,al_ _,hs⟩;have:=B_ (w.alloc (.cells zo.toArray 111)) #[.string s,O_,.bool false,P_ bz,.bool pl] 168;have e:(w.alloc (.cells zo.toArray 111)).heap.size=w.heap.size+1:=by simp
 rw[e]at this;exact this
def Ka{w:World}{s:BA}{bz:Nat}{ts:List TR}{env:Nat->Option PB}{k:Nat}(Z:ZAt w P bz ts env)(hP:∀g,P g->g<w.heap.size)(hs:s.size<=4000)(hk:isT ts k t)(R:vV s env pl ts (2*s.size+2) t 0):Calls prog 40 #[P_ bz,.string s,I_ k,.bool pl] w (eP w (xu env pl t s)):=by
 refine hq_ λa5 Q_=>?_;have M0:=zy (Br (s:=s) (pl:=pl) Z hP hs);have B0:=zy (show Blk (lw w s bz pl) w.heap.size zo 111 from(B_ w _ _).alloc _);have a3:=zy (show(lw w s bz pl).heap.size=w.heap.size+2 by simp[lw]);have F0:=zy (show Fr w (lw w s bz pl) N_ from((A_ w _).alloc _).alloc _);revert Z hP hk R;refine g_ λZ hP hk R=>?_;go_in;go_wp2_with (go_at_call 64;apply(R.o _ P (w.heap.size+1) bz k M0 hk).mono;intro e z hQ;obtain⟨l,n,p,a,q,c1,f,r,c2,C,a1,rfl,Q,F,a2⟩:=zW.any M0 hQ;have D0:=zy (F.bl B0 M_);replace Q:=zy Q;replace F:=zy F);change Code.wp _ _ _ _ (z.alloc (.cells #[U_ l,z_ n,.string p,.slice a q c1,.slice f r c2] 111));have a4:=F.o.size;rw[a3.o]at a4;have D:=Q.o.alloc (.cells #[U_ l,z_ n,.string p,.slice a q c1,.slice f r c2] 111);have u:=D0.o.alloc (.cells #[U_ l,z_ n,.string p,.slice a q c1,.slice f r c2] 111);have y:=B_ z #[U_ l,z_ n,.string p,.slice a q c1,.slice f r c2] 111;have M:Fr w (z.alloc (.cells #[U_ l,z_ n,.string p,.slice a q c1,.slice f r c2] 111)) N_:=(F0.o.trans F (λx hx e=>M_)).alloc _;have a0:Fr z (z.alloc (.cells #[U_ l,z_ n,.string p,.slice a q c1,.slice f r c2] 111)) N_:=(A_ z _).alloc _;generalize z.alloc (.cells #[U_ l,z_ n,.string p,.slice a q c1,.slice f r c2] 111)=W3 at *;generalize a6:z.heap.size=bx at *;have O:=D.L.c2;have N:=D.L.c1;have G:=y.cell 0;have H:=y.cell 1;have I:=y.cell 2;have J:=y.cell 3;have K:=y.cell 4;have r0:=u.cell 0;have r1:=u.cell 1;have r2:=u.cell 2;have r3:=u.cell 3;have r4:=u.cell 4;obtain⟨g0,g1,g2,g3,g4⟩:=u.t5;simp only[zo,zt,aa_,ab_,az_]at r0 r1 r2 r3 r4 G H I J K;have E:∀W',Fr W3 W' (λg=>g=w.heap.size)->W'.cell? ⟨w.heap.size+1,2,none⟩=some (.bool a1)/\W'.cell? ⟨w.heap.size+1,1,none⟩=some (I_ C)/\W'.cell? ⟨bx,0,none⟩=some (U_ l)/\W'.cell? ⟨bx,1,none⟩=some (z_ n)/\W'.cell? ⟨bx,2,none⟩=some (.string p)/\W'.cell? ⟨bx,3,none⟩=some (.slice a q c1)/\W'.cell? ⟨bx,4,none⟩=some (.slice f r c2):=λW' hf=>by
  have hL:=hf.bl D.L M_;have hX:=hf.bl y M_;exact⟨hL.cell 2,hL.cell 1,hX.cell 0,hX.cell 1,hX.cell 2,hX.cell 3,hX.cell 4⟩
 replace E:=E _ ((J_ W3 w.heap.size (U_ l) (z_ n) (.string p) (.slice a q c1) (.slice f r c2)).drew);replace D:=zy D;replace u:=zy u;replace y:=zy y;replace M:=zy M;replace a0:=zy a0;cases hb:a1 with
 |false=>
  subst hb;refine tr_ 16 (λW=>f_ W (w.heap.size+1) 2 (.bool false)/\f_ W (w.heap.size+1) 1 (I_ C)/\f_ W bx 0 (U_ l)/\f_ W bx 1 (z_ n)/\f_ W bx 2 (.string p)/\f_ W bx 3 (.slice a q c1)/\f_ W bx 4 (.slice f r c2)) ?_;refine tz_ 0 ?_;refine tz_ 1 ?_;refine tz_ 2 ?_;refine tz_ 3 ?_;refine tz_ 4 ?_;refine tz_ 5 ?_;refine tz_ 6 ?_;refine tz_ 7 ?_;refine tz_ 8 ?_;refine tz_ 9 ?_;refine tz_ 10 ?_;refine tz_ 11 ?_;refine tz_ 12 ?_;refine tz_ 13 ?_;refine tz_ 14 ?_;refine t1_ 15 ⟨O,N,G,H,I,J,K⟩ ?_;refine t1_ 16 E ?_;refine td_ ?_ _;have A:=(G_ u (U_ l) (z_ n) (.string p) (.slice a q c1) (.slice f r c2)).drew;obtain⟨q0,V,X,q3,Y⟩:=A.d5;have S:=zy ((J_ W3 w.heap.size (U_ l) (z_ n) (.string p) (.slice a q c1) (.slice f r c2)).drew);have B:Fr w _ N_:=M.o.trans S (λx hx e=>M_);replace B:=zy B;replace A:=zy A;generalize (World.setCell (World.setCell (World.setCell (World.setCell (World.setCell W3 ⟨w.heap.size,0,none⟩ (U_ l)) ⟨w.heap.size,1,none⟩ (z_ n)) ⟨w.heap.size,2,none⟩ (.string p)) ⟨w.heap.size,3,none⟩ (.slice a q c1)) ⟨w.heap.size,4,none⟩ (.slice f r c2)).drew=W5 at *;go_wp2;refine bodyPost_ret (v:=.tuple #[.agg #[U_ l,z_ n,.string p,.slice a q c1,.slice f r c2],.bool ((C:Int)==(s.size:Int))]) (by simp[results,results40,go_sem,q0,V,X,q3,Y]) rfl ?_;rw[Q_.o];rcases a2.o with⟨d,hr,_⟩|⟨_,h⟩
  .have U:xu env pl t s=if C=s.size then some d else none:=by unfold xu;rw[hr]
   refine⟨l,n,p,a,q,c1,f,r,c2,?_,B⟩
   .rw[U];by_cases T:C=s.size
    .rw[i_ T,T];simp
    .rw[n_ T,show(((C:Nat):Int)==((s.size:Nat):Int))=false by simp;omega];rfl
  .cases h
 |true=>
  subst hb;refine tr_ 16 (λW=>f_ W (w.heap.size+1) 2 (.bool true)/\f_ W (w.heap.size+1) 1 (I_ C)/\f_ W bx 0 (U_ l)/\f_ W bx 1 (z_ n)/\f_ W bx 2 (.string p)/\f_ W bx 3 (.slice a q c1)/\f_ W bx 4 (.slice f r c2)) ?_;refine tz_ 0 ?_;refine tz_ 1 ?_;refine tz_ 2 ?_;refine tz_ 3 ?_;refine tz_ 4 ?_;refine tz_ 5 ?_;refine tz_ 6 ?_;refine xN 7 rfl K_ (λ_ _ _ h=>h) K_ ?_;refine xN 8 rfl K_ (λ_ _ _ h=>h) K_ ?_;refine xN 9 rfl K_ (λ_ _ _ h=>h) K_ ?_;refine xN 10 rfl K_ (λ_ _ _ h=>h) K_ ?_;refine xN 11 rfl K_ (λ_ _ _ h=>h) K_ ?_;refine xN 12 rfl K_ (λ_ _ _ h=>h) K_ ?_;refine xN 13 rfl K_ (λ_ _ _ h=>h) K_ ?_;refine tz_ 14 ?_;refine t1_ 15 ⟨O,N,G,H,I,J,K⟩ ?_;refine t1_ 16 E ?_;refine td_ ?_ _;have A:=(G_ u (U_ l) (z_ n) (.string p) (.slice a q c1) (.slice f r c2)).drew;obtain⟨q0,V,X,q3,Y⟩:=A.d5;have S:=zy ((J_ W3 w.heap.size (U_ l) (z_ n) (.string p) (.slice a q c1) (.slice f r c2)).drew);have B:Fr w _ N_:=M.o.trans S (λx hx e=>M_);replace B:=zy B;replace A:=zy A;generalize (World.setCell (World.setCell (World.setCell (World.setCell (World.setCell W3 ⟨w.heap.size,0,none⟩ (U_ l)) ⟨w.heap.size,1,none⟩ (z_ n)) ⟨w.heap.size,2,none⟩ (.string p)) ⟨w.heap.size,3,none⟩ (.slice a q c1)) ⟨w.heap.size,4,none⟩ (.slice f r c2)).drew=W5 at *;go_wp2;refine bodyPost_ret (v:=.tuple #[.agg #[U_ l,z_ n,.string p,.slice a q c1,.slice f r c2],.bool false]) (by simp[results,results40,go_sem,q0,V,X,q3,Y]) rfl ?_;rw[Q_.o];rcases a2.o with⟨_,_,h⟩|⟨hr,_⟩
  .cases h
  .have U:xu env pl t s=none:=by unfold xu;rw[hr]
   rw[U];exact⟨l,n,p,a,q,c1,f,r,c2,rfl,B⟩
def yM(env:Nat->Option PB)(k:Nat):List PF:=match env (65+k) with|some (.recd fs)=>fs|_=>[]
def Yg:Nat->Value->Prop
 | 5,v=>∃a,v=.int .u8 a
 | 6,v=>∃a,v=z_ a
 | 7,v=>∃a,v=.string a
 | 8,v=>∃a m c,v=.slice a m c
 | 9,v=>∃a m c,v=.slice a m c
 | _,_=>False
def Wn(s:BA)(f:PF):BA:=match f.dflt with|none=>⟨#[]⟩|some (a,b)=>s.extract a b
def Ws(f:PF):Nat:=(f.dflt.map Prod.fst).getD 0
def Vd(s:BA)(ts:List TR)(fs:List PF)(xs:List Value):Prop:=
 ∀q f,fs[q]?=some f->(∃num:Nat,isT ts num f.ty/\xs[10*q+1]?=some (I_ num))/\xs[10*q]?=some (U_ f.letter)/\xs[10*q+2]?=some (.bool f.dflt.isSome)/\xs[10*q+3]?=some (z_ (Ws f:Int))/\xs[10*q+4]?=some (.string (Wn s f))/\
  ∀p,5<=p->p<10->∃v,xs[10*q+p]?=some v/\Yg p v
def Pj(pb:Option PB)(so:Int)(sb:BA)(o n:Int):Prop:=
 match pb with
 |none=>so=0
 |some (.recd _)=>so=114
 |some (.enum l u)=>so=101/\sb.data.toList.map UInt8.toNat=l.map Prod.fst/\o=(match u with|none=>-1|some (c,_)=>plc sb c)
 |some (.bytes k)=>so=102/\n=(k:Int)
structure SZ(W:World)(P1 P2:Nat->Prop)(bz:Nat)(s:BA)(ts:List TR)(env:Nat->Option PB)(rt:Value):Prop where
 dis:∀g,P2 g->¬P1 g
 zP:P1 bz
 z:∃tv zs,Blk W bz (tv::zs) 47/\zs[30]?=some rt/\pq W P1 tv ts/\
  ∀k,k<6->∃(so:Int) (fv:Value) (sb:BA) (o n:Int) (xs:List Value),(∀p,p<5->zs[5*k+p]?=[Value.int .u8 so,fv,Value.string sb,Value.int .i64 o,Value.int .i64 n][p]?)/\
   W.ownsRow 0 113 10 fv (yM env k).length xs/\(∀g,fv.ownBlock=some g->P2 g)/\Vd s ts (yM env k) xs/\Pj (env (65+k)) so sb o n
section
variable {W W':World} {P1 P2:Nat->Prop} {bz:Nat} {s:BA} {ts:List TR} {env:Nat->Option PB} {rt:Value}
def SZ.fr{S:Nat->Prop}(h:SZ W P1 P2 bz s ts env rt)(hf:Fr W W' S)(h1:∀g,P1 g->¬S g)(f:∀g,P2 g->¬S g):SZ W' P1 P2 bz s ts env rt:=by
 refine⟨h.dis,h.zP,?_⟩;obtain⟨tv,zs,a,d,b,c⟩:=h.z;refine⟨tv,zs,hf.bl a (h1 _ h.zP),d,b.fr hf h1,λk hk=>?_⟩;obtain⟨so,fv,sb,o,n,xs,c1,c2,c3,c4,c5⟩:=c k hk;exact⟨so,fv,sb,o,n,xs,c1,zj c2 hf (λg e=>f g (c3 g e)),c3,c4,c5⟩
def pq.mono{Q:Nat->Prop}{tv:Value}(h:pq W P tv ts)(hQ:∀g,P g->Q g):pq W Q tv ts:=by
 obtain⟨xs,a,b,c⟩:=h;refine⟨xs,a,λg e=>hQ g (b g e),λk t d=>?_⟩;obtain⟨sv,c1,c2,c3,c4⟩:=c k t d;exact⟨sv,c1,c2,c3,λg e=>hQ g (c4 g e)⟩
def SZ.toZ(h:SZ W P1 P2 bz s ts env rt):ZAt W (λg=>P1 g\/P2 g) bz ts env:=by
 refine⟨.inl h.zP,?_⟩;obtain⟨tv,zs,a,d,b,c⟩:=h.z;refine⟨tv,zs,a,b.mono (λg hg=>.inl hg),λk hk pb hp=>?_⟩;obtain⟨so,fv,sb,o,n,xs,c1,c2,c3,c4,c5⟩:=c k hk;refine⟨so,fv,sb,o,n,c1,yG c2,λg e=>.inr (c3 g e),?_⟩;rw[hp]at c5;cases pb with
 |recd fs=>
  have e:yM env k=fs:=by unfold yM;rw[hp]
  rw[e]at c2 c4;refine⟨c5,xs,c2,λq f hf=>?_⟩;obtain⟨⟨num,d1,d⟩,_⟩:=c4 q f hf;exact⟨num,d,d1⟩
 |enum l u=>exact⟨c5.1,c5.2.1⟩
 |bytes m=>exact c5
def Ks{e:TypeId}{v:Value}{n:Nat}(h:W.ownsRow 0 e 10 v n xs)(g o:Nat)(x:Value):∃ys,(W.setCell ⟨g,o,none⟩ x).ownsRow 0 e 10 v n ys/\ys.length=xs.length/\∀i,(i≠o->ys[i]?=xs[i]?)/\(i=o->ys[i]?=xs[i]?\/(i<xs.length/\ys[i]?=some x)):=by
 by_cases hg:v.ownBlock=some g
 .rcases h.2 with⟨rfl,_⟩|⟨g',cap,a,rfl,hb,l,h1,d,f,k⟩
  .simp[Value.ownBlock]at hg
  .simp only[Value.ownBlock,ah_]at hg;subst hg;refine⟨xs.set o x,⟨by rw[bh_];exact h.1,.inr ⟨g',cap,a.setIfInBounds o x,rfl,hb,?_,h1,d,by rw[Array.size_setIfInBounds];exact f,?_⟩⟩,bh_,λi=>⟨λhi=>bq_ (Ne.symm hi),λhi=>?_⟩⟩
   .simp[World.setCell,Array.getElem?_modify,l]
   .rw[Array.toList_setIfInBounds,List.take_set,k]
   .subst hi;by_cases hl:i<xs.length
    .exact .inr ⟨hl,by rw[cd_ hl]⟩
    .left;rw[a4_ (by rw[bh_];omega),a4_ M_]
 .refine⟨xs,zj h ((A_ W (λb=>b=g)).setCell ⟨g,o,none⟩ x (λ_=>rfl)) (λb hb e=>hg (e▸hb)),rfl,λi=>⟨λ_=>rfl,λ_=>.inl rfl⟩⟩
def Vd.set{ys:List Value}{a:Nat}(h:Vd s ts fs xs)(hp:5<=a/\a<10)(hx:Yg a x)(h1:∀i,(i≠10*q0+a->ys[i]?=xs[i]?)/\(i=10*q0+a->ys[i]?=xs[i]?\/(i<xs.length/\ys[i]?=some x))):Vd s ts fs ys:=by
 intro q f hf;obtain⟨⟨num,g,k⟩,d,l,n,o,r⟩:=h q f hf;refine⟨⟨num,g,by rw[(h1 _).1 M_];exact k⟩,by rw[(h1 _).1 M_];exact d,by rw[(h1 _).1 M_];exact l,by rw[(h1 _).1 M_];exact n,by rw[(h1 _).1 M_];exact o,λp d g=>?_⟩;obtain⟨v,b1,b2⟩:=r p d g;by_cases he:10*q+p=10*q0+a
 .rcases(h1 _).2 he with e|⟨_,e⟩
  .exact⟨v,by rw[e];exact b1,b2⟩
  .have:p=a:=M_;subst this;exact⟨x,e,hx⟩
 .exact⟨v,by rw[(h1 _).1 he];exact b1,b2⟩
def SZ.store(h:SZ W P1 P2 bz s ts env rt){g d:Nat}(hg:P2 g)(hp:5<=d/\d<10)(hx:Yg d x):SZ (W.setCell ⟨g,10*q0+d,none⟩ x) P1 P2 bz s ts env rt:=by
 refine⟨h.dis,h.zP,?_⟩;have hf:Fr W (W.setCell ⟨g,10*q0+d,none⟩ x) (λb=>b=g):=(A_ W (λb=>b=g)).setCell ⟨g,10*q0+d,none⟩ x (λ_=>rfl);have hn:∀b,P1 b->¬b=g:=λb hb e=>h.dis g hg (e▸hb);obtain⟨tv,zs,a,f,b,c⟩:=h.z;refine⟨tv,zs,hf.bl a (hn _ h.zP),f,b.fr hf hn,λk hk=>?_⟩;obtain⟨so,fv,sb,o,n,xs,c1,c2,c3,c4,c5⟩:=c k hk;obtain⟨ys,d1,_,f⟩:=Ks c2 g (10*q0+d) x;exact⟨so,fv,sb,o,n,ys,c1,d1,c3,c4.set hp hx f,c5⟩
def SZ.fields(h:SZ W P1 P2 bz s ts env rt){k:Nat}(hk:k<6):∃fa fc,W.cell? ⟨bz,1+k*5+1,none⟩=some (.slice fa (yM env k).length fc)/\
 ∀q f,(yM env k)[q]?=some f->∃g num a b tx l d c1 e p c2,fa=some ⟨g,0,none⟩/\P2 g/\isT ts num f.ty/\
  W.cell? ⟨g,q*10,none⟩=some (U_ f.letter)/\W.cell? ⟨g,q*10+1,none⟩=some (I_ num)/\W.cell? ⟨g,q*10+2,none⟩=some (.bool f.dflt.isSome)/\W.cell? ⟨g,q*10+3,none⟩=some (z_ (Ws f:Int))/\W.cell? ⟨g,q*10+4,none⟩=some (.string (Wn s f))/\
  W.cell? ⟨g,q*10+5,none⟩=some (.int .u8 a)/\W.cell? ⟨g,q*10+6,none⟩=some (z_ b)/\W.cell? ⟨g,q*10+7,none⟩=some (.string tx)/\W.cell? ⟨g,q*10+8,none⟩=some (.slice l d c1)/\W.cell? ⟨g,q*10+9,none⟩=some (.slice e p c2)/\∀o,W.frozen? ⟨g,o,none⟩=false:=by
 obtain⟨tv,zs,a,_,b,c⟩:=h.z;obtain⟨so,fv,sb,o,n,xs,c1,c2,c3,c4,c5⟩:=c k hk;obtain⟨fa,fc,rfl⟩:=zl c2;refine⟨fa,fc,?_,λq f hf=>?_⟩
 .rw[a.cell,show 1+k*5+1=(5*k+1)+1 by omega,ab_];exact c1 1 M_
 .have d:0<(yM env k).length:=by have:=(ae_.1 hf).1;omega
  obtain⟨g,cap,hv⟩:=zm c2 d;simp only[Value.slice.injEq,true_and]at hv;obtain⟨rfl,rfl⟩:=hv;obtain⟨⟨num,l,e⟩,p,r,u,v,d⟩:=c4 q f hf;obtain⟨_,y,⟨E,rfl⟩⟩:=d 5 M_ M_;obtain⟨_,A,⟨F,rfl⟩⟩:=d 6 M_ M_;obtain⟨_,B,⟨G,rfl⟩⟩:=d 7 M_ M_;obtain⟨_,C,⟨H,I,J,rfl⟩⟩:=d 8 M_ M_;obtain⟨_,D,⟨K,L,M,rfl⟩⟩:=d 9 M_ M_;have cell:=λ{i:Nat} {x:Value} (hx:xs[i]?=some x)=>zr c2 rfl hx;rw[bc_]at p e r u v y A B C D;refine⟨g,num,E,F,G,H,I,J,K,L,M,rfl,c3 g rfl,l,cell p,cell e,cell r,cell u,cell v,cell y,cell A,cell B,cell C,cell D,λo=>?_⟩;rcases c2.2 with⟨hn,_⟩|⟨g',d,d,e,_,d,_⟩
  .cases hn
  .cases e;simp[World.frozen?,d]
end
def lY(s:BA)(env:Nat->Option PB)(fs:List PF)(m:Int):Int:=
 fs.foldl (λm f=>match f.dflt with|none=>m|some (a,b)=>if (xu env true f.ty (s.extract a b)).isSome=true then m else zX (a:Int) m) m
def yL(s:BA)(env:Nat->Option PB):Nat->Int
 | 0=>-1
 |k+1=>lY s env (yM env k) (yL s env k)
def rG(s:BA)(env:Nat->Option PB)(m:Int)(f:PF):Int:=
 match f.dflt with|none=>m|some (a,b)=>if (xu env true f.ty (s.extract a b)).isSome=true then m else zX (a:Int) m
def XC{s:BA}{env:Nat->Option PB}{q:Nat}{f:PF}(h:fs[q]?=some f)(m:Int):lY s env (fs.take (q+1)) m=rG s env (lY s env (fs.take q) m) f:=by
 rw[bf_,h];unfold lY;rw[List.foldl_append];rfl
structure jq(w:World)(P1 P2:Nat->Prop)(bz:Nat)(s:BA)(ts:List TR)(env:Nat->Option PB)(rt:Value)(W:World):Prop where
 Z:SZ W P1 P2 bz s ts env rt
 fr:Fr w W P2
 l1:∀g,P1 g->g<w.heap.size
 l2:∀g,P2 g->g<w.heap.size
section
variable {w W W':World} {P1 P2:Nat->Prop} {bz:Nat} {s:BA} {ts:List TR} {env:Nat->Option PB} {rt:Value}
def jq.own(M:jq w P1 P2 bz s ts env rt W)(hf:Fr W W' (λg=>w.heap.size<=g)):jq w P1 P2 bz s ts env rt W':=
 ⟨M.Z.fr hf (λg hg=>by have:=M.l1 g hg;omega) (λg hg=>by have:=M.l2 g hg;omega),M.fr.trans hf (λx hx e=>absurd e M_),M.l1,M.l2⟩
def jq.alloc(M:jq w P1 P2 bz s ts env rt W)(o:Obj):jq w P1 P2 bz s ts env rt (W.alloc o):=M.own ((A_ W _).alloc o)
def jq.store(M:jq w P1 P2 bz s ts env rt W){g:Nat}(a:Nat)(hg:P2 g)(hp:5<=a/\a<10)(hx:Yg a x):jq w P1 P2 bz s ts env rt (W.setCell ⟨g,q0*10+a,none⟩ x):=by
 rw[bc_];exact⟨M.Z.store hg hp hx,M.fr.setCell _ _ (λ_=>hg),M.l1,M.l2⟩
end
def bN{w:World}{P1 P2:Nat->Prop}{bz:Nat}{s:BA}{ts:List TR}{env:Nat->Option PB}{rt:Value}(M:jq w P1 P2 bz s ts env rt w)(hs:s.size<=300)(Y:qU env)(a3:∀k,k<6->(yM env k).length<=300)(a5:∀k f,k<6->f∈yM env k->okT env f.ty):Calls prog 21 #[.pointer (some ⟨bz,0,none⟩)] w λe w'=>e=.returned (z_ (yL s env 6))/\jq w P1 P2 bz s ts env rt w':=by
 refine hq_ λe0 Q_=>?_;replace Y:=zy Y;replace a3:=zy a3;replace a5:=zy a5;have start:=zy (⟨0,M_,M_,rfl,rfl,M⟩:∃k:Nat,k<=6/\7-k<=7/\Value.int .i64 0=z_ (k:Int)/\Value.int .i64 (-1)=z_ (yL s env k)/\jq w P1 P2 bz s ts env rt w);clear M;go_in;go_wp2_with fail;go_loopg [3,4] 7 (λmm v3 v4 W=>∃k:Nat,k<=6/\7-k<=mm/\v4=z_ (k:Int)/\v3=z_ (yL s env k)/\jq w P1 P2 bz s ts env rt W);case atStart=>exact start.o
 case round=>
  clear start;obtain⟨k,hk,f2,rfl,rfl,M⟩:=hrel;by_cases a2:k<6
  .have b9:(k:Int)<6:=M_;have f1:=a3.o k a2;have b4:=zy (⟨0,M_,M_,rfl,rfl,M⟩:∃q:Nat,q<=(yM env k).length/\(yM env k).length+1-q<=(yM env k).length+1/\Value.int .i64 0=z_ (q:Int)/\Value.int .i64 (yL s env k)=z_ (lY s env ((yM env k).take q) (yL s env k))/\jq w P1 P2 bz s ts env rt wr);clear M;go_wp2_with fail;go_loopg [3,5] ((yM env k).length+1) (λmm v3 v5 W=>∃q:Nat,q<=(yM env k).length/\(yM env k).length+1-q<=mm/\v5=z_ (q:Int)/\v3=z_ (lY s env ((yM env k).take q) (yL s env k))/\jq w P1 P2 bz s ts env rt W);case atStart=>exact b4.o
   case round=>
    clear b4;obtain⟨q,hq,f3,rfl,rfl,M⟩:=hrel;obtain⟨fa,fc,a8,a0⟩:=M.Z.fields a2;by_cases d7:q<(yM env k).length
    .have d8:(q:Int)<((yM env k).length:Int):=M_;obtain⟨f,hf⟩:∃f,(yM env k)[q]?=some f:=⟨_,af_ d7⟩;have b8:=zy (a5.o k f a2 (aj_ hf));have F:=zy (XC (s:=s) (env:=env) hf (yL s env k));obtain⟨g,num,xa,xb,xt,y1,y2,y3,y4,y5,y6,rfl,hg,a1,X,e1,e2,e3,e4,e5,e6,e7,e8,e9,a6⟩:=a0 q f hf;obtain⟨m,hm⟩:∃m,lY s env ((yM env k).take q) (yL s env k)=m:=⟨_,rfl⟩;rw[hm]at F⊢;have b6:=zQ X;clear a0 hf;replace hm:=zy hm;replace M:=zy M;replace hg:=zy hg;replace a1:=zy a1;replace a6:=zy a6;cases d:f.dflt with
     |none=>
      simp only[d,Option.isSome_none]at e2;replace d:=zy d;go_wp2_with fail;go_roundg ((yM env k).length+1-(q+1));case measure=>omega
      case rel=>exact⟨q+1,M_,l_,by simp,by rw[F.o];unfold rG;rw[d.o],M.o.alloc _⟩
     |some ab=>
      obtain⟨a,b⟩:=ab;simp only[d,Option.isSome_some]at e2;rw[show Ws f=a by simp[Ws,d]]at e3;rw[show Wn s f=s.extract a b by simp[Wn,d]]at e4;obtain⟨tx,C⟩:∃t,t=s.extract a b:=⟨_,rfl⟩;rw[<- C]at e4;have d9:tx.size<=4000:=by rw[C,bl_];omega
      obtain⟨r,hr⟩:∃r,xu env true f.ty tx=r:=⟨_,rfl⟩;replace C:=zy C;replace hr:=zy hr;replace d:=zy d;obtain⟨a9,a4⟩:∃x,x=(f.letter:Int):=⟨_,rfl⟩;change _=some (Value.int .u8 (f.letter:Int)) at X;rw[<- a4]at X;replace a4:=zy a4;go_wp2_with (go_at_call 40;refine(Ka (M.o.alloc _).Z.toZ (λx hx=>by have h1:=M.o.fr.size;rcases hx with hx|hx;have:=M.o.l1 x hx;simp;omega;have:=M.o.l2 x hx;simp;omega) d9 a1.o (XS Y.o b8.o)).mono ?_;intro e G hP;rw[hr.o]at hP;obtain⟨p,u,z,l,A,c1,n,B,c2,rfl,H⟩:=hP;have M2:=zy ((M.o.alloc (.cells #[.int .u8 a9,z_ (num:Int),.bool true,z_ (a:Int),.string tx,.int .u8 xa,z_ xb,.string xt,.slice y1 y2 y3,.slice y4 y5 y6] 113)).own (H.mono v_));have Bf:=zy (H.bl (B_ wr #[.int .u8 a9,z_ (num:Int),.bool true,z_ (a:Int),.string tx,.int .u8 xa,z_ xb,.string xt,.slice y1 y2 y3,.slice y4 y5 y6] 113) id);replace H:=zy H);change Code.wp _ _ _ _ (G.alloc (.cells #[.int .u8 (p:Int),z_ u,.string z,.slice l A c1,.slice n B c2] 111));have U:=M2.o.alloc (.cells #[.int .u8 (p:Int),z_ u,.string z,.slice l A c1,.slice n B c2] 111);have V:=B_ G #[.int .u8 (p:Int),z_ u,.string z,.slice l A c1,.slice n B c2] 111;have S:=Bf.o.alloc (.cells #[.int .u8 (p:Int),z_ u,.string z,.slice l A c1,.slice n B c2] 111);have I:Fr wr (G.alloc (.cells #[.int .u8 (p:Int),z_ u,.string z,.slice l A c1,.slice n B c2] 111)) (λ_=>False):=(((A_ wr (λ_=>False)).alloc _).trans H.o u_).alloc _;have b7:=Bf.o.lt;have f4:wr.heap.size<G.heap.size:=b7;generalize G.alloc (.cells #[.int .u8 (p:Int),z_ u,.string z,.slice l A c1,.slice n B c2] 111)=W3 at *;generalize G.heap.size=bx at *;have D:=λ(b o:Nat) (v:Value) (h:wr.cell? ⟨b,o,none⟩=some v)=>(World.cell?_of_block (a:=⟨b,o,none⟩) (I.block b (zQ h) id)).trans h;have kf:=λ(o:Nat)=>(World.frozen?_of_block (a:=⟨g,o,none⟩) (I.block g b6 id)).trans (a6.o o);have K:=D _ _ _ a8;have w5:=D _ _ _ e5;have w6:=D _ (q*10+5+1) _ e6;have w7:=D _ (q*10+5+2) _ e7;have w8:=D _ (q*10+5+3) _ e8;have w9:=D _ (q*10+5+4) _ e9;have z5:=kf (q*10+5);have z6:=kf (q*10+5+1);have z7:=kf (q*10+5+2);have z8:=kf (q*10+5+3);have z9:=kf (q*10+5+4);obtain⟨L,N,O,Q,R⟩:=V.d5;replace U:=zy U;replace V:=zy V;replace S:=zy S;replace I:=zy I;clear D kf;refine tr_ 11 (λW=>f_ W bz (1+k*5+1) (S_ g (yM env k).length fc)/\f_ W bx 0 (.int .u8 (p:Int))/\f_ W bx 1 (z_ u)/\f_ W bx 2 (.string z)/\f_ W bx 3 (.slice l A c1)/\f_ W bx 4 (.slice n B c2)) ?_;refine tz_ 0 ?_;refine tz_ 1 ?_;refine tz_ 2 ?_;refine tz_ 3 ?_;refine tz_ 4 ?_;refine tz_ 5 ?_;refine tz_ 6 ?_;refine tz_ 7 ?_;refine tz_ 8 ?_;refine t1_ 9 ⟨K,L,N,O,Q,R⟩ ?_;refine t1_ 10 ⟨K,L,N,O,Q,R⟩ ?_;refine t1_ 11 ⟨K,L,N,O,Q,R⟩ ?_;refine td_ ?_ _;have M4:jq w P1 P2 bz s ts env rt (World.setCell (World.setCell (World.setCell (World.setCell (World.setCell W3 ⟨g,q*10+5,none⟩ (.int .u8 (p:Int))) ⟨g,q*10+5+1,none⟩ (z_ u)) ⟨g,q*10+5+2,none⟩ (.string z)) ⟨g,q*10+5+3,none⟩ (.slice l A c1)) ⟨g,q*10+5+4,none⟩ (.slice n B c2)):=((((U.o.store (q0:=q) 5 hg.o M_ ⟨_,rfl⟩).store (q0:=q) 6 hg.o M_ ⟨_,rfl⟩).store (q0:=q) 7 hg.o M_ ⟨_,rfl⟩).store (q0:=q) 8 hg.o M_ ⟨_,_,_,rfl⟩).store (q0:=q) 9 hg.o M_ ⟨_,_,_,rfl⟩;have E:jq w P1 P2 bz s ts env rt (World.setCell (World.setCell (World.setCell (World.setCell (World.setCell W3 ⟨g,q*10+5,none⟩ (.int .u8 (p:Int))) ⟨g,q*10+5+1,none⟩ (z_ u)) ⟨g,q*10+5+2,none⟩ (.string z)) ⟨g,q*10+5+3,none⟩ (.slice l A c1)) ⟨g,q*10+5+4,none⟩ (.slice n B c2)).drew:=M4.own ((A_ _ _).drew);have a7:Fr W3 (World.setCell (World.setCell (World.setCell (World.setCell (World.setCell W3 ⟨g,q*10+5,none⟩ (.int .u8 (p:Int))) ⟨g,q*10+5+1,none⟩ (z_ u)) ⟨g,q*10+5+2,none⟩ (.string z)) ⟨g,q*10+5+3,none⟩ (.slice l A c1)) ⟨g,q*10+5+4,none⟩ (.slice n B c2)).drew (λb=>b=g):=((((((A_ W3 (λb=>b=g)).setCell ⟨g,q*10+5,none⟩ (.int .u8 (p:Int)) (λ_=>rfl)).setCell ⟨g,q*10+5+1,none⟩ (z_ u) (λ_=>rfl)).setCell ⟨g,q*10+5+2,none⟩ (.string z) (λ_=>rfl)).setCell ⟨g,q*10+5+3,none⟩ (.slice l A c1) (λ_=>rfl)).setCell ⟨g,q*10+5+4,none⟩ (.slice n B c2) (λ_=>rfl)).drew;have T:=a7.bl S.o M_;clear M4 a7;generalize (World.setCell (World.setCell (World.setCell (World.setCell (World.setCell W3 ⟨g,q*10+5,none⟩ (.int .u8 (p:Int))) ⟨g,q*10+5+1,none⟩ (z_ u)) ⟨g,q*10+5+2,none⟩ (.string z)) ⟨g,q*10+5+3,none⟩ (.slice l A c1)) ⟨g,q*10+5+4,none⟩ (.slice n B c2)).drew=W5 at *;have b3:=T.c3;replace E:=zy E;replace T:=zy T;clear K L N O Q R w5 w6 w7 w8 w9 z5 z6 z7 z8 z9;cases J:r.isSome with
      |true=>
       go_wp2_with fail;go_roundg ((yM env k).length+1-(q+1));case measure=>omega
       case rel=>exact⟨q+1,M_,l_,by simp,by rw[F.o];unfold rG;rw[d.o];simp only;rw[<- C.o,hr.o,if_pos J],E.o⟩
      |false=>
       by_cases d2:m<0
       .go_wp2_with fail;go_roundg ((yM env k).length+1-(q+1));case measure=>omega
        case rel=>exact⟨q+1,M_,l_,by simp,by rw[F.o];unfold rG;rw[d.o];simp only;rw[<- C.o,hr.o,if_neg (by rw[J];decide),zX,if_pos (.inl d2)],E.o⟩
       .by_cases b5:(a:Int)<m
        .go_wp2_with fail;go_roundg ((yM env k).length+1-(q+1));case measure=>omega
         case rel=>exact⟨q+1,M_,l_,by simp,by rw[F.o];unfold rG;rw[d.o];simp only;rw[<- C.o,hr.o,if_neg (by rw[J];decide),zX,if_pos (.inr b5)],E.o⟩
        .go_wp2_with fail;go_roundg ((yM env k).length+1-(q+1));case measure=>omega
         case rel=>exact⟨q+1,M_,l_,by simp,by rw[F.o];unfold rG;rw[d.o];simp only;rw[<- C.o,hr.o,if_neg (by rw[J];decide),zX,if_neg (λx=>x.elim (λy=>M_) (λy=>M_))],E.o⟩
    .have d8:¬(q:Int)<((yM env k).length:Int):=M_;have d6:=zy (show lY s env ((yM env k).take q) (yL s env k)=yL s env (k+1) by rw[bv_ M_];rfl);rw[d6.o];clear a0;replace M:=zy M;go_wp2_with fail;go_roundg (7-(k+1));case measure=>omega
     case rel=>exact⟨k+1,M_,l_,by simp,rfl,M.o⟩
  .have b9:¬(k:Int)<6:=M_;have d:=zy (show k=6 by omega);replace M:=zy M;go_wp2_with fail;rw[Q_.o];exact⟨by rw[d.o],M.o⟩
def shB(N:Nat):PB->Prop
 | .recd fs=>(∀f∈fs,shT f.ty)/\fs.length<=N
 | .enum l _=>(∀c∈l.map Prod.fst,0<c)/\l.length<=N
 | .bytes n=>n<=9
def tq{s:BA}{f:PF}(h:zH s i=.ok (f,j)):shT f.ty:=by
 unfold zH at h;split at h
 .split at h
  .split at h
   .cases h
   .rename_i t k hp;have:=sH hp;split at h
    .split at h
     .cases h
     .simp only[ag_,ad_]at h;obtain⟨rfl,_⟩:=h;exact this
    .simp only[ag_,ad_]at h;obtain⟨rfl,_⟩:=h;exact this
  .cases h
 .cases h
def mf(s:BA):∀(n i:Nat) (l:List PF) (j:Nat),i<=s.size->yK s n i=.ok (l,j)->(∀f∈l,shT f.ty)/\i+l.length<=s.size:=by
 intro n;induction n with
 |zero=>intro i l j _ h;cases h
 |succ n ih=>
  intro i l j hi h;unfold yK at h;split at h
  .cases h
  .rename_i f k hf;have h1:=(xU hi).1 f k hf;have a:=tq hf;split at h
   .simp only[ag_,ad_]at h;obtain⟨rfl,_⟩:=h;exact⟨λg hg=>by rw[a1_]at hg;subst hg;exact a,by simp;omega⟩
   .split at h
    .rename_i o;have:=zc (s:=s) (i:=k) M_;split at h
     .cases h
     .rename_i fs e hr;simp only[ag_,ad_]at h;obtain⟨rfl,_⟩:=h;have d:=ih _ _ _ M_ hr;refine⟨λg hg=>?_,by rw[a6_];omega⟩;rcases ao_.1 hg with rfl|hg
      .exact a
      .exact d.1 g hg
    .cases h
def dA(s:BA):∀(n i:Nat) (l:List (Nat×Nat)) (j:Nat),vA s n i=.ok (l,j)->(∀c∈l.map Prod.fst,0<c)/\i+l.length<=s.size:=by
 intro n;induction n with
 |zero=>intro i l j h;cases h
 |succ n ih=>
  intro i l j h;unfold vA at h;split at h
  .rename_i hs;have h0:=xy hs;have h1:=zc h0;split at h
   .split at h
    .cases h
    .rename_i fs e hr;simp only[ag_,ad_]at h;obtain⟨rfl,_⟩:=h;have a:=ih _ _ _ hr;refine⟨λg hg=>?_,by rw[a6_];omega⟩;rw[aw_]at hg;rcases ao_.1 hg with rfl|hg
     .exact h0
     .exact a.1 g hg
   .simp only[ag_,ad_]at h;obtain⟨rfl,_⟩:=h;exact⟨λg hg=>by simp only[aw_,bd_,a1_]at hg;subst hg;exact h0,by simp;omega⟩
  .cases h
def iy{s:BA}(h:yZ s i=.ok (pb,j)):shB s.size pb:=by
 unfold yZ at h;split at h
 .rename_i n;have:=zc (s:=s) (i:=i) M_;split at h
  .cases h
  .rename_i fs k hp;simp only[ag_,ad_]at h;obtain⟨rfl,_⟩:=h;unfold yp at hp;split at hp
   .rename_i p;have:=zc (s:=s) (i:=i+1) M_;split at hp
    .simp only[ag_,ad_]at hp;obtain⟨rfl,_⟩:=hp;exact⟨λf hf=>by simp at hf,al_ _⟩
    .have:=mf s _ _ _ _ M_ hp;exact⟨this.1,M_⟩
   .cases hp
 .split at h
  .split at h
   .cases h
   .rename_i l o k hp;simp only[ag_,ad_]at h;obtain⟨rfl,_⟩:=h;unfold xz at hp;split at hp
    .split at hp
     .cases hp
     .rename_i g q a;have d:=dA s _ _ _ _ a;have fin:l=g->shB s.size (.enum l o):=λe=>by subst e;exact⟨d.1,M_⟩
      split at hp
      .split at hp
       .split at hp
        .simp only[ag_,ad_]at hp;exact fin hp.1.1.symm
        .cases hp
       .cases hp
      .split at hp
       .simp only[ag_,ad_]at hp;exact fin hp.1.1.symm
       .cases hp
    .cases hp
  .split at h
   .split at h
    .rename_i hd;simp only[ag_,ad_]at h;obtain⟨rfl,_⟩:=h;simp only[shB];omega
    .cases h
   .cases h
def cq11_{p:Prop}(h:p:=by
 intro n;induction n with
 |zero=>intro i ds e h d hd;simp only[yb,ag_,ad_]at h;rw[<- h.1]at hd;simp at hd
 |succ n ih=>
  intro i ds e h;unfold yb at h;split at h
  .split at h
   .split at h
    .cases h
    .rename_i pb j hp;split at h
     .split at h
      .cases h
      .rename_i ds' e' hr;simp only[ag_,ad_]at h;obtain⟨rfl,_⟩:=h;intro d hd;rcases ao_.1 hd with rfl|hd
       ·(first|(have:=cc1;exact⟨_,_,hp⟩)|(exact iy hp))
       .exact ih _ _ _ hr d hd
     .cases h
   .cases h
  .simp only[ag_,ad_]at h;obtain⟨rfl,_⟩:=h;intro d hd;simp at hd):p:=h
def tw(s:BA):∀(n i:Nat) (ds:List PD) (e:Nat),yb s n i=.ok (ds,e)->∀d∈ds,shB s.size d.body:=by
 exact cq11_
def vZ{s:BA}(h:ze s=.ok (ds,t)):(∀d∈ds,shB s.size d.body)/\shT t:=by
 unfold ze at h;split at h
 .cases h
 .rename_i ds' i hd;split at h
  .cases h
  .rename_i t' j a;split at h
   .cases h
   .simp only[ag_,ad_]at h;obtain⟨rfl,rfl⟩:=h;exact⟨tw s _ _ _ _ hd,sH a⟩
def zx(ds:List PD)(c:Nat):Option PB:=(xR 0 c ds).map Prod.fst
def qH{a:Nat}(h:xR b c ds=some (pb,a)):∃d∈ds,d.body=pb:=by
 induction ds generalizing b with
 |nil=>cases h
 |cons x r ih=>
  simp only[xR]at h;split at h
  .simp only[ah_,ad_]at h;exact⟨x,by simp,h.1⟩
  .obtain⟨d,hd,e⟩:=ih h;exact⟨d,by simp[hd],e⟩
def Wx{a:Nat}(h:xR b c ds=some (pb,a)):∃o,a=b+o/\∀q x,(pb.ts a)[q]?=some x->(yS b ds)[o+q]?=some x:=by
 induction ds generalizing b with
 |nil=>cases h
 |cons x r ih=>
  simp only[xR]at h;split at h
  .simp only[ah_,ad_]at h;obtain⟨rfl,rfl⟩:=h;refine⟨0,rfl,λq y hy=>?_⟩;rw[yS,bn_,ar_ (ae_.1 hy).1];exact hy
  .obtain⟨o,e,a⟩:=ih h;refine⟨(x.body.ts b).length+o,M_,λq y hy=>?_⟩;rw[yS,as_ M_,show(x.body.ts b).length+o+q-(x.body.ts b).length=o+q by omega];exact a q y hy
def iE(a:Nat)(m:Int):0<=zX (a:Int) m:=by
 unfold zX;split<;>omega
def wrU(env:Nat->Option PB)(us:List (Nat×Nat))(m:Int):Int:=us.foldl (λm u=>if (env u.1).isNone=true then zX (u.2:Int) m else m) m
def Zm{env:Nat->Option PB}{us:List (Nat×Nat)}(h:wrU env us m<0):m<0/\∀u∈us,∃pb,env u.1=some pb:=by
 induction us generalizing m with
 |nil=>exact⟨h,λu hu=>by simp at hu⟩
 |cons u r ih=>
  simp only[wrU,b2_]at h;obtain⟨h1,a⟩:=ih h;split at h1
  .have:=iE u.2 m;omega
  .rename_i hn;refine⟨h1,λv hv=>?_⟩;rcases ao_.1 hv with rfl|hv
   .cases he:env v.1 with
    |none=>rw[he]at hn;exact absurd rfl hn
    |some pb=>exact⟨pb,rfl⟩
   .exact a v hv
def JQ{env:Nat->Option PB}(hs:∀f∈fs,shT f.ty)(hu:∀u∈zY (fs.map PF.ty),∃pb,env u.1=some pb)(h:qM fs m<0):m<0/\∀f∈fs,okT env f.ty:=by
 induction fs generalizing m with
 |nil=>exact⟨h,λf hf=>by simp at hf⟩
 |cons f r ih=>
  simp only[qM,b2_]at h;simp only[aw_,zY]at hu;obtain⟨h1,d⟩:=ih (λg hg=>hs g (by simp[hg])) (λu h=>hu u (b1_ _ h)) h;have a:=ml env f.ty m (hs f (by simp)) h1 (λu h=>hu u (bu_ _ h));refine⟨a.1,λg hg=>?_⟩;rcases ao_.1 hg with rfl|hg
  .exact a.2
  .exact d g hg
def eF{env:Nat->Option PB}{N:Nat}(hs:∀d∈ds,shB N d.body)(hu:∀u∈vS ds,∃pb,env u.1=some pb)(h:jP ds m<0):m<0/\∀d∈ds,∀fs,d.body=.recd fs->∀f∈fs,okT env f.ty:=by
 induction ds generalizing m with
 |nil=>exact⟨h,λf hf=>by simp at hf⟩
 |cons d r ih=>
  simp only[jP,b2_]at h;simp only[vS]at hu;obtain⟨h1,k⟩:=ih (λg hg=>hs g (by simp[hg])) (λu h=>hu u (b1_ _ h)) h;have q:=hs d (by simp);cases hb:d.body with
  |recd fs=>
   rw[hb]at q h1 hu;have p:=JQ q.1 (λu h=>hu u (bu_ _ h)) h1;refine⟨p.1,λg hg e a=>?_⟩;rcases ao_.1 hg with rfl|hg
   .rw[hb]at a;cases a;exact p.2
   .exact k g hg e a
  |enum l o=>
   rw[hb]at h1;refine⟨h1,λg hg e a=>?_⟩;rcases ao_.1 hg with rfl|hg
   .rw[hb]at a;cases a
   .exact k g hg e a
  |bytes n=>
   rw[hb]at h1;refine⟨h1,λg hg e a=>?_⟩;rcases ao_.1 hg with rfl|hg
   .rw[hb]at a;cases a
   .exact k g hg e a
def pX{s:BA}{m0 m1:Int}(hs:s.size<=300)(hp:ze s=.ok (ds,t))(hw:wrU (zx ds) (vS ds++zZ t) m0<0)(hm:mix t (jP ds m1)<0):qU (zx ds)/\okT (zx ds) t/\(∀k,(yM (zx ds) k).length<=300)/\∀k f,f∈yM (zx ds) k->okT (zx ds) f.ty:=by
 obtain⟨h1,p⟩:=vZ hp;obtain⟨_,g⟩:=Zm hw;have h:=ml (zx ds) t _ p hm (λu hu=>g u (b1_ _ hu));have r:=(eF (env:=zx ds) h1 (λu hu=>g u (bu_ _ hu)) h.1).2;have body:∀c pb,zx ds c=some pb->shB s.size pb/\∀fs,pb=.recd fs->∀f∈fs,okT (zx ds) f.ty:=λc pb he=>by
  unfold zx at he;cases hl:xR 0 c ds with
  |none=>rw[hl]at he;cases he
  |some q=>
   obtain⟨z,v⟩:=q;rw[hl]at he;simp only[bz_,ah_]at he;subst he;obtain⟨d,hd,rfl⟩:=qH hl;exact⟨h1 d hd,λfs e=>r d hd fs e⟩
 have flds:∀k fs,yM (zx ds) k=fs->fs≠[]->zx ds (65+k)=some (.recd fs):=λk fs e a=>by
  unfold yM at e;split at e
  .rename_i y he;subst e;exact he
  .exact absurd e.symm a
 refine⟨λc pb he=>?_,h.2,λk=>?_,λk f hf=>?_⟩
 .obtain⟨b1,b2⟩:=body c pb he;cases pb with
  |recd fs=>exact b2 fs rfl
  |enum l o=>exact⟨b1.1,ak_ b1.2 hs⟩
  |bytes n=>exact b1
 .by_cases a:yM (zx ds) k=[]
  .rw[a];exact al_ _
  .exact ak_ (body _ _ (flds k _ rfl a)).1.2 hs
 .have a:yM (zx ds) k≠[]:=λe=>by rw[e]at hf;simp at hf
  exact(body _ _ (flds k _ rfl a)).2 _ rfl f hf
end Go.Proofs.YtjkiencmjggakaaGreatDoor
