import Derived.Test.YtiifagiebikmdaaGreatDoorW10
import Derived.Deep.DeepCutAuto
import Derived.Test.YtiifagiebikmdaaGreatDoorW01
import Derived.Test.YtiifagiebikmdaaGreatDoorA00
set_option maxHeartbeats 16000000
set_option maxRecDepth 100000
set_option linter.unusedSimpArgs false
open Go.Proofs.Tryz
namespace Go.Proofs.YtiifagiebikmdaaGreatDoor
open Go.RowKit
variable {ts:List TR}{env:Nat->Option PB}{s:BA}{pl:Bool}{w:World}{P:Nat->Prop}{bz i:Nat}
def zgg (ds:List DT):Option (List DT×Nat)->Option (List DT×Nat)
 | none=>none
 | some (l,e)=>some (ds++l,e)
theorem zpw (x:Option (List DT×Nat)):zgg [] x=x:=by
 match x with
 | none=>rfl
 | some (r,j)=>rfl
def zfz (R:PT->Nat->Option (DT×Nat)) (s:BA) (ds:List DT) (t:PT) (r:List PT) (j:Nat):Option (List DT×Nat):=
 match R t j with
 | none=>none
 | some (d,e)=>zgg (ds++[d]) (ya_ R s false r e)
theorem zhu (R:PT->Nat->Option (DT×Nat)) (s:BA) (ds:List DT) (first:Bool) (t:PT) (a:List PT) (j:Nat) :
 zgg ds (ya_ R s first (t::a) j)=if first=true then zfz R s ds t a j else if bt s j=44 then zfz R s ds t a (j+1) else none:=by
 conv=>lhs;rw[ya_]
 unfold zfz;split
 ·cases R t j with
  | none=>rfl
  | some q=>
   obtain⟨d,e⟩:=q;simp only
   cases ya_ R s false a e with
   | none=>rfl
   | some q=>simp[zgg]
 ·split
  ·cases R t (j+1) with
   | none=>rfl
   | some q=>
    obtain⟨d,e⟩:=q;simp only
    cases ya_ R s false a e with
    | none=>rfl
    | some q=>simp[zgg]
  ·rfl
def znt (s:BA):Option (List DT×Nat)->Option (DT×Nat)
 | none=>none
 | some (ds,j)=>if bt s j=41 then some (.mk 114 0 noB [] ds,j+1) else none
theorem zjf (R:PT->Nat->Option (DT×Nat)) (s:BA) (fs:List PF) (i:Nat):yo_ R s (.recd fs) i=znt s (if bt s i=40 then ya_ R s true (fs.map PF.ty) (i+1) else none):=by
 unfold yo_ znt
 by_cases a:bt s i=40
 ·simp only[if_pos a]
  rfl
 ·simp only[if_neg a]
def FInv (R_:Option (List DT×Nat)) (R:PT->Nat->Option (DT×Nat)) (fs:List PF) (i:Nat) (w:World) (P:Nat->Prop) (bl:Nat) (s:BA) (bz:Nat) (pl:Bool) (ts:List TR) (env:Nat->Option PB) (fa:Option Addr) (fc:Nat) (sb:BA) (o n:Int) (mm:Nat) (iv:Value) (W:World):Prop:=
 ∃ q:Nat,iv=.int .i64 (q:Int)/\q<=fs.length/\fs.length+1-q<=mm/\Blk W w.heap.size [.int .u8 114,.slice fa fs.length fc,.string sb,.int .i64 o,.int .i64 n] 44/\∃ sa m sc xs,
  ((∃ ds j,LM w P bl s bz pl j false ts env (w.heap.size+1) (w.heap.size+2) (w.heap.size+3) 114 (.slice none 0 0) (.slice sa m sc) [] m xs W/\Dts W (w.heap.size+3) (.slice none 0 0) (.slice sa m sc) ds m xs/\ds.length=q/\i+1+q<=j/\R_=zgg ds (ya_ R s (decide (q=0)) ((fs.map PF.ty).drop q) j))\/
   (∃ j,LM w P bl s bz pl j true ts env (w.heap.size+1) (w.heap.size+2) (w.heap.size+3) 114 (.slice none 0 0) (.slice sa m sc) [] m xs W/\R_=none))
def Out4 (R_:Option (List DT×Nat)) (R:PT->Nat->Option (DT×Nat)) (s:BA) (ds:List DT) (t:PT) (r:List PT) (j j':Nat) (bad':Bool):Prop:=
 (bad'=false/\j<=j'/\R_=zfz R s ds t r j')\/(bad'=true/\R_=none)
theorem LM.itemKeep {W a:World}{bl:Nat}{j:Nat}{bad:Bool}{b0 b1 B c:Nat}{vk vs:Value}{ks:List BA}{n:Nat}{xs:List Value}{o:Obj}{b t:Nat}{cs:List Value}(Q:LM w P bl s bz pl j bad ts env b0 b1 B c vk vs ks n xs W) (hg:(W.alloc o).grownBy a vs.ownBlock) (hb:Blk W b cs t) (h1:b<B) (f:b≠b1) (d:Value):Blk (a.setCell ⟨b1,4,none⟩ d) b cs t:=by
 have h:Fr W a (λ g=>vs.ownBlock=some g):=Fr.grown ((Fr.refl W _).alloc o) hg (λ k e _=>e);exact Blk.other (h.blk hb (λ e=>by have:=Q.vr.lt _ e;omega)) d f
theorem zrg {bl:Nat}{bad:Bool}{fv:Value}{sb:BA}{o n:Int}(M:DM w P bl s bz pl i bad ts env w) :
 LM w P bl s bz pl i bad ts env (w.heap.size+1) (w.heap.size+2) (w.heap.size+3) 114 (.slice none 0 0) (.slice none 0 0) [] 0 [] (nw w 114 fv sb o n):=
 ⟨nw_M M 114 fv sb o n,by omega,by simp[nw],nw_1 w 114 fv sb o n,nw_2 w 114 fv sb o n,World.ownsRow_nil _ _ _ _,World.ownsRow_nil _ _ _ _,λ g hg=>by simp[Value.ownBlock] at hg⟩
theorem zwo {f:Nat}{fs:List PF}(hR:∀ g∈fs,∀ j,i<j->j<=s.size->j9_ s env pl ts f g.ty j):NmOK s env pl ts f (.recd fs) i:=by
 intro w P bl bz so fv sb o n M hN;obtain⟨⟨fa,fn,N,rfl⟩,a7,rfl,g7,hown,a8⟩:=hN;have e7:=zl4 hown;subst e7;obtain⟨C,O⟩:∃ b8,b8=if bt s i=40 then ya_ (rdT s env pl f) s true (fs.map PF.ty) (i+1) else none:=⟨_,rfl⟩
 have e1:yo_ (rdT s env pl f) s (.recd fs) i=znt s C:=by rw[O];exact zjf _ _ _ _
 rw[e1];refine hq_ λ f7 Q_=>?_;have h6:=M.lt;have f3:=M.jl;have b7:=M.sl;have Y:=q_ (zrg (fv:=.slice fa fs.length N) (sb:=sb) (o:=o) (n:=n) M);have B0:=q_ (nw_0 w 114 (.slice fa fs.length N) sb o n);replace M:=q_ M;replace a7:=q_ a7;replace hown:=q_ hown;replace a8:=q_ a8;replace O:=q_ O;replace hR:=q_ hR;obtain⟨R,Q⟩:∃ R,R=rdT s env pl f:=⟨_,rfl⟩;replace Q:=q_ Q;clear e1
 go_in
 go_wp2_with (go_at_call 59;refine(xo_ 40 Y.o.M.L b7 f3 rfl (by decide)).mono ?_;rintro e w1 ⟨rfl,x⟩;obtain⟨E,d0,c,F,y⟩:=LEat.lm (by decide) Y.o x;have t:=Y.o.dts (Dts.nil _ _ _ _) F;have u:=q_ (F.blk B0.o (by omega));replace c:=q_ c;replace F:=q_ F;replace t:=q_ t;clear x)
 have a2:FInv C R fs i w P bl s bz pl ts env fa N sb o n (fs.length+1) (.int .i64 0) w1:=by
  refine⟨0,rfl,by omega,by omega,u.o,none,0,0,[],?_⟩
  rcases y.o with⟨_,a3,rfl,rfl⟩|⟨a3,_,rfl⟩
  ·refine .inl ⟨[],i+1,c.o,t.o,rfl,by omega,?_⟩;rw[O.o,if_pos a3,Q.o,zpw]
   rfl
  ·refine .inr ⟨E,c.o,?_⟩;rw[O.o,if_neg (by simpa using a3)]
 replace a2:=q_ a2;clear c t u F y Y B0
 go_loopg [6] (fs.length+1) (λ mm iv W=>FInv C R fs i w P bl s bz pl ts env fa N sb o n mm iv W)
 case atStart=>exact a2.o
 case round=>
  clear a2;obtain⟨q,rfl,hq,hm,X,k,m,l,xs,hG|hB⟩:=hrel
  ·obtain⟨ds,j,a,D,a6,h4,p⟩:=hG;have d7:=a.M.jl;have c2:=a.M.L.c2;have x1:=X.c1
   have f4:m=q:=by have:=D.1;omega
   subst f4;replace X:=q_ X;replace D:=q_ D;replace a6:=q_ a6
   by_cases S:m<fs.length
   ·have h7:(m:Int)<(fs.length:Int):=by omega
    obtain⟨g,hg⟩:∃ g,fs[m]?=some g:=⟨_,an_ S⟩;have a9:g∈fs:=aw_ hg;obtain⟨num,b5,b4⟩:=a8.o m g hg;obtain⟨gf,cf,d6⟩:=zh_ hown.o (by omega);simp only[Value.slice.injEq,true_and] at d6;obtain⟨rfl,rfl⟩:=d6;obtain⟨rest,a1⟩:∃ b8,b8=(fs.map PF.ty).drop (m+1):=⟨_,rfl⟩
    have d2:(fs.map PF.ty).drop m=g.ty::rest:=by
     rw[a1,a7_ (by simpa using S)]
     congr 1
     rw[List.getElem_map]
     congr 1
     exact(as_.1 hg).2
    rw[d2,zhu] at p
    have h8:m<=4000:=by omega
    replace p:=q_ p;replace a1:=q_ a1;replace b5:=q_ b5;replace b4:=q_ b4;replace a9:=q_ a9;replace a:=q_ a;clear d2 hg S
    go_upto_if 32 with fail
    go_cut [] (λ W=>∃ j' b9,LM w P bl s bz pl j' b9 ts env (w.heap.size+1) (w.heap.size+2) (w.heap.size+3) 114 (.slice none 0 0) (.slice k m l) [] m xs W/\Dts W (w.heap.size+3) (.slice none 0 0) (.slice k m l) ds m xs/\Blk W w.heap.size [.int .u8 114,.slice (some ⟨gf,0,none⟩) fs.length N,.string sb,.int .i64 o,.int .i64 n] 44/\Out4 C R s ds g.ty rest j j' b9)
    case first=>
     by_cases e0:m=0
     ·subst e0
      go_wp2_with fail
      go_meet
      case rel=>exact⟨j,false,a.o,D.o,X.o,.inl ⟨rfl,l_,by rw[p.o];exact if_pos (by decide)⟩⟩
     ·have h0:(0:Int)<(m:Int):=by omega
      go_wp2_with (go_at_call 59;refine(xo_ 44 a.o.M.L b7 d7 rfl (by decide)).mono ?_;rintro e w2 ⟨rfl,x⟩;obtain⟨j2,d1,b,V,y⟩:=LEat.lm (by decide) a.o x;have A:=a.o.dts D.o V;have X2:=q_ (V.blk X.o (by omega));replace b:=q_ b;replace A:=q_ A;clear x)
      go_meet
      case rel=>
       refine⟨j2,d1,b.o,A.o,X2.o,?_⟩;have z:=p.o;rw[if_neg (by simpa using e0)] at z
       rcases y.o with⟨_,a5,rfl,rfl⟩|⟨a5,_,rfl⟩
       ·exact .inl ⟨rfl,by omega,by rw[z,if_pos a5]⟩
       ·exact .inr ⟨rfl,by rw[z,if_neg (by simpa using a5)]⟩
    case rest=>
     clear x1 c2 X D;obtain⟨E,d0,c,t,u,o1⟩:=hcut;have f2:=c.M.jl;have f9:=c.M.L.c2
     cases d0 with
     | true=>
      have r:C=none:=by
       rcases o1 with⟨h,_⟩|⟨_,h⟩
       ·cases h
       ·exact h
      replace c:=q_ c;replace t:=q_ t;replace u:=q_ u;replace r:=q_ r;clear o1
      go_wp2_with fail
      go_roundg (fs.length+1-(m+1))
      case measure=>omega
      case rel=>exact⟨m+1,by simp,by omega,l_,u.o,k,m,l,xs,.inr ⟨E,c.o,r.o⟩⟩
     | false=>
      have e4:j<=E/\C=zfz R s ds g.ty rest E:=by
       rcases o1 with⟨_,h⟩|⟨h,_⟩
       ·exact h
       ·cases h
      obtain⟨h5,r⟩:=e4;have x1:=u.c1;have d9:=za_ hown.o c.M.fr (λ g hg e=>c.M.nP (e▸a7.o g hg));have e2:=zp_ d9 rfl b5.o;rw[a2_] at e2;obtain⟨ti,e8,e9,f0,f1⟩:=info_parts zif;have hC:=q_ (hR.o g a9.o E (by omega) f2 wc P bl bz num c.M.here b4.o);have g8:=c.bB;replace c:=q_ c;replace t:=q_ t;replace u:=q_ u;replace r:=q_ r;clear o1 d9
      go_wp2_with (first
       |(go_at_call 34;refine hC.o.mono ?_;intro e w3 hP;obtain⟨I,J,K,G,T,c1,H,U,c2,j3,f8,rfl,Z,F3,y⟩:=z6_.lm c.o hP;have D3:=c.o.dts t.o F3;have X3:=F3.blk u.o (by omega);have B:=Z.alloc (.cells (zb_ I J K (.slice G T c1) (.slice H U c2)).toArray 37);have D4:=D3.alloc (.cells (zb_ I J K (.slice G T c1) (.slice H U c2)).toArray 37);have X4:=X3.alloc (.cells (zb_ I J K (.slice G T c1) (.slice H U c2)).toArray 37);have t4:=B.r1.cell 4;simp only[zb_,aa_,ab_] at t4;have g9:=Z.bB;replace Z:=q_ Z;replace D3:=q_ D3;replace B:=q_ B;replace D4:=q_ D4;replace X3:=q_ X3;replace X4:=q_ X4;clear hP)
       |(at_builtin;go_must (refine wpList_append_own_at _ rfl _ _ 35 rfl (w.heap.size+3) 37 ti _ 5 80 zhm e8 e9 f0 f1 rfl (by decide) (.slice k m l) m xs rfl ?hown _ 1 1 (zb_ I J K (.slice G T c1) (.slice H U c2)) rfl rfl (z7_ _ (zb_ I J K (.slice G T c1) (.slice H U c2)).toArray _ _ ?nn) ?one ?b1 ?b2 ?b3 ?_)
         case hown=>exact World.ownsRow.alloc B.o.vr _
         case nn=>simp
         case one=>simp[zb_,Value.oneCell']
         case b1=>unfold maxLen;omega
         case b2=>omega
         case b3=>simp;omega
         intro v5 w5 b6 a0 f6 d8
         have I5:=B.o.item a0 b6 d8
         have X5:=B.o.itemKeep a0 X4.o (by omega) (by omega) v5
         obtain⟨e5,f5⟩:=B.o.itemCell a0
         obtain⟨g5,g6,rfl⟩:=zh_ b6 (by omega)
         clear a0 d8 f6 b6
         replace I5:=q_ I5
         replace X5:=q_ X5))
      obtain⟨Q5,e3⟩:=I5.o
      rcases y.o with⟨d,z,rfl,e6⟩|⟨z,rfl⟩
      ·have h3:=zam s env pl f g.ty E d j3 z;have D5:=e3 _ d D4.o (e6.fr ((Fr.refl w3 (λ _=>False)).alloc _) u_)
       go_roundg (fs.length+1-(m+1))
       case measure=>omega
       case rel=>
        refine⟨m+1,by simp,by omega,l_,X5.o,_,m+1,_,_,.inl ⟨ds++[d],j3,Q5,D5,by rw[ah_,am_,a6.o],by omega,?_⟩⟩;rw[r.o,zfz,Q.o,z,<- a1.o]
        rfl
      ·go_roundg (fs.length+1-(m+1))
       case measure=>omega
       case rel=>
        refine⟨m+1,by simp,by omega,l_,X5.o,_,m+1,_,_,.inr ⟨j3,Q5,?_⟩⟩;rw[r.o,zfz,Q.o,z]
   ·have h2:¬ ((m:Int)<(fs.length:Int)):=by omega
    have he:m=fs.length:=by omega
    have r:=q_ (show C=some (ds,j) by rw[p,he,List.drop_of_length_le (by simp)];simp[ya_,zgg]);replace he:=q_ he;clear p S;replace a:=q_ a
    go_wp2_with (go_at_call 59;refine(xo_ 41 a.o.M.L b7 d7 rfl (by decide)).mono ?_;rintro e w2 ⟨rfl,x⟩;obtain⟨j2,d1,b,V,y⟩:=LEat.lm (by decide) a.o x;have A:=a.o.dts D.o V;have r0:=b.r0.cell 0;have r1:=b.r0.cell 1;have r2:=b.r0.cell 2;have r3:=b.r0.cell 3;have r4:=b.r0.cell 4;obtain⟨g0,g1,g2,g3,g4⟩:=b.r0.t5;have t0:=b.r1.cell 0;have t1:=b.r1.cell 1;have t2:=b.r1.cell 2;have t3:=b.r1.cell 3;have t4:=b.r1.cell 4;simp only[zg_,zb_,aa_,ab_,af_] at r0 r1 r2 r3 r4 t0 t1 t2 t3 t4;have R0:=q_ b.r0;replace b:=q_ b;replace A:=q_ A;clear x)
    have L5:=Blk.five R0.o (.int .u8 114) (.int .i64 0) (.string noB) (.slice none 0 0) (.slice k m l);obtain⟨q0,q1,q2,q3,q4⟩:=L5.d5;have hF:=Fr.five w2 (w.heap.size+1) (.int .u8 114) (.int .i64 0) (.string noB) (.slice none 0 0) (.slice k m l);generalize (((((World.setCell w2 ⟨w.heap.size+1,0,none⟩ (.int .u8 114)).setCell ⟨w.heap.size+1,1,none⟩ (.int .i64 0)).setCell ⟨w.heap.size+1,2,none⟩ (.string noB)).setCell ⟨w.heap.size+1,3,none⟩ (.slice none 0 0)).setCell ⟨w.heap.size+1,4,none⟩ (.slice k m l))=W5 at *;refine bodyPost_ret (v:=.agg (zb_ 114 0 noB (.slice none 0 0) (.slice k m l)).toArray) (by simp[results,results65,go_sem,q0,q1,q2,q3,q4,zb_]) rfl ?_;rw[Q_.o]
    rcases y.o with⟨_,a4,rfl,rfl⟩|⟨a4,_,rfl⟩
    ·exact zc6 (w.heap.size+1) (by omega) b.o.M ((b.o.dval A.o 114).mono (λ g _ hg=>⟨by omega,by omega⟩)) hF (by rw[r.o];exact if_pos a4)
    ·exact zc7 (w.heap.size+1) (by omega) b.o.M ⟨_,_,_,rfl⟩ ⟨_,_,_,rfl⟩ hF (by rw[r.o];exact if_neg (by simpa using a4))
  ·obtain⟨j,a,p⟩:=hB;have c2:=a.M.L.c2;have x1:=X.c1;have r0:=a.r0.cell 0;have r1:=a.r0.cell 1;have r2:=a.r0.cell 2;have r3:=a.r0.cell 3;have r4:=a.r0.cell 4;obtain⟨g0,g1,g2,g3,g4⟩:=a.r0.t5;have t0:=a.r1.cell 0;have t1:=a.r1.cell 1;have t2:=a.r1.cell 2;have t3:=a.r1.cell 3;have t4:=a.r1.cell 4;simp only[zg_,zb_,aa_,ab_,af_] at r0 r1 r2 r3 r4 t0 t1 t2 t3 t4;have R0:=q_ a.r0;replace a:=q_ a;replace X:=q_ X;replace p:=q_ p
   by_cases S:(q:Int)<(fs.length:Int)
   all_goals
    go_wp2_with fail
    have L5:=Blk.five R0.o (.int .u8 114) (.int .i64 0) (.string noB) (.slice none 0 0) (.slice k m l);obtain⟨q0,q1,q2,q3,q4⟩:=L5.d5;have hF:=Fr.five wr (w.heap.size+1) (.int .u8 114) (.int .i64 0) (.string noB) (.slice none 0 0) (.slice k m l);generalize (((((World.setCell wr ⟨w.heap.size+1,0,none⟩ (.int .u8 114)).setCell ⟨w.heap.size+1,1,none⟩ (.int .i64 0)).setCell ⟨w.heap.size+1,2,none⟩ (.string noB)).setCell ⟨w.heap.size+1,3,none⟩ (.slice none 0 0)).setCell ⟨w.heap.size+1,4,none⟩ (.slice k m l))=W5 at *;refine bodyPost_ret (v:=.agg (zb_ 114 0 noB (.slice none 0 0) (.slice k m l)).toArray) (by simp[results,results65,go_sem,q0,q1,q2,q3,q4,zb_]) rfl ?_;rw[Q_.o];exact zc7 (w.heap.size+1) (by omega) a.o.M ⟨_,_,_,rfl⟩ ⟨_,_,_,rfl⟩ hF (by rw[p.o];rfl)
open Go.RowKit
theorem ZAt.named (h:ZAt w P bz ts env){q:Nat}(d:q<6){pb:PB}(b:env (65+q)=some pb) :
 ∃ (so:Int) (fv:Value) (sb:BA) (o n:Int),zci w P ts pb so fv sb n/\w.cell? ⟨bz,1+q*5,none⟩=some (.int .u8 so)/\w.cell? ⟨bz,1+q*5+1,none⟩=some fv/\w.cell? ⟨bz,1+q*5+2,none⟩=some (.string sb)/\w.cell? ⟨bz,1+q*5+3,none⟩=some (.int .i64 o)/\w.cell? ⟨bz,1+q*5+4,none⟩=some (.int .i64 n):=by
 obtain⟨tv,zs,a,_,c⟩:=h.z;obtain⟨so,fv,sb,o,n,c1,c2⟩:=c q d pb b
 have key:∀ p,p<5->w.cell? ⟨bz,1+q*5+p,none⟩=[Value.int .u8 so,fv,Value.string sb,Value.int .i64 o,Value.int .i64 n][p]?:=λ p b=>by
  rw[a.cell,show 1+q*5+p=(5*q+p)+1 by omega,ab_];exact c1 p b
 exact⟨so,fv,sb,o,n,c2,key 0 (by omega),key 1 (by omega),key 2 (by omega),key 3 (by omega),key 4 (by omega)⟩
theorem za4 (q c:Nat) (h:c=65+q) (a:q<6):IntKind.i64.wrap (IntKind.i64.wrap (c:Int)-65)=(q:Int):=by
 subst h
 match q,a with
 | 0,_=>rfl
 | 1,_=>rfl
 | 2,_=>rfl
 | 3,_=>rfl
 | 4,_=>rfl
 | 5,_=>rfl
theorem zuv {f p c:Nat}{pb:PB}(hc:z5_ c=true) (R:env c=some pb) (a0:NmOK s env pl ts f pb i):j9_ s env pl ts (f+1) (.leaf c p) i:=by
 intro w P bl bz k M hk;simp only[isT] at hk
 have b8:65<=c/\c<=70:=by simpa[z5_] using hc
 obtain⟨q,S⟩:∃ q,c=65+q:=⟨c-65,by omega⟩
 have a4:q<6:=by omega
 obtain⟨g,m,b7,sv,z0,d0,z1,z2,ho,a3⟩:=M.Z.type hk;simp only at z1
 have a5:rdT s env pl (f+1) (.leaf c p) i=yo_ (rdT s env pl f) s pb i:=by
  simp only[rdT];unfold xx_;rw[if_neg (by omega),if_neg (by omega),if_neg (by omega),if_neg (by omega),R]
 rw[a5];refine hq_ λ b5 Q_=>?_;have d6:=M.lt;have d7:=zk_ z0;have d8:=zk_ z1;have c3:=M.L.c3;have c2:=M.L.c2;have b9:=M.jl;have e0:=M.sl;obtain⟨C,sn,D,rfl⟩:=zn_ ho;have M0:=q_ (dw_M M c (.slice C sn D));have B0:=q_ (dw_0 w c (.slice C sn D));have B1:=q_ (dw_1 w c (.slice C sn D));have a2:=q_ (show(dw w c (.slice C sn D)).heap.size=w.heap.size+3 by simp[dw]);have d2:=λ X Y Z=>zl_ c2 X Y Z
 have d1:(k:Int)<(m:Int):=by omega
 have n1:((c:Int)==110)=false:=by simp;omega
 have n2:((c:Int)==116)=false:=by simp;omega
 have n3:((c:Int)==105)=false:=by simp;omega
 have n4:((c:Int)==108)=false:=by simp;omega
 have n5:((c:Int)==115)=false:=by simp;omega
 have n6:((c:Int)==91)=false:=by simp;omega
 have n7:((c:Int)==123)=false:=by simp;omega
 have n8:((c:Int)==40)=false:=by simp;omega
 replace M:=q_ M;replace ho:=q_ ho;replace a3:=q_ a3;replace hk:=q_ hk;replace a0:=q_ a0;replace R:=q_ R;replace S:=q_ S;clear a5 hc
 go_in
 go_wp2_with fail
 change Code.wp _ _ _ _ (dw w c (.slice C sn D));generalize dw w c (.slice C sn D)=W0 at *;have A:=M0.o.still (zd_.drew W0);obtain⟨so,fv,sb,o,n,Q,y0,y1,y2,y3,y4⟩:=A.Z.named a4 (by rw[<- S.o];exact R.o);obtain⟨fa,fn,fc,rfl⟩:=Q.1;have u3:=A.L.c3;have u0:=B1.o.c0;have b:=za4 q c S.o a4
 have d9:(q:Int)<6:=by omega
 have hC:=q_ (a0.o _ P bl bz so (.slice fa fn fc) sb o n A.here Q);replace Q:=q_ Q;refine zx_ 14 (λ W=>(W.cell? ⟨bl,3,none⟩=some (.pointer (some ⟨bz,0,none⟩))/\W.cell? ⟨w.heap.size+1,0,none⟩=some (.int .u8 (c:Int))/\W.cell? ⟨bz,1+q*5,none⟩=some (.int .u8 so)/\W.cell? ⟨bz,1+q*5+1,none⟩=some (.slice fa fn fc)/\W.cell? ⟨bz,1+q*5+2,none⟩=some (.string sb)/\W.cell? ⟨bz,1+q*5+3,none⟩=some (.int .i64 o)/\W.cell? ⟨bz,1+q*5+4,none⟩=some (.int .i64 n))) (by kernel_rfl) ?_;refine tb_ 0 rfl (by kernel_rfl) (λ _ _ _ h=>h) (by rfl) (by rintro W ⟨h1,j,l,r,t,u,x⟩;go_simp<;>first|rfl|exact b) ?_;refine tb_ 1 rfl (by kernel_rfl) (λ _ _ _ h=>h) (by rfl) (by rintro W ⟨h1,j,l,r,t,u,x⟩;go_simp<;>first|rfl|exact b) ?_;refine tb_ 2 rfl (by kernel_rfl) (λ _ _ _ h=>h) (by rfl) (by rintro W ⟨h1,j,l,r,t,u,x⟩;go_simp<;>first|rfl|exact b) ?_;refine tb_ 3 rfl (by kernel_rfl) (λ _ _ _ h=>h) (by rfl) (by rintro W ⟨h1,j,l,r,t,u,x⟩;go_simp<;>first|rfl|exact b) ?_;refine tb_ 4 rfl (by kernel_rfl) (λ _ _ _ h=>h) (by rfl) (by rintro W ⟨h1,j,l,r,t,u,x⟩;go_simp<;>first|rfl|exact b) ?_;refine tb_ 5 rfl (by kernel_rfl) (λ _ _ _ h=>h) (by rfl) (by rintro W ⟨h1,j,l,r,t,u,x⟩;go_simp<;>first|rfl|exact b) ?_;refine tb_ 6 rfl (by kernel_rfl) (λ _ _ _ h=>h) (by rfl) (by rintro W ⟨h1,j,l,r,t,u,x⟩;go_simp<;>first|rfl|exact b) ?_;refine tb_ 7 rfl (by kernel_rfl) (λ _ _ _ h=>h) (by rfl) (by rintro W ⟨h1,j,l,r,t,u,x⟩;go_simp<;>first|rfl|exact b) ?_;refine zai 8 (.int .i64 (q:Int)) rfl (by kernel_rfl) (λ _ _ _ h=>h) (by rfl) ?y8 ?_
 case y8=>(rintro W ⟨h1,j,l,r,t,u,x⟩;go_simp<;>first|rfl|exact b)
 refine tb_ 9 rfl (by kernel_rfl) (λ _ _ _ h=>h) (by rfl) (by rintro W ⟨h1,j,l,r,t,u,x⟩;go_simp<;>first|rfl|exact b) ?_;refine tb_ 10 rfl (by kernel_rfl) (λ _ _ _ h=>h) (by rfl) (by rintro W ⟨h1,j,l,r,t,u,x⟩;go_simp<;>first|rfl|exact b) ?_;refine tb_ 11 rfl (by kernel_rfl) (λ _ _ _ h=>h) (by rfl) (by rintro W ⟨h1,j,l,r,t,u,x⟩;go_simp<;>first|rfl|exact b) ?_;refine tb_ 12 rfl (by kernel_rfl) (λ _ _ _ h=>h) (by rfl) (by rintro W ⟨h1,j,l,r,t,u,x⟩;go_simp<;>first|rfl|exact b) ?_;refine ze_ 13 rfl (by kernel_rfl) (λ _=>⟨u3,u0,y0,y1,y2,y3,y4⟩) (λ K G=>?_);go_simp;refine hC.o.mono ?_;intro e y hP;obtain⟨J,N,O,H,T,c1,I,U,c2,j2,b6,rfl,F,E,a7⟩:=z6_.any A hP;refine G _ _ ?_;clear G K hP;have z:=E.blk B0.o (by omega);have D1:=E.blk B1.o (by omega);have r0:=z.cell 0;have r1:=z.cell 1;have r2:=z.cell 2;have r3:=z.cell 3;have r4:=z.cell 4;obtain⟨g0,g1,g2,g3,g4⟩:=z.t5;simp only[zg_,zb_,aa_,ab_,af_] at r0 r1 r2 r3 r4
 have a8:bz<W0.heap.size:=by rw[a2.o];omega
 have a9:bz≠bl:=λ e=>A.nP (e▸A.Z.zP);have B:∀ V,y.cell? ⟨bz,V,none⟩=W0.cell? ⟨bz,V,none⟩:=λ V=>World.cell?_of_block (a:=⟨bz,V,none⟩) (E.block bz a8 a9);have a6:=D1.c0;have a1:(y.cell? ⟨bl,3,none⟩=some (.pointer (some ⟨bz,0,none⟩))/\y.cell? ⟨w.heap.size+1,0,none⟩=some (.int .u8 (c:Int))/\y.cell? ⟨bz,1+q*5,none⟩=some (.int .u8 so)/\y.cell? ⟨bz,1+q*5+1,none⟩=some (.slice fa fn fc)/\y.cell? ⟨bz,1+q*5+2,none⟩=some (.string sb)/\y.cell? ⟨bz,1+q*5+3,none⟩=some (.int .i64 o)/\y.cell? ⟨bz,1+q*5+4,none⟩=some (.int .i64 n)):=⟨F.L.c3,a6,(B _).trans y0,(B _).trans y1,(B _).trans y2,(B _).trans y3,(B _).trans y4⟩;refine ze_ 14 rfl (by kernel_rfl) (λ _=>a1) (λ K G=>?_);go_simp;refine G _ _ ?_;clear G K;refine zq_ (by kernel_rfl) (λ hm=>absurd hm (by decide)) ?_ _;replace A:=q_ A;replace F:=q_ F;replace E:=q_ E;replace z:=q_ z;clear D1 B a1 a6 y0 y1 y2 y3 y4 u3 u0
 go_wp2_with fail
 have L5:=Blk.five z.o (.int .u8 (J:Int)) (.int .i64 N) (.string O) (.slice H T c1) (.slice I U c2);obtain⟨q0,q1,q2,q3,q4⟩:=L5.d5;have hF:=Fr.five y (w.heap.size) (.int .u8 (J:Int)) (.int .i64 N) (.string O) (.slice H T c1) (.slice I U c2);generalize (((((World.setCell y ⟨w.heap.size,0,none⟩ (.int .u8 (J:Int))).setCell ⟨w.heap.size,1,none⟩ (.int .i64 N)).setCell ⟨w.heap.size,2,none⟩ (.string O)).setCell ⟨w.heap.size,3,none⟩ (.slice H T c1)).setCell ⟨w.heap.size,4,none⟩ (.slice I U c2))=W5 at *;refine bodyPost_ret (v:=.agg (zb_ J N O (.slice H T c1) (.slice I U c2)).toArray) (by simp[results,results34,go_sem,q0,q1,q2,q3,q4,zb_]) rfl ?_;rw[Q_.o]
 rcases a7.o with⟨d,hr,rfl,b4⟩|⟨hr,rfl⟩
 ·exact x9_ F.o (b4.mono (λ g _ hg=>by have:W0.drew.heap.size=W0.heap.size:=rfl;rw[this,a2.o] at hg;omega)) hF hr
 ·exact v4_ F.o ⟨_,_,_,rfl⟩ ⟨_,_,_,rfl⟩ hF hr
open Go.RowKit
def zza (s:BA) (env:Nat->Option PB) (pl:Bool) (ts:List TR) (f:Nat) (l:List PT) (i:Nat):Prop:=
 ∀ t∈l,∀ j,(pl=true->j=i)->(pl=false->i<j)->j<=s.size->j9_ s env pl ts f t j
theorem zy1 (r:zhz env) (q:∀ f l i,l≠[]->i<=s.size->zza s env pl ts f l i->BrOK s env pl ts f l i) :
 ∀ (f:Nat) (t:PT) (i:Nat),okT env t->i<=s.size->2*(s.size-i)+(if t.isAlts=true then 1 else 0)<f->j9_ s env pl ts f t i:=by
 intro f
 induction f with
 | zero=>intro t i _ _ h;omega
 | succ f ih=>
  intro t i k v e
  have b:∀ u j,okT env u->i<j->j<=s.size->t.isAlts=false->j9_ s env pl ts f u j:=λ u j hu h1 a d=>ih u j hu a (by
   rw[d] at e
   simp only[a3_,if_false] at e
   split<;>omega)
  cases t with
  | leaf c p=>
   rcases k with hb|⟨hn,pb,m⟩
   ·simp only[yc_,ax_,beq_iff_eq] at hb
    rcases hb with(((rfl|rfl)|rfl)|rfl)|rfl
    ·exact zz9
    ·exact zz7
    ·exact z0c
    ·exact z0b
    ·exact zz8
   ·refine zuv hn m ?_;have hB:=r c pb m
    cases pb with
    | recd fs=>exact zwo (λ g hg j h1 a=>b g.ty j (hB g hg) h1 a rfl)
    | enum l o=>exact zwp hB.1 hB.2
    | bytes n=>exact zt7
  | wrap c p u=>
   obtain⟨hc,hu⟩:=k
   rcases hc with rfl|rfl
   ·exact zpk (λ j h1 a=>b u j hu h1 a rfl)
   ·exact zmk (λ j h1 a=>b u j hu h1 a rfl)
  | alts p l=>
   obtain⟨hl,y⟩:=k;refine zuw hl (q f l i hl v (λ u hu j h1 a d=>?_));obtain⟨x,z⟩:=zfo y u hu
   have A:i<=j:=by
    cases pl with
    | true=>have:=h1 rfl;omega
    | false=>have:=a rfl;omega
   refine ih u j z d ?_;rw[x];simp only[PT.isAlts,if_true] at e;simp only[a3_,if_false];omega
theorem zsf (a:zhz env){t:PT}(d:okT env t):j9_ s env true ts (2*s.size+2) t 0:=by
 refine zy1 a (λ f l i hl c b=>zuz hl (λ t h=>b t h i (λ _=>rfl) (λ h=>by cases h) c)) _ t 0 d o_ ?_;split<;>omega
open Go.RowKit
def vp_ (env:Nat->Option PB) (pl:Bool) (t:PT) (s:BA):Option DT:=
 match rdT s env pl (2*s.size+2) t 0 with
 | none=>none
 | some (d,j)=>if j=s.size then some d else none
def zny (w:World) (r:Option DT) (e:Ending) (w':World):Prop:=
 ∃ (k:Nat) (n:Int) (tx:BA) (a1:Option Addr) (m1 c1:Nat) (a2:Option Addr) (m2 c2:Nat),e=.returned (.tuple #[.agg #[.int .u8 (k:Int),.int .i64 n,.string tx,.slice a1 m1 c1,.slice a2 m2 c2],.bool r.isSome])/\Fr w w' (λ _=>False)/\
  ∀ d,r=some d->DVal w' (λ g=>w.heap.size<=g) d (zb_ k n tx (.slice a1 m1 c1) (.slice a2 m2 c2))
def lw (w:World) (s:BA) (bz:Nat) (pl:Bool):World:=
 (w.alloc (.cells zg_.toArray 37)).alloc (.cells #[.string s,.int .i64 0,.bool false,.pointer (some ⟨bz,0,none⟩),.bool pl] 98)
theorem lw_M (Z:ZAt w P bz ts env) (hP:∀ g,P g->g<w.heap.size) (hs:s.size<=4000):DM (lw w s bz pl) P (w.heap.size+1) s bz pl 0 false ts env (lw w s bz pl):=by
 refine⟨?_,Z.fr (((Fr.refl w (λ _=>False)).alloc _).alloc _) u_,λ h=>by have:=hP _ h;omega,λ g hg=>by have:=hP g hg;simp[lw];omega,by simp[lw],Fr.refl _ _,ak_ _,hs⟩;have:=Blk.new (w.alloc (.cells zg_.toArray 37)) #[.string s,.int .i64 0,.bool false,.pointer (some ⟨bz,0,none⟩),.bool pl] 98
 have e:(w.alloc (.cells zg_.toArray 37)).heap.size=w.heap.size+1:=by simp
 rw[e] at this;exact this
theorem zv9 {k:Nat}{t:PT}(Z:ZAt w P bz ts env) (hP:∀ g,P g->g<w.heap.size) (hs:s.size<=4000) (hk:isT ts k t) (hD:j9_ s env pl ts (2*s.size+2) t 0) :
 Calls prog 19 #[.pointer (some ⟨bz,0,none⟩),.string s,.int .i64 (k:Int),.bool pl] w (zny w (vp_ env pl t s)):=by
 refine hq_ λ a6 Q_=>?_;have M0:=q_ (lw_M (s:=s) (pl:=pl) Z hP hs);have B0:=q_ (show Blk (lw w s bz pl) w.heap.size zg_ 37 from(Blk.new w _ _).alloc _);have a1:=q_ (show(lw w s bz pl).heap.size=w.heap.size+2 by simp[lw]);have F0:=q_ (show Fr w (lw w s bz pl) (λ _=>False) from((Fr.refl w _).alloc _).alloc _);replace Z:=q_ Z;replace hk:=q_ hk;replace hD:=q_ hD;replace hP:=q_ hP
 go_in
 go_wp2_with (go_at_call 34;refine(hD.o _ P (w.heap.size+1) bz k M0.o hk.o).mono ?_;intro e C hQ;obtain⟨p,q,r,m,u,c1,n,y,c2,G,a2,rfl,M2,J,a3⟩:=z6_.any M0.o hQ;have D0:=q_ (J.blk B0.o (by omega));replace M2:=q_ M2;replace J:=q_ J;clear hQ)
 change Code.wp _ _ _ _ (C.alloc (.cells #[.int .u8 (p:Int),.int .i64 q,.string r,.slice m u c1,.slice n y c2] 37));have a5:=J.o.size;rw[a1.o] at a5;have H:=M2.o.alloc (.cells #[.int .u8 (p:Int),.int .i64 q,.string r,.slice m u c1,.slice n y c2] 37);have A:=D0.o.alloc (.cells #[.int .u8 (p:Int),.int .i64 q,.string r,.slice m u c1,.slice n y c2] 37);have B:=Blk.new C #[.int .u8 (p:Int),.int .i64 q,.string r,.slice m u c1,.slice n y c2] 37;have T:Fr w (C.alloc (.cells #[.int .u8 (p:Int),.int .i64 q,.string r,.slice m u c1,.slice n y c2] 37)) (λ _=>False):=(F0.o.trans J.o (λ x hx e=>by omega)).alloc _;have a0:Fr C (C.alloc (.cells #[.int .u8 (p:Int),.int .i64 q,.string r,.slice m u c1,.slice n y c2] 37)) (λ _=>False):=(Fr.refl C _).alloc _;generalize C.alloc (.cells #[.int .u8 (p:Int),.int .i64 q,.string r,.slice m u c1,.slice n y c2] 37)=W3 at *;generalize a7:C.heap.size=bx at *;have V:=H.L.c2;have U:=H.L.c1;have N:=B.cell 0;have O:=B.cell 1;have Q:=B.cell 2;have R:=B.cell 3;have S:=B.cell 4;have r0:=A.cell 0;have r1:=A.cell 1;have r2:=A.cell 2;have r3:=A.cell 3;have r4:=A.cell 4;obtain⟨g0,g1,g2,g3,g4⟩:=A.t5;simp only[zg_,zb_,aa_,ab_,af_] at r0 r1 r2 r3 r4 N O Q R S
 have I:∀ W',Fr W3 W' (λ g=>g=w.heap.size)->W'.cell? ⟨w.heap.size+1,2,none⟩=some (.bool a2)/\W'.cell? ⟨w.heap.size+1,1,none⟩=some (.int .i64 (G:Int))/\W'.cell? ⟨bx,0,none⟩=some (.int .u8 (p:Int))/\W'.cell? ⟨bx,1,none⟩=some (.int .i64 q)/\W'.cell? ⟨bx,2,none⟩=some (.string r)/\W'.cell? ⟨bx,3,none⟩=some (.slice m u c1)/\W'.cell? ⟨bx,4,none⟩=some (.slice n y c2):=λ W' hf=>by
  have hL:=hf.blk H.L (by omega);have M:=hf.blk B (by omega);exact⟨hL.cell 2,hL.cell 1,M.cell 0,M.cell 1,M.cell 2,M.cell 3,M.cell 4⟩
 replace I:=I _ ((Fr.five W3 w.heap.size (.int .u8 (p:Int)) (.int .i64 q) (.string r) (.slice m u c1) (.slice n y c2)).drew);have a8:=H.jl;replace H:=q_ H;replace A:=q_ A;replace B:=q_ B;replace T:=q_ T;replace a0:=q_ a0
 cases hb:a2 with
 | false=>
  subst hb;refine zx_ 16 (λ W=>W.cell? ⟨w.heap.size+1,2,none⟩=some (.bool false)/\W.cell? ⟨w.heap.size+1,1,none⟩=some (.int .i64 (G:Int))/\W.cell? ⟨bx,0,none⟩=some (.int .u8 (p:Int))/\W.cell? ⟨bx,1,none⟩=some (.int .i64 q)/\W.cell? ⟨bx,2,none⟩=some (.string r)/\W.cell? ⟨bx,3,none⟩=some (.slice m u c1)/\W.cell? ⟨bx,4,none⟩=some (.slice n y c2)) (by kernel_rfl) ?_;refine ta_ 0 rfl (by kernel_rfl) (λ _ _ _ h=>h) (by rintro W ⟨h1,a,b,c,f,j,l⟩;go_simp<;>rfl) ?_;refine ta_ 1 rfl (by kernel_rfl) (λ _ _ _ h=>h) (by rintro W ⟨h1,a,b,c,f,j,l⟩;go_simp<;>rfl) ?_;refine ta_ 2 rfl (by kernel_rfl) (λ _ _ _ h=>h) (by rintro W ⟨h1,a,b,c,f,j,l⟩;go_simp<;>rfl) ?_;refine ta_ 3 rfl (by kernel_rfl) (λ _ _ _ h=>h) (by rintro W ⟨h1,a,b,c,f,j,l⟩;go_simp<;>rfl) ?_;refine ta_ 4 rfl (by kernel_rfl) (λ _ _ _ h=>h) (by rintro W ⟨h1,a,b,c,f,j,l⟩;go_simp<;>rfl) ?_;refine ta_ 5 rfl (by kernel_rfl) (λ _ _ _ h=>h) (by rintro W ⟨h1,a,b,c,f,j,l⟩;go_simp<;>rfl) ?_;refine ta_ 6 rfl (by kernel_rfl) (λ _ _ _ h=>h) (by rintro W ⟨h1,a,b,c,f,j,l⟩;go_simp<;>rfl) ?_;refine ta_ 7 rfl (by kernel_rfl) (λ _ _ _ h=>h) (by rintro W ⟨h1,a,b,c,f,j,l⟩;go_simp<;>rfl) ?_;refine ta_ 8 rfl (by kernel_rfl) (λ _ _ _ h=>h) (by rintro W ⟨h1,a,b,c,f,j,l⟩;go_simp<;>rfl) ?_;refine ta_ 9 rfl (by kernel_rfl) (λ _ _ _ h=>h) (by rintro W ⟨h1,a,b,c,f,j,l⟩;go_simp<;>rfl) ?_;refine ta_ 10 rfl (by kernel_rfl) (λ _ _ _ h=>h) (by rintro W ⟨h1,a,b,c,f,j,l⟩;go_simp<;>rfl) ?_;refine ta_ 11 rfl (by kernel_rfl) (λ _ _ _ h=>h) (by rintro W ⟨h1,a,b,c,f,j,l⟩;go_simp<;>rfl) ?_;refine ta_ 12 rfl (by kernel_rfl) (λ _ _ _ h=>h) (by rintro W ⟨h1,a,b,c,f,j,l⟩;go_simp<;>rfl) ?_;refine ta_ 13 rfl (by kernel_rfl) (λ _ _ _ h=>h) (by rintro W ⟨h1,a,b,c,f,j,l⟩;go_simp<;>rfl) ?_;refine ta_ 14 rfl (by kernel_rfl) (λ _ _ _ h=>h) (by rintro W ⟨h1,a,b,c,f,j,l⟩;go_simp<;>rfl) ?_;refine ze_ 15 rfl (by kernel_rfl) (λ _=>⟨V,U,N,O,Q,R,S⟩) (λ K z=>?_);go_simp;refine z _ _ ?_;clear z K;refine ze_ 16 rfl (by kernel_rfl) (λ _=>I) (λ K z=>?_);go_simp;refine z _ _ ?_;clear z K;refine zq_ (by kernel_rfl) (λ hm=>absurd hm (by decide)) ?_ _;have D:=(Blk.five A.o (.int .u8 (p:Int)) (.int .i64 q) (.string r) (.slice m u c1) (.slice n y c2)).drew;obtain⟨q0,q1,q2,q3,q4⟩:=D.d5;have X:=q_ ((Fr.five W3 w.heap.size (.int .u8 (p:Int)) (.int .i64 q) (.string r) (.slice m u c1) (.slice n y c2)).drew);have E:Fr w _ (λ _=>False):=T.o.trans X.o (λ x hx e=>by omega);replace E:=q_ E;replace D:=q_ D;clear I V U N O Q R S r0 r1 r2 r3 r4 g0 g1 g2 g3 g4;generalize (World.setCell (World.setCell (World.setCell (World.setCell (World.setCell W3 ⟨w.heap.size,0,none⟩ (.int .u8 (p:Int))) ⟨w.heap.size,1,none⟩ (.int .i64 q)) ⟨w.heap.size,2,none⟩ (.string r)) ⟨w.heap.size,3,none⟩ (.slice m u c1)) ⟨w.heap.size,4,none⟩ (.slice n y c2)).drew=W5 at *
  go_wp2_with fail
  refine bodyPost_ret (v:=.tuple #[.agg #[.int .u8 (p:Int),.int .i64 q,.string r,.slice m u c1,.slice n y c2],.bool ((G:Int)==(s.size:Int))]) (by simp[results,results19,go_sem,q0,q1,q2,q3,q4]) rfl ?_;rw[Q_.o]
  rcases a3.o with⟨d,hr,_,a4⟩|⟨_,h⟩
  ·have Y:vp_ env pl t s=if G=s.size then some d else none:=by unfold vp_;rw[hr]
   refine⟨p,q,r,m,u,c1,n,y,c2,?_,E.o,λ d' F=>?_⟩
   ·rw[Y]
    by_cases hj:G=s.size
    ·rw[if_pos hj,hj];simp
    ·rw[if_neg hj,show(((G:Nat):Int)==((s.size:Nat):Int))=false by simp;omega];rfl
   ·rw[Y] at F;split at F
    ·simp only[ag_] at F;subst F;exact(((a4.fr a0.o u_).fr X.o (λ g hg e=>by rw[a1.o] at hg;omega))).mono (λ g _ hg=>by rw[a1.o] at hg;omega)
    ·cases F
  ·cases h
 | true=>
  subst hb;refine zx_ 16 (λ W=>W.cell? ⟨w.heap.size+1,2,none⟩=some (.bool true)/\W.cell? ⟨w.heap.size+1,1,none⟩=some (.int .i64 (G:Int))/\W.cell? ⟨bx,0,none⟩=some (.int .u8 (p:Int))/\W.cell? ⟨bx,1,none⟩=some (.int .i64 q)/\W.cell? ⟨bx,2,none⟩=some (.string r)/\W.cell? ⟨bx,3,none⟩=some (.slice m u c1)/\W.cell? ⟨bx,4,none⟩=some (.slice n y c2)) (by kernel_rfl) ?_;refine ta_ 0 rfl (by kernel_rfl) (λ _ _ _ h=>h) (by rintro W ⟨h1,a,b,c,f,j,l⟩;go_simp<;>rfl) ?_;refine ta_ 1 rfl (by kernel_rfl) (λ _ _ _ h=>h) (by rintro W ⟨h1,a,b,c,f,j,l⟩;go_simp<;>rfl) ?_;refine ta_ 2 rfl (by kernel_rfl) (λ _ _ _ h=>h) (by rintro W ⟨h1,a,b,c,f,j,l⟩;go_simp<;>rfl) ?_;refine ta_ 3 rfl (by kernel_rfl) (λ _ _ _ h=>h) (by rintro W ⟨h1,a,b,c,f,j,l⟩;go_simp<;>rfl) ?_;refine ta_ 4 rfl (by kernel_rfl) (λ _ _ _ h=>h) (by rintro W ⟨h1,a,b,c,f,j,l⟩;go_simp<;>rfl) ?_;refine ta_ 5 rfl (by kernel_rfl) (λ _ _ _ h=>h) (by rintro W ⟨h1,a,b,c,f,j,l⟩;go_simp<;>rfl) ?_;refine ta_ 6 rfl (by kernel_rfl) (λ _ _ _ h=>h) (by rintro W ⟨h1,a,b,c,f,j,l⟩;go_simp<;>rfl) ?_;refine va_ 7 rfl (by kernel_rfl) (λ _ _ _ h=>h) (by kernel_rfl) ?_;refine va_ 8 rfl (by kernel_rfl) (λ _ _ _ h=>h) (by kernel_rfl) ?_;refine va_ 9 rfl (by kernel_rfl) (λ _ _ _ h=>h) (by kernel_rfl) ?_;refine va_ 10 rfl (by kernel_rfl) (λ _ _ _ h=>h) (by kernel_rfl) ?_;refine va_ 11 rfl (by kernel_rfl) (λ _ _ _ h=>h) (by kernel_rfl) ?_;refine va_ 12 rfl (by kernel_rfl) (λ _ _ _ h=>h) (by kernel_rfl) ?_;refine va_ 13 rfl (by kernel_rfl) (λ _ _ _ h=>h) (by kernel_rfl) ?_;refine ta_ 14 rfl (by kernel_rfl) (λ _ _ _ h=>h) (by rintro W ⟨h1,a,b,c,f,j,l⟩;go_simp<;>rfl) ?_;refine ze_ 15 rfl (by kernel_rfl) (λ _=>⟨V,U,N,O,Q,R,S⟩) (λ K z=>?_);go_simp;refine z _ _ ?_;clear z K;refine ze_ 16 rfl (by kernel_rfl) (λ _=>I) (λ K z=>?_);go_simp;refine z _ _ ?_;clear z K;refine zq_ (by kernel_rfl) (λ hm=>absurd hm (by decide)) ?_ _;have D:=(Blk.five A.o (.int .u8 (p:Int)) (.int .i64 q) (.string r) (.slice m u c1) (.slice n y c2)).drew;obtain⟨q0,q1,q2,q3,q4⟩:=D.d5;have X:=q_ ((Fr.five W3 w.heap.size (.int .u8 (p:Int)) (.int .i64 q) (.string r) (.slice m u c1) (.slice n y c2)).drew);have E:Fr w _ (λ _=>False):=T.o.trans X.o (λ x hx e=>by omega);replace E:=q_ E;replace D:=q_ D;clear I V U N O Q R S r0 r1 r2 r3 r4 g0 g1 g2 g3 g4;generalize (World.setCell (World.setCell (World.setCell (World.setCell (World.setCell W3 ⟨w.heap.size,0,none⟩ (.int .u8 (p:Int))) ⟨w.heap.size,1,none⟩ (.int .i64 q)) ⟨w.heap.size,2,none⟩ (.string r)) ⟨w.heap.size,3,none⟩ (.slice m u c1)) ⟨w.heap.size,4,none⟩ (.slice n y c2)).drew=W5 at *
  go_wp2_with fail
  refine bodyPost_ret (v:=.tuple #[.agg #[.int .u8 (p:Int),.int .i64 q,.string r,.slice m u c1,.slice n y c2],.bool false]) (by simp[results,results19,go_sem,q0,q1,q2,q3,q4]) rfl ?_;rw[Q_.o]
  rcases a3.o with⟨_,_,h,_⟩|⟨hr,_⟩
  ·cases h
  ·have Y:vp_ env pl t s=none:=by unfold vp_;rw[hr]
   rw[Y];exact⟨p,q,r,m,u,c1,n,y,c2,rfl,E.o,λ d' F=>by cases F⟩
end Go.Proofs.YtiifagiebikmdaaGreatDoor
