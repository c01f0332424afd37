import Derived.Test.YtjkiencmjggakaaGreatDoorW05
set_option maxHeartbeats 16000000
set_option maxRecDepth 100000
set_option linter.defProp false
set_option linter.unusedSimpArgs false
open Go.Proofs.Tryz
namespace Go.Proofs.YtjkiencmjggakaaGreatDoor
open Go.RowKit
variable {i f p:Nat}{t:PT}{bad keyed:Bool}
def Wj{w:World}{P:Nat->Prop}{bl:Nat}{s:BA}{bz:Nat}{pl:Bool}{ts:List TR}{env:Nat->Option PB}{k fin:Nat}(M:DM w P bl s bz pl i false ts env w)(hk:isT ts k t)(u:fin=93\/fin=125)(hR:∀j,i<=j->j<=s.size->vV s env pl ts f t j):Calls prog 92 #[P_ bl,I_ k,U_ fin,.bool keyed] w (zW w bl s bz pl (ZM keyed (qQ (rdT s env pl f t) s fin keyed i))):=by
 have I:=M.sl;have g:=M.jl;have l:0<fin:=M_;have g:fin≠44:=M_;obtain⟨R_,g⟩:=e_ (qQ (rdT s env pl f t) s fin keyed i);rw[<- g];refine hq_ λx Q_=>?_;obtain⟨R,a4⟩:=e_ (rdT s env pl f t);rw[<- a4]at g;have start:Bw R_ R fin keyed i w P bl s bz pl ts env (s.size+3) ((w.alloc (.cells zo.toArray 111)).alloc (.cells zo.toArray 111)):=
  ⟨_,_,_,_,_,.inl ⟨[],i,iX M,rfl,by simp[kZ],M_,.inl ⟨rfl,rfl,by rw[g,qQ,Zw]⟩⟩⟩
 replace start:=zy start;replace hk:=zy hk;replace a4:=zy a4;replace hR:=zy hR;go_in;go_wp2;go_loopg [] (s.size+3) (λm W=>Bw R_ R fin keyed i w P bl s bz pl ts env m W);case atStart=>exact start
 case round=>
  obtain⟨vk,vs,ks,n,xs,g|hB⟩:=hrel
  .obtain⟨O,j,Q,D,S,hm,a8⟩:=g;obtain⟨ka,y,rfl⟩:=zl Q.kr;obtain⟨z,A,rfl⟩:=zl Q.vr;have G:=Q.M.jl;have c2:=Q.M.L.c2;have t4:=Q.r1.cell 4;have t3:=Q.r1.cell 3;simp only[zt,aa_,ab_]at t3 t4;obtain⟨c,hc⟩:=x_ (bt s j);have K:=zy (show lk s j false=c by simp[lk,hc]);have H:H_ (n=O.length):=zy D;replace Q:=zy Q;replace D:=zy D;replace S:=zy S;by_cases b4:c=fin
   .subst b4
    have f1:j<s.size:=zc M_;rcases a8 with⟨J,C,x⟩|⟨a7,b7,nn,e0,x⟩
    .subst J;have Z:n=0:=H.o;subst Z;replace x:=zy x;replace C:=zy C;replace hc:=zy hc;go_wp2_with (first
      |(go_at_call 89;apply(yP Q.o.M.L I G).mono;rintro e w1 ⟨rfl,T⟩;rw[K.o];have u:=zy (Q.o.si T);have Y:=u.o.r1.cell 4;have d2:=u.o.M.L.c2;simp only[zt,aa_,ab_]at Y)
      |(go_at_call 88;apply(xg c u.o.M.L I G rfl l).mono;rintro e U ⟨rfl,F⟩;obtain⟨B,V,g,F2,N⟩:=qc.lm l u F;have r0:=g.r0.cell 0;have r1:=g.r0.cell 1;have X:=g.r0.cell 2;have r3:=g.r0.cell 3;have r4:=g.r0.cell 4;obtain⟨g0,g1,g2,g3,g4⟩:=g.r0.t5;have t0:=g.r1.cell 0;have t1:=g.r1.cell 1;have t2:=g.r1.cell 2;have t3:=g.r1.cell 3;have t4:=g.r1.cell 4;simp only[zo,zt,aa_,ab_,az_]at r0 r1 X r3 r4 t0 t1 t2 t3 t4;have E:=zy g.r0;replace g:=zy g))
     have L5:=G_ E (.int .u8 0) (O_) (.string noB) (.slice ka ks.length y) (.slice z 0 A);obtain⟨q0,q1,q2,q3,q4⟩:=L5.d5;have hF:=J_ U (w.heap.size) (.int .u8 0) (O_) (.string noB) (.slice ka ks.length y) (.slice z 0 A);generalize (((((World.setCell U ⟨w.heap.size,0,none⟩ (.int .u8 0)).setCell ⟨w.heap.size,1,none⟩ (O_)).setCell ⟨w.heap.size,2,none⟩ (.string noB)).setCell ⟨w.heap.size,3,none⟩ (.slice ka ks.length y)).setCell ⟨w.heap.size,4,none⟩ (.slice z 0 A))=W5 at *;refine bodyPost_ret (v:=.agg (zt 0 0 noB (.slice ka ks.length y) (.slice z 0 A)).toArray) (by simp[results,results92,go_sem,q0,q1,q2,q3,q4,zt]) rfl ?_;rw[Q_.o];rcases N.o with⟨_,_,rfl,rfl⟩|⟨h1,_,_⟩
     .refine xP g.o.M hF ?_;rw[x.o,<- C.o,i_ hc.o];rfl
     .exact absurd hc.o (by simpa using h1)
    .have e8:0<O.length:=List.length_pos_iff.2 a7;have Z:(0:Int)<(n:Int):=by have:=H.o;omega
     replace x:=zy x;replace hc:=zy hc;go_wp2_with (first
      |(go_at_call 89;apply(yP Q.o.M.L I G).mono;rintro e w1 ⟨rfl,T⟩;rw[K.o];have u:=zy (Q.o.si T);have Y:=u.o.r1.cell 4;simp only[zt,aa_,ab_]at Y)
      |(go_at_call 89;apply(yP u.o.M.L I G).mono;rintro e U ⟨rfl,b8⟩;rw[K.o];have g:=u.o.si b8;have l:=g.M.L.c1;have l:=g.M.L.th 1;have l:=g.inc f1;have r0:=l.r0.cell 0;have r1:=l.r0.cell 1;have X:=l.r0.cell 2;have r3:=l.r0.cell 3;have r4:=l.r0.cell 4;obtain⟨g0,g1,g2,g3,g4⟩:=l.r0.t5;have t0:=l.r1.cell 0;have t1:=l.r1.cell 1;have t2:=l.r1.cell 2;have t3:=l.r1.cell 3;have t4:=l.r1.cell 4;simp only[zo,zt,aa_,ab_,az_]at r0 r1 X r3 r4 t0 t1 t2 t3 t4;have E:=zy l.r0;replace g:=zy g;replace l:=zy l))
     have L5:=G_ E (.int .u8 0) (O_) (.string noB) (.slice ka ks.length y) (.slice z n A);obtain⟨q0,q1,q2,q3,q4⟩:=L5.d5;have hF:=J_ (U.setCell ⟨bl,1,none⟩ (z_ ((j:Int)+1))) (w.heap.size) (.int .u8 0) (O_) (.string noB) (.slice ka ks.length y) (.slice z n A);generalize (((((World.setCell (U.setCell ⟨bl,1,none⟩ (z_ ((j:Int)+1))) ⟨w.heap.size,0,none⟩ (.int .u8 0)).setCell ⟨w.heap.size,1,none⟩ (O_)).setCell ⟨w.heap.size,2,none⟩ (.string noB)).setCell ⟨w.heap.size,3,none⟩ (.slice ka ks.length y)).setCell ⟨w.heap.size,4,none⟩ (.slice z n A))=W5 at *;refine bodyPost_ret (v:=.agg (zt 0 0 noB (.slice ka ks.length y) (.slice z n A)).toArray) (by simp[results,results92,go_sem,q0,q1,q2,q3,q4,zt]) rfl ?_;rw[Q_.o];refine xP l.o.M hF ?_;rw[x.o,rF,i_ hc.o];rfl
   .have e1:((c:Int) != (fin:Int))=true:=by simp;omega
    have e2:((c:Int)==(fin:Int))=false:=by simp;omega
    have d8:=zy (show bt s j≠fin by rw[hc];exact b4);have f2:n<=4000:=by
     have h0:=H.o;rcases a8 with⟨rfl,_,_⟩|⟨_,b7,_⟩
     .simp at h0;omega
     .omega
    replace a8:=zy a8;go_upto_if 33 with(go_at_call 89;apply(yP Q.o.M.L I G).mono;rintro e w1 ⟨rfl,T⟩;rw[K.o];have u:=Q.o.si T;have Y:=u.r1.cell 4;simp only[zt,aa_,ab_]at Y;replace u:=zy u);go_cut [] (λW=>∃j' E,LM w P bl s bz pl j' E ts env w.heap.size (w.heap.size+1) (w.heap.size+2) 0 (.slice ka ks.length y) (.slice z n A) ks n xs W/\QE R_ R s fin keyed O i j j' E);case first=>
     rcases a8.o with⟨J,C,x⟩|⟨a7,b7,nn,e0,x⟩
     .have Z:n=0:=by rw[H.o,J];rfl
      subst Z;replace x:=zy x;replace C:=zy C;replace J:=zy J;go_wp2;go_meet;case rel=>
       refine⟨j,false,u,?_⟩;have:=J.o;subst this;exact aK C d8 x
     .have e8:0<O.length:=List.length_pos_iff.2 a7;have Z:(0:Int)<(n:Int):=by have:=H.o;omega
      replace x:=zy x;go_wp2_with (first
       |(go_at_call 89;apply(yP u.o.M.L I G).mono;rintro e U ⟨rfl,b8⟩;rw[K.o];have g:=zy (u.o.si b8))
       |(go_at_call 88;apply(xg 44 g.o.M.L I G rfl D_).mono;rintro e w3 ⟨rfl,F⟩;obtain⟨J,a0,l,F3,N⟩:=qc.lm D_ g F;replace l:=zy l))
      go_meet;case rel=>
       refine⟨J,a0,l,YH d8 b7 e0 x ?_⟩;rcases N.o with⟨_,a,b,c⟩|⟨a,b,c⟩
       .exact .inl ⟨a,b,c⟩
       .exact .inr ⟨by simpa using a,b,c⟩
    case rest=>
     obtain⟨G,b6,u,o1⟩:=hcut;have a3:=u.M.jl;replace u:=zy u;replace o1:=zy o1;go_upto_if 48 with fail;go_cut [] (λW=>∃j' E K T C,LM w P bl s bz pl j' E ts env w.heap.size (w.heap.size+1) (w.heap.size+2) 0 (.slice K C.length T) (.slice z n A) C n xs W/\C.length<=5000/\Pz R_ R s fin keyed O C i j j' E);case first=>
      have C:ks.length<=4000:=by
       rw[S.o];unfold kZ;split
       .rw[bo_,<- H.o];exact f2
       .simp
      cases keyed with
      |false=>
       go_wp2;go_meet;case rel=>exact⟨G,b6,ka,y,ks,u,M_,aQ a3 o1 ks (λ_=>S)⟩
      |true=>
       obtain⟨si,e3,e4,e6,e7⟩:=info_parts PJ;rcases List.eq_nil_or_concat ks with K|⟨q,kl,K⟩
       .have b5:=zy ((uN S).1 K);have C:=zy (show ks.length=0 by rw[K];rfl);replace K:=zy K;go_upto_if 66 with(go_at_call 91;apply(qZ u.o.M.L I a3).mono;intro e U hT;obtain⟨tx,B,rfl,g,F2,hx,hK⟩:=hT.lm u;have Y:=g.r1.cell 3;simp only[zt,aa_,ab_]at Y;rw[C.o]at Y;replace g:=zy g);go_cut [10] (λv W=>∃tx j' E,v=.string tx/\LM w P bl s bz pl j' E ts env w.heap.size (w.heap.size+1) (w.heap.size+2) 0 (.slice ka ks.length y) (.slice z n A) ks n xs W/\tx.size<=4000/\QI R_ R s fin true O i j tx j' E);case first=>
         go_wp2;go_meet;case rel=>exact⟨tx,B,b6,rfl,g,hx,(tf a3 o1 hK).1 (by rw[b5.o];rfl)⟩
        case rest=>
         obtain⟨tx,B,V,rfl,g,hx,o2⟩:=hcut;have a5:=g.M.jl;replace g:=zy g;replace o2:=zy o2;go_wp2_with (first
          |(go_at_call 88;apply(xg 58 g.o.M.L I a5 rfl D_).mono;rintro e w3 ⟨rfl,F⟩;obtain⟨J,a0,l,F3,N⟩:=qc.lm D_ g F;have d7:=l.bB;have b9:=l.r1.cell 3;simp only[zt,aa_,ab_]at b9;replace l:=zy l)
          |(at_builtin;go_must (refine wpList_append_own_at _ rfl _ _ 108 rfl (w.heap.size+2) 9 si _ 1 16 VK e3 e4 e6 e7 rfl D_ (.slice ka ks.length y) ks.length (ks.map Value.string) rfl ?hown _ 1 1 [.string tx] rfl rfl (zN _ #[.string tx] _ _ ?nn) ?one ?b1 ?b2 ?b3 ?_)
            case hown=>exact World.ownsRow.alloc l.o.kr _
            case nn=>simp
            case one=>simp[Value.oneCell']
            case b1=>unfold maxLen;omega
            case b2=>omega
            case b3=>simp;omega
            intro v5 w5 H G a6 T
            have C:=l.o.key G H T
            obtain⟨e5,f5⟩:=l.o.keyCell G
            obtain⟨g5,a9,rfl⟩:=zm H M_
            replace C:=zy C))
         go_meet;case rel=>
          have Z:=C.o;have el:(ks++[tx]).length=ks.length+1:=by simp
          refine⟨J,a0,some ⟨g5,0,none⟩,a9,ks++[tx],?_,M_,ik S o2 N⟩;rw[el];exact Z
       .have b5:=zy ((uN S).2 q kl (by simpa using K));have hm:ks.length=q.length+1:=by rw[K];simp
        have f3:q.length<=4000:=M_;have e9:=zy (show(ks.map Value.string)[q.length]?=some (.string kl) by rw[K];simp);obtain⟨gk,ck,d9⟩:=zm u.o.kr M_;simp only[Value.slice.injEq,true_and]at d9;obtain⟨rfl,rfl⟩:=d9;replace K:=zy K;replace hm:=zy hm;go_upto_if 66 with(go_at_call 91;apply(qZ u.o.M.L I a3).mono;intro e U hT;obtain⟨tx,B,rfl,g,F2,hx,hK⟩:=hT.lm u;have Y:=g.r1.cell 3;simp only[zt,aa_,ab_]at Y;rw[hm.o]at Y;have K:=zr g.kr rfl e9;replace g:=zy g);go_cut [10] (λv W=>∃tx j' E,v=.string tx/\LM w P bl s bz pl j' E ts env w.heap.size (w.heap.size+1) (w.heap.size+2) 0 (S_ gk ks.length y) (.slice z n A) ks n xs W/\tx.size<=4000/\QI R_ R s fin true O i j tx j' E);case first=>
         have E:=g.o.M.L.c2;have E:=g.o.M.L.th 2;cases hb:Op.bytesLess kl.toList tx.toList
         .go_wp2;go_meet;case rel=>exact⟨tx,B,true,rfl,g.o.sp,hx,(tf a3 o1 hK).2 (by rw[b5.o];exact hb)⟩
         .go_wp2;go_meet;case rel=>exact⟨tx,B,b6,rfl,g,hx,(tf a3 o1 hK).1 (by rw[b5.o];exact hb)⟩
        case rest=>
         obtain⟨tx,B,V,rfl,g,hx,o2⟩:=hcut;have a5:=g.M.jl;replace g:=zy g;replace o2:=zy o2;go_wp2_with (first
          |(go_at_call 88;apply(xg 58 g.o.M.L I a5 rfl D_).mono;rintro e w3 ⟨rfl,F⟩;obtain⟨J,a0,l,F3,N⟩:=qc.lm D_ g F;have d7:=l.bB;have b9:=l.r1.cell 3;simp only[zt,aa_,ab_]at b9;replace l:=zy l)
          |(at_builtin;go_must (refine wpList_append_own_at _ rfl _ _ 108 rfl (w.heap.size+2) 9 si _ 1 16 VK e3 e4 e6 e7 rfl D_ (S_ gk ks.length y) ks.length (ks.map Value.string) rfl ?hown _ 1 1 [.string tx] rfl rfl (zN _ #[.string tx] _ _ ?nn) ?one ?b1 ?b2 ?b3 ?_)
            case hown=>exact World.ownsRow.alloc l.o.kr _
            case nn=>simp
            case one=>simp[Value.oneCell']
            case b1=>unfold maxLen;omega
            case b2=>omega
            case b3=>simp;omega
            intro v5 w5 H G a6 T
            have C:=l.o.key G H T
            obtain⟨e5,f5⟩:=l.o.keyCell G
            obtain⟨g5,a9,rfl⟩:=zm H M_
            replace C:=zy C))
         go_meet;case rel=>
          have Z:=C.o;have el:(ks++[tx]).length=ks.length+1:=by simp
          refine⟨J,a0,some ⟨g5,0,none⟩,a9,ks++[tx],?_,M_,ik S o2 N⟩;rw[el];exact Z
     case rest=>
      obtain⟨B,V,u,u,K,g,u,o2⟩:=hcut;have a5:=g.M.jl;obtain⟨ti,S,U,Y,f0⟩:=info_parts ZI;obtain⟨X,u⟩:=e_ (if V=true then none else R B);have E:=zy (show Calls prog 64 #[P_ bl,I_ k] wc (zW wc bl s bz pl X) by
       cases V with
       |true=>rw[u,i_ rfl];exact oI t wc P bl bz k B g.M.here hk
       |false=>
        rw[u,n_ D_,a4.o]
        refine hR.o B ?_ a5 wc P bl bz k g.M.here hk
        rcases o2 with⟨_,_,h,_⟩|⟨h,_⟩
        .omega
        .cases h)
      replace g:=zy g;replace o2:=zy o2;replace u:=zy u;go_wp2_with (first
       |(go_at_call 64;apply E.o.mono;intro e w3 hP;obtain⟨E,F,I,a1,m1,c1,a2,m2,c2,J,a0,rfl,l,F3,N⟩:=zW.lm g hP;have g:=l.alloc (.cells (zt E F I (.slice a1 m1 c1) (.slice a2 m2 c2)).toArray 111);have t4:=g.r1.cell 4;simp only[zt,aa_,ab_]at t4;have d7:=l.bB;replace l:=zy l;replace g:=zy g)
       |(at_builtin;go_must (refine wpList_append_own_at _ rfl _ _ 109 rfl (w.heap.size+2) 111 ti _ 5 80 Zh S U Y f0 rfl D_ (.slice z n A) n xs rfl ?hown _ 1 1 (zt E F I (.slice a1 m1 c1) (.slice a2 m2 c2)) rfl rfl (zN _ (zt E F I (.slice a1 m1 c1) (.slice a2 m2 c2)).toArray _ _ ?nn) ?one ?b1 ?b2 ?b3 ?_)
         case hown=>exact World.ownsRow.alloc g.o.vr _
         case nn=>simp
         case one=>simp[zt,Value.oneCell']
         case b1=>unfold maxLen;omega
         case b2=>omega
         case b3=>simp;omega
         intro v5 w5 H G a6 T
         have C:=g.o.item G H T
         obtain⟨e5,f5⟩:=g.o.ie G
         obtain⟨g5,a9,rfl⟩:=zm H M_
         replace C:=zy C))
      have Z:=C.o;rcases N.o with⟨d,hr,rfl⟩|⟨hr,rfl⟩
      .have g:V=false:=by
        cases hb:V with
        |false=>rfl
        |true=>rw[u.o,hb]at hr;cases hr
       subst g;have g:R B=some (d,J):=by rw[<- hr,u.o];rfl
       have l:=qx s env pl f t B d J (by rw[<- a4.o];exact g);rcases o2.o with⟨_,h1,l,nn,key,C,l,l⟩|⟨hb,_⟩
       .go_roundg (s.size+2-J);case measure=>omega
        case rel=>
         refine⟨_,_,K,n+1,_,.inl ⟨O++[(key,d)],J,Z,by rw[ai_,av_,D.o],C d,l_,.inr ⟨by simp,by rw[ai_,av_];omega,nn,M_,?_⟩⟩⟩;rw[l,rm,g]
       .cases hb
      .go_roundg 0;case measure=>omega
       case rel=>
        refine⟨_,_,K,n+1,_,.inr ⟨J,Z,?_⟩⟩;rcases o2.o with⟨hb,_,_,nn,key,_,_,l⟩|⟨_,h⟩
        .have g:R B=none:=by rw[<- hr,u.o,hb];rfl
         rw[l,rm,g]
        .exact h
  .obtain⟨j,Q,x⟩:=hB;obtain⟨ka,y,rfl⟩:=zl Q.kr;obtain⟨z,A,rfl⟩:=zl Q.vr;have c2:=Q.M.L.c2;have r0:=Q.r0.cell 0;have r1:=Q.r0.cell 1;have X:=Q.r0.cell 2;have r3:=Q.r0.cell 3;have r4:=Q.r0.cell 4;obtain⟨g0,g1,g2,g3,g4⟩:=Q.r0.t5;have t0:=Q.r1.cell 0;have t1:=Q.r1.cell 1;have t2:=Q.r1.cell 2;have t3:=Q.r1.cell 3;have t4:=Q.r1.cell 4;simp only[zo,zt,aa_,ab_,az_]at r0 r1 X r3 r4 t0 t1 t2 t3 t4;have g:=zy Q.r0;replace Q:=zy Q;replace x:=zy x;go_wp2;have L5:=G_ g (.int .u8 0) (O_) (.string noB) (.slice ka ks.length y) (.slice z n A);obtain⟨q0,q1,q2,q3,q4⟩:=L5.d5;have hF:=J_ wr (w.heap.size) (.int .u8 0) (O_) (.string noB) (.slice ka ks.length y) (.slice z n A);generalize (((((World.setCell wr ⟨w.heap.size,0,none⟩ (.int .u8 0)).setCell ⟨w.heap.size,1,none⟩ (O_)).setCell ⟨w.heap.size,2,none⟩ (.string noB)).setCell ⟨w.heap.size,3,none⟩ (.slice ka ks.length y)).setCell ⟨w.heap.size,4,none⟩ (.slice z n A))=W5 at *;refine bodyPost_ret (v:=.agg (zt 0 0 noB (.slice ka ks.length y) (.slice z n A)).toArray) (by simp[results,results92,go_sem,q0,q1,q2,q3,q4,zt]) rfl ?_;rw[Q_.o];exact vJ Q.o.M hF (by rw[x.o];rfl)
def JH{w:World}{P:Nat->Prop}{bl:Nat}{s:BA}{bz:Nat}{pl:Bool}{ts:List TR}{env:Nat->Option PB}{k fin:Nat}(M:DM w P bl s bz pl i true ts env w):Calls prog 92 #[P_ bl,I_ k,U_ fin,.bool keyed] w (zW w bl s bz pl none):=by
 refine hq_ λa c=>?_;have start:=zy (iX M);go_in;go_wp2;go_loopg [] 0 (λ_ W=>LM w P bl s bz pl i true ts env w.heap.size (w.heap.size+1) (w.heap.size+2) 0 (L_) (L_) [] 0 [] W);case atStart=>exact start
 case round=>
  have Q:=hrel;have c2:=Q.M.L.c2;have r0:=Q.r0.cell 0;have r1:=Q.r0.cell 1;have a:=Q.r0.cell 2;have b:=Q.r0.cell 3;have d:=Q.r0.cell 4;obtain⟨e,e,e,e,e⟩:=Q.r0.t5;have e:=Q.r1.cell 0;have g:=Q.r1.cell 1;have h:=Q.r1.cell 2;have t3:=Q.r1.cell 3;have t4:=Q.r1.cell 4;simp only[zo,zt,aa_,ab_,az_]at r0 r1 a b d e g h t3 t4;have a:=zy Q.r0;replace Q:=zy Q;go_wp2;have b:=G_ a (.int .u8 0) (O_) (.string noB) (L_) (L_);obtain⟨d,e,g,q3,h⟩:=b.d5;have a:=J_ wr (w.heap.size) (.int .u8 0) (O_) (.string noB) (L_) (L_);generalize (((((World.setCell wr ⟨w.heap.size,0,none⟩ (.int .u8 0)).setCell ⟨w.heap.size,1,none⟩ (O_)).setCell ⟨w.heap.size,2,none⟩ (.string noB)).setCell ⟨w.heap.size,3,none⟩ (L_)).setCell ⟨w.heap.size,4,none⟩ (L_))=W5 at *;refine bodyPost_ret (v:=.agg (zt 0 0 noB (L_) (L_)).toArray) (by simp[results,results92,go_sem,d,e,g,q3,h,zt]) rfl ?_;rw[c.o];exact vJ Q.o.M a rfl
def iV{w:World}{P:Nat->Prop}{bl:Nat}{s:BA}{bz:Nat}{pl:Bool}{ts:List TR}{env:Nat->Option PB}{k:Nat}{e:Int}(fin:Nat)(M:DM w P bl s bz pl i bad ts env w)(hk:isT ts k t)(he:e=(fin:Int))(b:fin=93\/fin=125)(a:bad=false->∀j,i<=j->j<=s.size->vV s env pl ts f t j):Calls prog 92 #[P_ bl,I_ k,.int .u8 e,.bool keyed] w (zW w bl s bz pl (if bad=true then none else ZM keyed (qQ (rdT s env pl f t) s fin keyed i))):=by
 subst he;cases bad with
 |true=>rw[i_ rfl];exact JH M
 |false=>rw[n_ D_];exact Wj M hk b (a rfl)
def zW.any{w W W':World}{P:Nat->Prop}{bl:Nat}{s:BA}{bz:Nat}{pl:Bool}{j:Nat}{ts:List TR}{env:Nat->Option PB}{r:Option (DT×Nat)}{e:Ending}(M:DM w P bl s bz pl j bad ts env W)(h:zW W bl s bz pl r e W'):∃(k:Nat) (m:Int) (tx:BA) (a1:Option Addr) (m1 c1:Nat) (a2:Option Addr) (m2 c2:Nat) (j':Nat) (a:Bool),e=.returned (.agg #[U_ k,z_ m,.string tx,.slice a1 m1 c1,.slice a2 m2 c2])/\DM w P bl s bz pl j' a ts env W'/\Fr W W' (· = bl)/\
  H_ ((∃d,r=some (d,j')/\a=false)\/(r=none/\a=true)):=by
 obtain⟨k,m,tx,a1,m1,c1,a2,m2,c2,he,hf,a⟩:=h;cases r with
 |none=>
  obtain⟨j',h1,b⟩:=a;exact⟨k,m,tx,a1,m1,c1,a2,m2,c2,j',true,he,M.call b hf h1,hf,.inr ⟨rfl,rfl⟩⟩
 |some q=>
  exact⟨k,m,tx,a1,m1,c1,a2,m2,c2,q.2,false,he,M.call a.2 hf a.1,hf,.inl ⟨q.1,rfl,rfl⟩⟩
def DT.withKind(c:Nat):DT->DT
 | .mk _ n tx ks ds=>.mk c n tx ks ds
def qi{R:Nat->Option (DT×Nat)}{s:BA}{c:Nat}(h:bt s i=c):xI R s c i=(ZM (c==123) (qQ R s (yE c) (c==123) (i+1))).map (λq=>(q.1.withKind c,q.2)):=by
 unfold xI;rw[i_ h];cases qQ R s (yE c) (c==123) (i+1) with
 |none=>rfl
 |some q=>rfl
def cq0_{p:Prop}(h:p:=by
 intro w P bl bz k M hk;obtain⟨kj,hk,J⟩:=hk;obtain⟨g,m,cap,sv,z0,b8,z1,z2,ho,V⟩:=M.Z.type hk;simp only[az_]at z1;refine hq_ λb4 Q_=>?_;have d6:=M.lt;have d7:=zQ z0;have d8:=zQ z1;have c3:=M.L.c3;have c2:=M.L.c2;have a4:=M.jl;have a5:=M.sl;obtain⟨h0,u,rfl⟩:=zm ho (by simp);have a0:=zr ho rfl (k:=0) (x:=I_ kj) rfl;have d9:=zQ a0;have a3:P h0:=V h0 rfl;have b7:=M.Plt h0 a3;have a8:h0≠bl:=λe=>M.nP (e▸a3);(first|(have:=cc1;have H:=zy (nk M 123 (S_ h0 1 u)))|(have H:=zy (nk M 91 (S_ h0 1 u))));(first|(have:=cc1;have B0:=zy (lZ w 123 (S_ h0 1 u)))|(have B0:=zy (lZ w 91 (S_ h0 1 u))));(first|(have:=cc1;have B1:=zy (ng w 123 (S_ h0 1 u)))|(have B1:=zy (ng w 91 (S_ h0 1 u))));(first|(have:=cc1;have B2:=zy (eu w 123 (S_ h0 1 u)))|(have B2:=zy (eu w 91 (S_ h0 1 u))));(first|(have:=cc1;have a6:=zy (show(dw w 123 (S_ h0 1 u)).cell? ⟨h0,0,none⟩=some (I_ kj) from yu a0 _ _ _))|(have a6:=zy (show(dw w 91 (S_ h0 1 u)).cell? ⟨h0,0,none⟩=some (I_ kj) from yu a0 _ _ _)));(first|(have:=cc1;have U:=zy (show(dw w 123 (S_ h0 1 u)).heap.size=w.heap.size+3 by simp[dw]))|(have U:=zy (show(dw w 91 (S_ h0 1 u)).heap.size=w.heap.size+3 by simp[dw])));have d2:=λX Y Z=>yu c2 X Y Z;have b9:(k:Int)<(m:Int):=M_;replace M:=zy M;replace ho:=zy ho;replace V:=zy V;replace hk:=zy hk;replace J:=zy J;replace hR:=zy hR;go_in;go_wp2_with (first
  |(go_at_call 88;(first|(have:=cc1;apply(xg 123 H.o.L a5 a4 rfl D_).mono)|(apply(xg 91 H.o.L a5 a4 rfl D_).mono));rintro e w1 ⟨rfl,hE⟩;obtain⟨j1,b5,E,C,I⟩:=qc.any D_ H.o hE;have K:=C.bl B0.o M_;have N:=C.bl B1.o M_;have O:=C.bl B2.o M_;have u1:=N.cell 1;have x1:=(World.cell?_of_block (a:=⟨h0,0,none⟩) (C.block h0 (by rw[U.o];omega) a8)).trans a6.o;simp only[aa_,ab_]at u1;have a9:=C.size;rw[U.o]at a9;revert E C K N O;refine k_ λE C K N O=>?_;clear hE)
  |(go_at_call 92;(first|(have:=cc1;apply(iV (f:=f) 125 E.o.here J.o rfl D_ (λhb j h1 S=>hR.o j (by rcases I.o with⟨_,_,h,_⟩|⟨_,_,h⟩;omega;rw[h]at hb;cases hb) S)).mono)|(apply(iV (f:=f) 93 E.o.here J.o rfl D_ (λhb j h1 S=>hR.o j (by rcases I.o with⟨_,_,h,_⟩|⟨_,_,h⟩;omega;rw[h]at hb;cases hb) S)).mono));intro e z hP;obtain⟨A,b,c,a1,m1,c1,a2,m2,c2,j2,b6,rfl,R,F,a7⟩:=zW.any E.o hP;have Q:=F.bl K.o M_;have l:=F.bl O.o M_;have y0:=l.cell 0;have z5:=l.th 0;have y1:=l.cell 1;have z6:=l.th 1;have y2:=l.cell 2;have z7:=l.th 2;have y3:=l.cell 3;have z8:=l.th 3;have y4:=l.cell 4;have z9:=l.th 4;simp only[zt,aa_,ab_,az_]at y0 y1 y2 y3 y4;have D:=G_ l (U_ A) (z_ b) (.string c) (.slice a1 m1 c1) (.slice a2 m2 c2);have G:=(J_ z (w.heap.size+2) (U_ A) (z_ b) (.string c) (.slice a1 m1 c1) (.slice a2 m2 c2)).bl Q M_;have y5:=D.cell 0;have y6:=D.th 0;(first|(have:=cc1;have B:=T_ D 0 (.int .u8 123))|(have B:=T_ D 0 (.int .u8 91)));(first|(have:=cc1;have y:=F_ G (a:=⟨w.heap.size+2,0,none⟩) (.int .u8 123) (by simp))|(have y:=F_ G (a:=⟨w.heap.size+2,0,none⟩) (.int .u8 91) (by simp)));have r0:=y.cell 0;have r1:=y.cell 1;have r2:=y.cell 2;have r3:=y.cell 3;have r4:=y.cell 4;have t0:=B.cell 0;have t1:=B.cell 1;have t2:=B.cell 2;have t3:=B.cell 3;have t4:=B.cell 4;obtain⟨g0,g1,g2,g3,g4⟩:=y.t5;simp only[zo,zt,aa_,ab_,am_,az_]at r0 r1 r2 r3 r4 t0 t1 t2 t3 t4 y5;revert R F Q l D;refine k_ λR F Q l D=>?_;revert G B y;refine h_ λG B y=>?_;clear hP))
 (first|(have:=cc1;have L5:=G_ y.o (.int .u8 123) (z_ b) (.string c) (.slice a1 m1 c1) (.slice a2 m2 c2))|(have L5:=G_ y.o (.int .u8 91) (z_ b) (.string c) (.slice a1 m1 c1) (.slice a2 m2 c2)));obtain⟨q0,q1,q2,q3,q4⟩:=L5.d5;(first|(have:=cc1;have T:=J_ (World.setCell (World.setCell (World.setCell (World.setCell (World.setCell (World.setCell z ⟨w.heap.size+1+1,0,none⟩ (U_ A)) ⟨w.heap.size+1+1,1,none⟩ (z_ b)) ⟨w.heap.size+1+1,2,none⟩ (.string c)) ⟨w.heap.size+1+1,3,none⟩ (.slice a1 m1 c1)) ⟨w.heap.size+1+1,4,none⟩ (.slice a2 m2 c2)) ⟨w.heap.size+1+1,0,none⟩ (.int .u8 123)) (w.heap.size) (.int .u8 123) (z_ b) (.string c) (.slice a1 m1 c1) (.slice a2 m2 c2))|(have T:=J_ (World.setCell (World.setCell (World.setCell (World.setCell (World.setCell (World.setCell z ⟨w.heap.size+1+1,0,none⟩ (U_ A)) ⟨w.heap.size+1+1,1,none⟩ (z_ b)) ⟨w.heap.size+1+1,2,none⟩ (.string c)) ⟨w.heap.size+1+1,3,none⟩ (.slice a1 m1 c1)) ⟨w.heap.size+1+1,4,none⟩ (.slice a2 m2 c2)) ⟨w.heap.size+1+1,0,none⟩ (.int .u8 91)) (w.heap.size) (.int .u8 91) (z_ b) (.string c) (.slice a1 m1 c1) (.slice a2 m2 c2)));(first|(have:=cc1;generalize (((((World.setCell (World.setCell (World.setCell (World.setCell (World.setCell (World.setCell (World.setCell z ⟨w.heap.size+1+1,0,none⟩ (U_ A)) ⟨w.heap.size+1+1,1,none⟩ (z_ b)) ⟨w.heap.size+1+1,2,none⟩ (.string c)) ⟨w.heap.size+1+1,3,none⟩ (.slice a1 m1 c1)) ⟨w.heap.size+1+1,4,none⟩ (.slice a2 m2 c2)) ⟨w.heap.size+1+1,0,none⟩ (.int .u8 123)) ⟨w.heap.size,0,none⟩ (.int .u8 123)).setCell ⟨w.heap.size,1,none⟩ (z_ b)).setCell ⟨w.heap.size,2,none⟩ (.string c)).setCell ⟨w.heap.size,3,none⟩ (.slice a1 m1 c1)).setCell ⟨w.heap.size,4,none⟩ (.slice a2 m2 c2))=W5 at *)|(generalize (((((World.setCell (World.setCell (World.setCell (World.setCell (World.setCell (World.setCell (World.setCell z ⟨w.heap.size+1+1,0,none⟩ (U_ A)) ⟨w.heap.size+1+1,1,none⟩ (.int .i64 b)) ⟨w.heap.size+1+1,2,none⟩ (.string c)) ⟨w.heap.size+1+1,3,none⟩ (.slice a1 m1 c1)) ⟨w.heap.size+1+1,4,none⟩ (.slice a2 m2 c2)) ⟨w.heap.size+1+1,0,none⟩ (.int .u8 91)) ⟨w.heap.size,0,none⟩ (.int .u8 91)).setCell ⟨w.heap.size,1,none⟩ (.int .i64 b)).setCell ⟨w.heap.size,2,none⟩ (.string c)).setCell ⟨w.heap.size,3,none⟩ (.slice a1 m1 c1)).setCell ⟨w.heap.size,4,none⟩ (.slice a2 m2 c2))=W5 at *));(first|(have:=cc1;refine bodyPost_ret (v:=.agg (zt 123 b c (.slice a1 m1 c1) (.slice a2 m2 c2)).toArray) (by simp[results,results64,go_sem,q0,q1,q2,q3,q4,zt]) rfl ?_)|(refine bodyPost_ret (v:=.agg (zt 91 b c (.slice a1 m1 c1) (.slice a2 m2 c2)).toArray) (by simp[results,results64,go_sem,q0,q1,q2,q3,q4,zt]) rfl ?_));rw[Q_.o];(first|(have:=cc1;have F6:Fr z (World.setCell (World.setCell (World.setCell (World.setCell (World.setCell (World.setCell z ⟨w.heap.size+1+1,0,none⟩ (U_ A)) ⟨w.heap.size+1+1,1,none⟩ (z_ b)) ⟨w.heap.size+1+1,2,none⟩ (.string c)) ⟨w.heap.size+1+1,3,none⟩ (.slice a1 m1 c1)) ⟨w.heap.size+1+1,4,none⟩ (.slice a2 m2 c2)) ⟨w.heap.size+1+1,0,none⟩ (.int .u8 123)) (λg=>g=w.heap.size+2):=(J_ z (w.heap.size+2) (U_ A) (z_ b) (.string c) (.slice a1 m1 c1) (.slice a2 m2 c2)).setCell ⟨w.heap.size+2,0,none⟩ (.int .u8 123) (λ_=>rfl))|(have F6:Fr z (World.setCell (World.setCell (World.setCell (World.setCell (World.setCell (World.setCell z ⟨w.heap.size+1+1,0,none⟩ (U_ A)) ⟨w.heap.size+1+1,1,none⟩ (.int .i64 b)) ⟨w.heap.size+1+1,2,none⟩ (.string c)) ⟨w.heap.size+1+1,3,none⟩ (.slice a1 m1 c1)) ⟨w.heap.size+1+1,4,none⟩ (.slice a2 m2 c2)) ⟨w.heap.size+1+1,0,none⟩ (.int .u8 91)) (λg=>g=w.heap.size+2):=(J_ z (w.heap.size+2) (U_ A) (z_ b) (.string c) (.slice a1 m1 c1) (.slice a2 m2 c2)).setCell ⟨w.heap.size+2,0,none⟩ (.int .u8 91) (λ_=>rfl)));have M6:=R.o.own (F6.mono (λ_ _ e=>M_));rcases a7.o with⟨d,hr,rfl⟩|⟨hr,rfl⟩
 .rcases I.o with⟨_,hb,rfl,rfl⟩|⟨_,_,rfl⟩
  .refine xP M6 T ?_;simp only[rdT];rw[qi hb];rw[n_ D_]at hr;(first|(have:=cc1;exact congrArg (λx=>Option.map Prod.snd (Option.map (λq=>(DT.withKind 123 q.1,q.2)) x)) hr)|(exact congrArg (λx=>Option.map Prod.snd (Option.map (λq=>(DT.withKind 91 q.1,q.2)) x)) hr))
  .cases hr
 .refine vJ M6 T ?_;simp only[rdT];rcases I.o with⟨_,hb,rfl,rfl⟩|⟨hb,_,rfl⟩
  .rw[qi hb];rw[n_ D_]at hr;exact congrArg (Option.map _) hr
  .unfold xI;rw[n_ (by simpa using hb)]):p:=h
def oS{s:BA}{env:Nat->Option PB}{pl:Bool}{ts:List TR}(hR:∀j,i<j->j<=s.size->vV s env pl ts f t j):vV s env pl ts (f+1) (.wrap 91 p t) i:=by
 exact cq0_
def eo{s:BA}{env:Nat->Option PB}{pl:Bool}{ts:List TR}(hR:∀j,i<j->j<=s.size->vV s env pl ts f t j):vV s env pl ts (f+1) (.wrap 123 p t) i:=by
 have cc1:=trivial
 exact cq0_
section
variable {w W W':World} {P:Nat->Prop} {bl:Nat} {s:BA} {bz:Nat} {pl:Bool} {j:Nat} {ts:List TR} {env:Nat->Option PB} {k:Nat} {n:Int} {tx:BA} {a1 a2:Option Addr} {m1 c1 m2 c2:Nat} {r:Option (DT×Nat)}
def wS(b0:Nat)(hb:w.heap.size<=b0)(M:DM w P bl s bz pl j false ts env W)(hF:Fr W W' (λg=>g=b0))(hr:r.map Prod.snd=some j):zW w bl s bz pl r (.returned (.agg (zt k n tx (.slice a1 m1 c1) (.slice a2 m2 c2)).toArray)) W':=by
 exact cq24_
def wZ(b0:Nat)(hb:w.heap.size<=b0)(M:DM w P bl s bz pl j true ts env W)(b:Fr W W' (λg=>g=b0))(hr:r=none):zW w bl s bz pl r (.returned (.agg (zt k n tx (.slice a1 m1 c1) (.slice a2 m2 c2)).toArray)) W':=by
 have a:=M.own (b.mono (λ_ _ e=>M_));subst hr;exact⟨k,n,tx,_,_,_,_,_,_,rfl,a.fr,j,M.jl,a.L⟩
end
def bw(w:World)(sv:Value):World:=
 ((w.alloc (.cells #[.int .u8 40,sv] 75)).alloc (.cells zo.toArray 111)).alloc (.cells (zt 40 0 noB (L_) (L_)).toArray 111)
def PA(w:World)(sv:Value):Blk (bw w sv) w.heap.size [.int .u8 40,sv] 75:=((B_ w _ _).alloc _).alloc _
def PE(w:World)(sv:Value):Blk (bw w sv) (w.heap.size+1) zo 111:=by
 have:=(B_ (w.alloc (.cells #[.int .u8 40,sv] 75)) zo.toArray 111).alloc (.cells (zt 40 0 noB (L_) (L_)).toArray 111);simpa[bw] using this
def PI(w:World)(sv:Value):Blk (bw w sv) (w.heap.size+2) (zt 40 0 noB (L_) (L_)) 111:=by
 have:=B_ ((w.alloc (.cells #[.int .u8 40,sv] 75)).alloc (.cells zo.toArray 111)) (zt 40 0 noB (L_) (L_)).toArray 111;simpa[bw] using this
def PS{w:World}{P:Nat->Prop}{bl:Nat}{s:BA}{bz:Nat}{pl:Bool}{j:Nat}{ts:List TR}{env:Nat->Option PB}(M:DM w P bl s bz pl j bad ts env w)(sv:Value):DM w P bl s bz pl j bad ts env (bw w sv):=((M.alloc _).alloc _).alloc _
def KC(n:Int):Option (DT×Nat)->Option (DT×Nat)
 |none=>none
 |some (d,j)=>some (.mk 40 n noB [] [d],j)
def nZ{w:World}{P:Nat->Prop}{bl:Nat}{s:BA}{bz:Nat}{ts:List TR}{env:Nat->Option PB}{h0 sn sc h:Nat}(M:DM w P bl s bz true i false ts env w)(l:w.cell? ⟨h0,0,none⟩=some (I_ h))(b:0<sn)(c:isT ts h t)(b:vV s env true ts f t i):Calls prog 93 #[P_ bl,.agg #[.int .u8 40,S_ h0 sn sc]] w (zW w bl s bz true (KC 0 (rdT s env true f t i))):=by
 refine hq_ λm D=>?_;have m:=M.lt;have c4:=M.L.c4;have d4:=λX Y Z=>yu c4 X Y Z;have dx:=λX Y Z=>yu l X Y Z;have m:=zy (PS M (S_ h0 sn sc));have l:=PA w (S_ h0 sn sc);have b1:=l.cell 1;simp only[bw,zo,zt,noB,aa_,ab_,az_]at b1;have q:=zy (PE w (S_ h0 sn sc));have x:=zy (PI w (S_ h0 sn sc));have y:=zy (show(bw w (S_ h0 sn sc)).heap.size=w.heap.size+3 by simp[bw]);revert M c b;refine h_ λM c b=>?_;go_in;go_wp2_with (go_at_call 64;apply(b.o _ P bl bz h m.o.here c).mono;intro e b hP;obtain⟨c,h,l,a1,m1,c1,a2,m2,c2,u,u,rfl,B,u,J⟩:=zW.any m hP;have m:=u.size;rw[y.o]at m;have y:=u.bl q M_;have z:=u.bl x M_;have C:=(B.alloc (.cells #[U_ c,z_ h,.string l,.slice a1 m1 c1,.slice a2 m2 c2] 111)).alloc (.cells #[U_ c,z_ h,.string l,.slice a1 m1 c1,.slice a2 m2 c2] 111);have A:=(y.alloc (.cells #[U_ c,z_ h,.string l,.slice a1 m1 c1,.slice a2 m2 c2] 111)).alloc (.cells #[U_ c,z_ h,.string l,.slice a1 m1 c1,.slice a2 m2 c2] 111);have x:=(z.alloc (.cells #[U_ c,z_ h,.string l,.slice a1 m1 c1,.slice a2 m2 c2] 111)).alloc (.cells #[U_ c,z_ h,.string l,.slice a1 m1 c1,.slice a2 m2 c2] 111);have T:=x.cell 4;have U:=x.th 4;have q:=T_ x 4 (S_ (b.heap.size+1) 1 1);have m:=F_ A (a:=⟨w.heap.size+1+1,4,none⟩) (S_ (b.heap.size+1) 1 1) (by simp);have r0:=m.cell 0;have r1:=m.cell 1;have K:=m.cell 2;have N:=m.cell 3;have O:=m.cell 4;have Q:=q.cell 0;have R:=q.cell 1;have S:=q.cell 2;have t3:=q.cell 3;have t4:=q.cell 4;obtain⟨E,F,G,H,I⟩:=m.t5;simp only[zo,zt,aa_,ab_,am_,an_,az_]at r0 r1 K N O Q R S t3 t4 T U E F G H I;replace B:=zy B;replace u:=zy u;replace y:=zy y;replace C:=zy C;replace x:=zy x;replace m:=zy m;replace q:=zy q);have q:=G_ m (.int .u8 40) (O_) (.string noB) (L_) (S_ (b.heap.size+1) 1 1);obtain⟨m,u,x,q3,y⟩:=q.d5;have q:=J_ (World.setCell ((b.alloc (.cells #[U_ c,z_ h,.string l,.slice a1 m1 c1,.slice a2 m2 c2] 111)).alloc (.cells #[U_ c,z_ h,.string l,.slice a1 m1 c1,.slice a2 m2 c2] 111)) ⟨w.heap.size+1+1,4,none⟩ (S_ (b.heap.size+1) 1 1)) (w.heap.size+1) (.int .u8 40) (O_) (.string noB) (L_) (S_ (b.heap.size+1) 1 1);generalize (((((World.setCell (World.setCell ((b.alloc (.cells #[U_ c,z_ h,.string l,.slice a1 m1 c1,.slice a2 m2 c2] 111)).alloc (.cells #[U_ c,z_ h,.string l,.slice a1 m1 c1,.slice a2 m2 c2] 111)) ⟨w.heap.size+1+1,4,none⟩ (S_ (b.heap.size+1) 1 1)) ⟨w.heap.size+1,0,none⟩ (.int .u8 40)).setCell ⟨w.heap.size+1,1,none⟩ (O_)).setCell ⟨w.heap.size+1,2,none⟩ (.string noB)).setCell ⟨w.heap.size+1,3,none⟩ (L_)).setCell ⟨w.heap.size+1,4,none⟩ (S_ (b.heap.size+1) 1 1))=W5 at *;refine bodyPost_ret (v:=.agg (zt 40 0 noB (L_) (S_ (b.heap.size+1) 1 1)).toArray) (by simp[results,results93,go_sem,m,u,x,q3,y,zt]) rfl ?_;rw[D.o];have m:=C.o.put ⟨w.heap.size+1+1,4,none⟩ (S_ (b.heap.size+1) 1 1) (by show w.heap.size<=w.heap.size+1+1;omega);rcases J.o with⟨d,hr,rfl⟩|⟨hr,rfl⟩
 .have u:Fr b (World.setCell ((b.alloc (.cells #[U_ c,z_ h,.string l,.slice a1 m1 c1,.slice a2 m2 c2] 111)).alloc (.cells #[U_ c,z_ h,.string l,.slice a1 m1 c1,.slice a2 m2 c2] 111)) ⟨w.heap.size+1+1,4,none⟩ (S_ (b.heap.size+1) 1 1)) (λg=>g=w.heap.size+2):=((((A_ b (λg=>g=w.heap.size+2)).alloc _).alloc _).setCell _ _ (λ_=>rfl));have u:((b.alloc (.cells #[U_ c,z_ h,.string l,.slice a1 m1 c1,.slice a2 m2 c2] 111)).alloc (.cells #[U_ c,z_ h,.string l,.slice a1 m1 c1,.slice a2 m2 c2] 111)).ownsRow 0 111 5 (S_ (b.heap.size+1) 1 1) 1 (zt c h l (.slice a1 m1 c1) (.slice a2 m2 c2)):=by
   have:=World.ownsRow_lit (base:=0) (e:=111) (size:=5) (b.alloc (.cells #[U_ c,z_ h,.string l,.slice a1 m1 c1,.slice a2 m2 c2] 111)) #[U_ c,z_ h,.string l,.slice a1 m1 c1,.slice a2 m2 c2] 1 o_ (by simp[maxLen]) rfl;have e:(b.alloc (.cells #[U_ c,z_ h,.string l,.slice a1 m1 c1,.slice a2 m2 c2] 111)).heap.size=b.heap.size+1:=by simp
   rw[e]at this;exact this
  refine wS (w.heap.size+1) M_ m q ?_;rw[hr];rfl
 .exact wZ (w.heap.size+1) M_ m q (by rw[hr];rfl)
def Pq(s:BA)(env:Nat->Option PB)(pl:Bool)(ts:List TR)(f:Nat)(l:List PT)(i:Nat):Prop:=
 ∀(w:World) (P:Nat->Prop) (bl bz:Nat) (js:List Nat) (h0 sn sc:Nat),DM w P bl s bz pl i false ts env w->jR ts js l->w.ownsRow 0 3 1 (S_ h0 sn sc) js.length (js.map λ(n:Nat)=>Value.int .i64 (n:Int))->P h0->
  Calls prog 93 #[P_ bl,.agg #[.int .u8 40,S_ h0 sn sc]] w (zW w bl s bz pl (qj (rdT s env pl f) s pl l i))
def mc{w:World}{base:Nat}{e:TypeId}{size:Nat}{n:Nat}{xs:List Value}{a:Option Addr}{m c:Nat}(h:w.ownsRow base e size (.slice a m c) n xs):m=n:=by
 rcases h.2 with⟨h1,h0⟩|⟨g,cap,_,h1,_⟩
 .cases h1;exact h0.symm
 .cases h1;rfl
def QQ{s:BA}{env:Nat->Option PB}{ts:List TR}{l:List PT}(hl:l≠[])(a:∀t∈l,vV s env true ts f t i):Pq s env true ts f l i:=by
 intro w P bl bz b h0 sn sc M c ho _;cases l with
 |nil=>exact absurd rfl hl
 |cons t r=>
  obtain⟨j,q,rfl,b,_⟩:=c;have c:=zr ho (g:=h0) (cap:=sc) (by rw[mc ho]) (k:=0) (x:=I_ j) rfl;have hn:=mc ho;have h:=nZ (sn:=sn) (sc:=sc) M c (by rw[hn];simp) b (a t (by simp));have e:qj (rdT s env true f) s true (t::r) i=KC 0 (rdT s env true f t i):=by
   unfold qj KC;rw[i_ rfl];rfl
  rw[e];exact h
def Qa{s:BA}{env:Nat->Option PB}{pl:Bool}{ts:List TR}{l:List PT}(h:l≠[])(hB:Pq s env pl ts f l i):vV s env pl ts (f+1) (.alts p l) i:=by
 intro w P bl bz k M hk;obtain⟨u,hk,b⟩:=hk;obtain⟨g,m,cap,sv,z0,a,a,x,ho,q⟩:=M.Z.type hk;simp only[az_]at a;refine hq_ λc A=>?_;have c:0<u.length:=by rw[iM b];exact List.length_pos_iff.2 h
 have h:=M.lt;have h:=zQ z0;have h:=zQ a;have c3:=M.L.c3;have c2:=M.L.c2;obtain⟨h0,a,rfl⟩:=zm ho c;have y:P h0:=q h0 rfl;obtain⟨sn,c⟩:=e_ u.length;simp only[<- c]at x ho;replace c:=zy c;have x:=zy (nk M 40 (S_ h0 sn a));have z:=zy (lZ w 40 (S_ h0 sn a));have h:=ng w 40 (S_ h0 sn a);have u0:=h.cell 0;have B:=h.cell 1;simp only[dw,zo,zt,noB,aa_,ab_,az_]at u0 B;have B:=zy (zj ho ((((A_ w N_).alloc (.cells zo.toArray 111)).alloc (.cells #[.int .u8 40,S_ h0 sn a] 75)).alloc (.cells (zt 40 0 noB (L_) (L_)).toArray 111)) u_);have C:=λX Y Z=>yu c2 X Y Z;have C:(k:Int)<(m:Int):=M_;replace q:=zy q;replace b:=zy b;replace hB:=zy hB;go_in;go_wp2_with (go_at_call 93;apply(hB.o _ P bl bz u h0 sn a x.o.here b (by rw[<- c.o];exact B) y).mono;intro e y hP;obtain⟨c,h,q,a1,m1,c1,a2,m2,c2,a,a,rfl,b,u,B⟩:=zW.any x hP;have a:=u.bl z M_;have r0:=a.cell 0;have r1:=a.cell 1;have x:=a.cell 2;have z:=a.cell 3;have C:=a.cell 4;obtain⟨D,D,D,D,D⟩:=a.t5;simp only[zo,zt,aa_,ab_,az_]at r0 r1 x z C;revert b u a;refine h_ λb u a=>?_);have u:=G_ a (U_ c) (z_ h) (.string q) (.slice a1 m1 c1) (.slice a2 m2 c2);obtain⟨x,z,C,q3,D⟩:=u.d5;have a:=J_ y (w.heap.size) (U_ c) (z_ h) (.string q) (.slice a1 m1 c1) (.slice a2 m2 c2);generalize (((((World.setCell y ⟨w.heap.size,0,none⟩ (U_ c)).setCell ⟨w.heap.size,1,none⟩ (z_ h)).setCell ⟨w.heap.size,2,none⟩ (.string q)).setCell ⟨w.heap.size,3,none⟩ (.slice a1 m1 c1)).setCell ⟨w.heap.size,4,none⟩ (.slice a2 m2 c2))=W5 at *;refine bodyPost_ret (v:=.agg (zt c h q (.slice a1 m1 c1) (.slice a2 m2 c2)).toArray) (by simp[results,results64,go_sem,x,z,C,q3,D,zt]) rfl ?_;rw[A.o];rcases B.o with⟨d,hr,rfl⟩|⟨hr,rfl⟩
 .exact xP b a (by simp only[rdT];rw[hr];rfl)
 .exact vJ b a (by simp only[rdT];exact hr)
def WL(s:BA)(env:Nat->Option PB)(pl:Bool)(ts:List TR)(f:Nat)(pb:PB)(i:Nat):Prop:=
 ∀(w:World) (P:Nat->Prop) (bl bz:Nat) (so:Int) (fv:Value) (sb:BA) (o n:Int),DM w P bl s bz pl i false ts env w->wO w P ts pb so fv sb n->
  Calls prog 94 #[P_ bl,.agg #[.int .u8 so,fv,.string sb,z_ o,z_ n]] w (zW w bl s bz pl (yf (rdT s env pl f) s pb i))
def nw(w:World)(c:Nat)(fv:Value)(sb:BA)(o n:Int):World:=
 ((w.alloc (.cells #[U_ c,fv,.string sb,z_ o,z_ n] 44)).alloc (.cells zo.toArray 111)).alloc (.cells (zt c 0 noB (L_) (L_)).toArray 111)
def Fx(w:World)(c:Nat)(fv:Value)(sb:BA)(o n:Int):Blk (nw w c fv sb o n) w.heap.size [U_ c,fv,.string sb,z_ o,z_ n] 44:=((B_ w _ _).alloc _).alloc _
def Fy(w:World)(c:Nat)(fv:Value)(sb:BA)(o n:Int):Blk (nw w c fv sb o n) (w.heap.size+1) zo 111:=by
 have:=(B_ (w.alloc (.cells #[U_ c,fv,.string sb,z_ o,z_ n] 44)) zo.toArray 111).alloc (.cells (zt c 0 noB (L_) (L_)).toArray 111);simpa[nw] using this
def GO(w:World)(c:Nat)(fv:Value)(sb:BA)(o n:Int):Blk (nw w c fv sb o n) (w.heap.size+2) (zt c 0 noB (L_) (L_)) 111:=by
 have:=B_ ((w.alloc (.cells #[U_ c,fv,.string sb,z_ o,z_ n] 44)).alloc (.cells zo.toArray 111)) (zt c 0 noB (L_) (L_)).toArray 111;simpa[nw] using this
def GA{w:World}{P:Nat->Prop}{bl:Nat}{s:BA}{bz:Nat}{pl:Bool}{j:Nat}{ts:List TR}{env:Nat->Option PB}(M:DM w P bl s bz pl j bad ts env w)(c:Nat)(fv:Value)(sb:BA)(o n:Int):DM w P bl s bz pl j bad ts env (nw w c fv sb o n):=((M.alloc _).alloc _).alloc _
def JY{s:BA}{env:Nat->Option PB}{pl:Bool}{ts:List TR}{m:Nat}:WL s env pl ts f (.bytes m) i:=by
 intro w P bl bz so fv sb o n M x;obtain⟨⟨fa,B,fc,rfl⟩,a0,rfl,x⟩:=x;refine hq_ λa8 Q_=>?_;have b5:=M.lt;have a7:=M.jl;have T:=M.sl;have X:=zy (GA M 102 (.slice fa B fc) sb o n);have B0:=zy (Fx w 102 (.slice fa B fc) sb o n);have B1:=zy (Fy w 102 (.slice fa B fc) sb o n);have B2:=zy (GO w 102 (.slice fa B fc) sb o n);have b4:=zy (show(nw w 102 (.slice fa B fc) sb o n).heap.size=w.heap.size+3 by simp[nw]);replace x:=zy x;have hn:=x.o;subst hn;go_in;go_upto_if 94 with(first
  |(go_at_call 91;apply(qZ A.o.L T A.o.jl).mono;intro e w2 hT;obtain⟨tx,j2,rfl,O,z,hx,hK⟩:=hT.any A;have F:=z.bl D M_;have G:=z.bl E M_;have u:=z.bl V M_;have p1:=u.cell 2;have p2:=u.th 2;have b:=O.put ⟨w.heap.size+1+1,2,none⟩ (.string tx) (by show w.heap.size<=w.heap.size+1+1;omega);have c:=T_ u 2 (.string tx);have d:=F_ G (a:=⟨w.heap.size+1+1,2,none⟩) (.string tx) (by show ¬(w.heap.size+1=w.heap.size+1+1);omega);have I:=F_ F (a:=⟨w.heap.size+1+1,2,none⟩) (.string tx) (by show ¬(w.heap.size=w.heap.size+1+1);omega);have p3:=c.cell 2;have p4:=I.cell 4;have a4:=b.L.c2;have a5:=b.L.th 2;simp only[zt,aa_,ab_,am_,an_]at p1 p3 p4;revert O z F G u b;refine m_ λO z F G u b=>?_;revert c d I;refine h_ λc d I=>?_)
  |(go_at_call 88;apply(xg 39 X.o.L T a7 rfl D_).mono;rintro e w1 ⟨rfl,C⟩;obtain⟨j1,Y,A,y,hJ⟩:=qc.any D_ X C;have D:=y.bl B0 M_;have E:=y.bl B1 M_;have V:=zy (y.bl B2 M_);revert A y D E;refine g_ λA y D E=>?_))
 go_cut [] (λW=>∃K,DM w P bl s bz pl j2 K ts env W/\Blk W (w.heap.size+1) zo 111/\Blk W (w.heap.size+2) (zt 102 0 tx (L_) (L_)) 111/\((K=Y/\tx.size=m)\/(K=true/\tx.size≠m)));case first=>
  by_cases h:tx.size=m
  .have en:(((tx.size:Nat):Int) != (m:Int))=false:=by simp;omega
   replace h:=zy h;go_wp2;go_meet;case rel=>exact⟨Y,b,d,c,.inl ⟨rfl,h⟩⟩
  .have en:(((tx.size:Nat):Int) != (m:Int))=true:=by simp;omega
   replace h:=zy h;go_wp2;go_meet;case rel=>exact⟨true,b.o.sp,F_ d _ (by show ¬(w.heap.size+1=bl);omega),F_ c _ (by show ¬(w.heap.size+2=bl);omega),.inr ⟨rfl,h⟩⟩
 case rest=>
  obtain⟨K,b,d,c,N⟩:=hcut;revert b d c N;refine g_ λb d c N=>?_;go_wp2_with (go_at_call 88;apply(xg 39 b.o.L T b.o.jl rfl D_).mono;rintro e w4 ⟨rfl,C⟩;obtain⟨j4,a9,J,H,a6⟩:=qc.any D_ b C;have g:=H.bl d M_;have l:=H.bl c M_;have r0:=g.cell 0;have r1:=g.cell 1;have r2:=g.cell 2;have r3:=g.cell 3;have r4:=g.cell 4;have t0:=l.cell 0;have t1:=l.cell 1;have t2:=l.cell 2;have t3:=l.cell 3;have t4:=l.cell 4;obtain⟨g0,g1,g2,g3,g4⟩:=g.t5;simp only[zo,zt,aa_,ab_,az_]at r0 r1 r2 r3 r4 t0 t1 t2 t3 t4;revert J H g l;refine g_ λJ H g l=>?_);have L5:=G_ g (.int .u8 102) (O_) (.string tx) (L_) (L_);obtain⟨q0,q1,q2,q3,q4⟩:=L5.d5;have Z:=J_ w4 (w.heap.size+1) (.int .u8 102) (O_) (.string tx) (L_) (L_);generalize (((((World.setCell w4 ⟨w.heap.size+1,0,none⟩ (.int .u8 102)).setCell ⟨w.heap.size+1,1,none⟩ (O_)).setCell ⟨w.heap.size+1,2,none⟩ (.string tx)).setCell ⟨w.heap.size+1,3,none⟩ (L_)).setCell ⟨w.heap.size+1,4,none⟩ (L_))=W5 at *;refine bodyPost_ret (v:=.agg (zt 102 0 tx (L_) (L_)).toArray) (by simp[results,results94,go_sem,q0,q1,q2,q3,q4,zt]) rfl ?_;rw[Q_.o];obtain⟨U,b6,a3⟩:=hK.o;rcases a6.o with⟨rfl,q,rfl,rfl⟩|⟨q,_,rfl⟩
  .rcases N.o with⟨hb,h⟩|⟨hb,_⟩
   .subst hb;rcases hJ.o with⟨_,h1,rfl,_⟩|⟨_,_,hb⟩
    .have Q:=a3 rfl;have R:j2-(i+1)=m:=by
      rw[<- h,U,bl_];have:=b.o.jl;omega
     subst U;refine wS (w.heap.size+1) M_ J Z ?_;unfold yf;simp only;rw[<- Q,i_ ⟨h1,R,q⟩];rfl
    .cases hb
   .cases hb
  .refine wZ (w.heap.size+1) M_ J Z ?_;unfold yf;simp only;refine n_ (λS=>?_);rcases hJ.o with⟨_,h1,rfl,rfl⟩|⟨h1,_,hb⟩
   .have Q:=a3 rfl;rw[<- Q]at S;have R:tx.size=m:=by
     rw[U,bl_];have:=b.o.jl;omega
    rcases N.o with⟨hb,_⟩|⟨_,hb⟩
    .rcases q with q|q
     .rw[q]at hb;cases hb
     .exact q S.2.2
    .exact hb R
   .rcases h1 with h1|h1
    .cases h1
    .exact h1 S.1
def Jm{sb:BA}{l:List (Nat×Nat)}(h:sb.data.toList.map UInt8.toNat=l.map Prod.fst)(c:Nat):plc sb c=match (l.map Prod.fst).findIdx? (λx=>x==c) with|some k=>(k:Int)|none=>-1:=by
 rw[<- h,List.findIdx?_map];rfl
def KE{s:BA}{env:Nat->Option PB}{pl:Bool}{ts:List TR}{l:List (Nat×Nat)}{b9:Option (Nat×Nat)}(R:∀c∈l.map Prod.fst,0<c)(e2:l.length<=300):WL s env pl ts f (.enum l b9) i:=by
 intro w P bl bz so fv sb o n M B;obtain⟨⟨fa,z,fc,rfl⟩,a0,rfl,B⟩:=B;refine hq_ λd2 Q_=>?_;have e1:=M.lt;have a7:=M.jl;have b6:=M.sl;have M0:=zy (GA M 101 (.slice fa z fc) sb o n);have B0:=zy (Fx w 101 (.slice fa z fc) sb o n);have B1:=zy (Fy w 101 (.slice fa z fc) sb o n);have B2:=zy (GO w 101 (.slice fa z fc) sb o n);have e0:=zy (show(nw w 101 (.slice fa z fc) sb o n).heap.size=w.heap.size+3 by simp[nw]);replace B:=zy B;have b5:sb.size<=100000:=by
  have:=congrArg List.length B;rw[bo_,bo_]at this;have e:sb.size=sb.data.toList.length:=by rw[Array.length_toList];rfl
  omega
 obtain⟨c,hc⟩:=x_ (bt s i);have a8:=zy (show lk s i false=c by simp[lk,hc]);obtain⟨v,hv⟩:=x_ (plc sb c);replace hc:=zy hc;replace hv:=zy hv;replace R:=zy R;go_in;go_wp2;change Code.wp _ _ _ _ (nw w 101 (.slice fa z fc) sb o n);generalize nw w 101 (.slice fa z fc) sb o n=W0 at *;have u2:=B0.o.c2;refine tr_ 6 (λW=>f_ W w.heap.size 2 (.string sb)) ?_;refine tb_ 0 rfl K_ (λ_ _ _ h=>h) (by rfl) (by intro W hW;go_simp<;>rfl) ?_;refine tb_ 1 rfl K_ (λ_ _ _ h=>h) (by rfl) (by intro W hW;go_simp<;>rfl) ?_;refine tb_ 2 rfl K_ (λ_ _ _ h=>h) (by rfl) (by intro W hW;go_simp<;>rfl) ?_;refine zw 3 rfl K_ (λ_=>u2) (λK G=>?_);go_simp;apply(yP (M0.o.si (zq.drew W0)).L b6 a7).mono;rintro e w1 ⟨rfl,b8⟩;rw[a8.o];refine G _ _ ?_;have a5:zq W0 w1:=(zq.drew W0).trans b8;have O:=M0.o.si a5;have F:=(A_ W0 (λg=>g=bl)).si a5;have I:=F.bl B0 M_;have J:=F.bl B1 M_;have E:=F.bl B2 M_;have H:=I.cell 2;have p1:=E.cell 1;have p2:=E.th 1;simp only[zt,aa_,ab_]at H p1;refine zw 4 rfl K_ (λ_=>H) (λK G=>?_);go_simp;apply(vC sb c w1 b5).mono;rintro e w' ⟨rfl,a4⟩;rw[hv.o];refine G _ _ ?_;rw[a4];refine t1_ 5 H ?_;refine t1_ 6 H ?_;refine td_ ?_ _;have m:=O.put ⟨w.heap.size+1+1,1,none⟩ (z_ v) (by show w.heap.size<=w.heap.size+1+1;omega);have u:=T_ E 1 (z_ v);have A:=F_ J (a:=⟨w.heap.size+1+1,1,none⟩) (z_ v) (by show ¬(w.heap.size+1=w.heap.size+1+1);omega);have p3:=u.cell 1;have d6:=m.L.c1;have d7:=m.L.c2;have d8:=m.L.th 1;have d9:=m.L.th 2;simp only[zt,aa_,ab_,am_,an_]at p3;have C:=Jm B c;have a6:=GN sb c;rw[hv.o]at C a6;replace C:=zy C;by_cases b7:v<0
 .have y:=m.sp;have b:=F_ A (a:=⟨bl,2,none⟩) (.bool true) (by show ¬(w.heap.size+1=bl);omega);have d:=F_ u (a:=⟨bl,2,none⟩) (.bool true) (by show ¬(w.heap.size+2=bl);omega);have r0:=b.cell 0;have r1:=b.cell 1;have X:=b.cell 2;have Y:=b.cell 3;have Z:=b.cell 4;have t0:=d.cell 0;have t1:=d.cell 1;have t2:=d.cell 2;have t3:=d.cell 3;have t4:=d.cell 4;obtain⟨g0,g1,g2,g3,g4⟩:=b.t5;simp only[zo,zt,aa_,ab_,am_,an_,az_]at r0 r1 X Y Z t0 t1 t2 t3 t4;revert m u A y b d;refine m_ λm u A y b d=>?_;go_wp2;have N:=G_ b (.int .u8 101) (z_ v) (.string noB) (L_) (L_);obtain⟨S,T,U,q3,V⟩:=N.d5;have Q:=J_ ((World.setCell w1 ⟨w.heap.size+1+1,1,none⟩ (z_ v)).setCell ⟨bl,2,none⟩ (.bool true)) (w.heap.size+1) (.int .u8 101) (z_ v) (.string noB) (L_) (L_);generalize (((((World.setCell ((World.setCell w1 ⟨w.heap.size+1+1,1,none⟩ (z_ v)).setCell ⟨bl,2,none⟩ (.bool true)) ⟨w.heap.size+1,0,none⟩ (.int .u8 101)).setCell ⟨w.heap.size+1,1,none⟩ (z_ v)).setCell ⟨w.heap.size+1,2,none⟩ (.string noB)).setCell ⟨w.heap.size+1,3,none⟩ (L_)).setCell ⟨w.heap.size+1,4,none⟩ (L_))=W5 at *;refine bodyPost_ret (v:=.agg (zt 101 v noB (L_) (L_)).toArray) (by simp[results,results94,go_sem,S,T,U,q3,V,zt]) rfl ?_;rw[Q_.o];refine wZ (w.heap.size+1) M_ y Q ?_;unfold yf;simp only;rw[hc.o];have h:=C.o;cases D:(l.map Prod.fst).findIdx? (λx=>x==c) with
  |none=>rw[ite_self]
  |some q=>rw[D]at h;simp only at h;omega
 .have e3:0<=v:=M_;have a3:i<s.size:=by
   refine zc (s:=s) (i:=i) ?_;rw[hc.o];have h:=C.o;cases D:(l.map Prod.fst).findIdx? (λx=>x==c) with
   |none=>rw[D]at h;simp only at h;omega
   |some q=>
    obtain⟨a9,b4,_⟩:=List.findIdx?_eq_some_iff_getElem.1 D;have:=R.o _ (a0_ a9);simp only[beq_iff_eq]at b4;omega
  have y:=m.inc a3;have b:=F_ A (a:=⟨bl,1,none⟩) (z_ ((i:Int)+1)) (by show ¬(w.heap.size+1=bl);omega);have d:=F_ u (a:=⟨bl,1,none⟩) (z_ ((i:Int)+1)) (by show ¬(w.heap.size+2=bl);omega);have r0:=b.cell 0;have r1:=b.cell 1;have X:=b.cell 2;have Y:=b.cell 3;have Z:=b.cell 4;have t0:=d.cell 0;have t1:=d.cell 1;have t2:=d.cell 2;have t3:=d.cell 3;have t4:=d.cell 4;obtain⟨g0,g1,g2,g3,g4⟩:=b.t5;simp only[zo,zt,aa_,ab_,am_,an_,az_]at r0 r1 X Y Z t0 t1 t2 t3 t4;revert m u A y b d;refine m_ λm u A y b d=>?_;go_wp2;have N:=G_ b (.int .u8 101) (z_ v) (.string noB) (L_) (L_);obtain⟨S,T,U,q3,V⟩:=N.d5;have Q:=J_ ((World.setCell w1 ⟨w.heap.size+1+1,1,none⟩ (z_ v)).setCell ⟨bl,1,none⟩ (z_ ((i:Int)+1))) (w.heap.size+1) (.int .u8 101) (z_ v) (.string noB) (L_) (L_);generalize (((((World.setCell ((World.setCell w1 ⟨w.heap.size+1+1,1,none⟩ (z_ v)).setCell ⟨bl,1,none⟩ (z_ ((i:Int)+1))) ⟨w.heap.size+1,0,none⟩ (.int .u8 101)).setCell ⟨w.heap.size+1,1,none⟩ (z_ v)).setCell ⟨w.heap.size+1,2,none⟩ (.string noB)).setCell ⟨w.heap.size+1,3,none⟩ (L_)).setCell ⟨w.heap.size+1,4,none⟩ (L_))=W5 at *;refine bodyPost_ret (v:=.agg (zt 101 v noB (L_) (L_)).toArray) (by simp[results,results94,go_sem,S,T,U,q3,V,zt]) rfl ?_;rw[Q_.o];refine wS (w.heap.size+1) M_ y Q ?_;unfold yf;simp only;rw[i_ a3,hc.o];have h:=C.o;cases D:(l.map Prod.fst).findIdx? (λx=>x==c) with
  |none=>rw[D]at h;simp only at h;omega
  |some q=>rfl
end Go.Proofs.YtjkiencmjggakaaGreatDoor
