import Derived.Test.YtiifagiebikmdaaGreatDoorW16
import Derived.Test.YtiifagiebikmdaaGreatDoorW01
namespace Go.Proofs.YtiifagiebikmdaaGreatDoor
open Go.RowKit
theorem ZAt.named {w:World}{P:Nat→Prop}{bz:Nat}{ts:List TR}{env:Nat→Option PB}(h:ZAt w P bz ts env){q:Nat}(hq:q<6){pb:PB}(hp:env (65+q)=some pb) :
 ∃ (so:Int) (fv:Value) (sb:ByteArray) (o n:Int),NamedAt w P ts pb so fv sb n∧w.cell? ⟨bz,1+q*5,none⟩=some (.int .u8 so)∧w.cell? ⟨bz,1+q*5+1,none⟩=some fv∧w.cell? ⟨bz,1+q*5+2,none⟩=some (.string sb)∧w.cell? ⟨bz,1+q*5+3,none⟩=some (.int .i64 o)∧w.cell? ⟨bz,1+q*5+4,none⟩=some (.int .i64 n):=by
 obtain⟨tv,zs,a,_,c⟩:=h.z
 obtain⟨so,fv,sb,o,n,c1,c2⟩:=c q hq pb hp
 have key:∀ p,p<5→w.cell? ⟨bz,1+q*5+p,none⟩=[Value.int .u8 so,fv,Value.string sb,Value.int .i64 o,Value.int .i64 n][p]?:=fun p hp=>by
  rw[a.cell,show 1+q*5+p=(5*q+p)+1 by omega,List.getElem?_cons_succ]
  exact c1 p hp
 exact⟨so,fv,sb,o,n,c2,key 0 (by omega),key 1 (by omega),key 2 (by omega),key 3 (by omega),key 4 (by omega)⟩
theorem wrap_name (q c:Nat) (h:c=65+q) (h6:q<6):IntKind.i64.wrap (IntKind.i64.wrap (c:Int)-65)=(q:Int):=by
 subst h
 match q,h6 with
 | 0,_=>rfl
 | 1,_=>rfl
 | 2,_=>rfl
 | 3,_=>rfl
 | 4,_=>rfl
 | 5,_=>rfl
set_option maxHeartbeats 8000000 in
set_option maxRecDepth 100000 in
theorem dat_name {s:ByteArray}{env:Nat→Option PB}{pl:Bool}{ts:List TR}{f p i c:Nat}{pb:PB}(hc:isName c=true) (hpb:env c=some pb) (hNm:NmOK s env pl ts f pb i):DatOK s env pl ts (f+1) (.leaf c p) i:=by
 intro w P bl bz k M hk
 simp only[isT] at hk
 have hcr:65≤c∧c≤70:=by simpa[isName] using hc
 obtain⟨q,hq⟩:∃ q,c=65+q:=⟨c-65,by omega⟩
 have hq6:q<6:=by omega
 obtain⟨g,m,cap,sv,z0,hkm,z1,z2,ho,hoP⟩:=M.Z.type hk
 simp only at z1
 have hrd:rdT s env pl (f+1) (.leaf c p) i=rdNamed (rdT s env pl f) s pb i:=by
  simp only[rdT]
  unfold rdLeaf
  rw[if_neg (by omega),if_neg (by omega),if_neg (by omega),if_neg (by omega),hpb]
 rw[hrd]
 obtain⟨POST,hPOST⟩:∃ Q,Hid (Q=DatPost w bl s bz pl (rdNamed (rdT s env pl f) s pb i)):=⟨_,rfl⟩
 rw[← hPOST.out]
 have hl1:=M.lt
 have hl2:=cell_lt z0
 have hl3:=cell_lt z1
 have c3:=M.L.c3
 have c2:=M.L.c2
 have hjl:=M.jl
 have hsl:=M.sl
 obtain⟨sa,sn,sc,rfl⟩:=own_slice ho
 have M0:=hide (dw_M M c (.slice sa sn sc))
 have B0:=hide (dw_0 w c (.slice sa sn sc))
 have B1:=hide (dw_1 w c (.slice sa sn sc))
 have hdl:=hide (show(dw w c (.slice sa sn sc)).heap.size=w.heap.size+3 by simp[dw])
 have d2:=fun X Y Z=>cell_alloc3 c2 X Y Z
 have hkm':(k:Int)<(m:Int):=by omega
 have n1:((c:Int)==110)=false:=by simp;omega
 have n2:((c:Int)==116)=false:=by simp;omega
 have n3:((c:Int)==105)=false:=by simp;omega
 have n4:((c:Int)==108)=false:=by simp;omega
 have n5:((c:Int)==115)=false:=by simp;omega
 have n6:((c:Int)==91)=false:=by simp;omega
 have n7:((c:Int)==123)=false:=by simp;omega
 have n8:((c:Int)==40)=false:=by simp;omega
 replace M:=hide M
 replace ho:=hide ho
 replace hoP:=hide hoP
 replace hk:=hide hk
 replace hNm:=hide hNm
 replace hpb:=hide hpb
 replace hq:=hide hq
 clear hrd hc
 go_enter Tryz.func34,Tryz.ntmps34
 go_wp2_with fail
 change Code.wp _ _ _ _ (dw w c (.slice sa sn sc))
 generalize dw w c (.slice sa sn sc)=W0 at *
 have M1:=M0.out.still (Still.drew W0)
 obtain⟨so,fv,sb,o,n,hN,y0,y1,y2,y3,y4⟩:=M1.Z.named hq6 (by rw[← hq.out];exact hpb.out)
 obtain⟨fa,fn,fc,rfl⟩:=hN.1
 have u3:=M1.L.c3
 have u0:=B1.out.cell 0
 simp only[List.getElem?_cons_zero] at u0
 have hwq:=wrap_name q c hq.out hq6
 have hq6':(q:Int)<6:=by omega
 have hC:=hide (hNm.out _ P bl bz so (.slice fa fn fc) sb o n M1.here hN)
 replace hN:=hide hN
 refine wp_regionC 14 (fun W=>(W.cell? ⟨bl,3,none⟩=some (.pointer (some ⟨bz,0,none⟩))∧W.cell? ⟨w.heap.size+1,0,none⟩=some (.int .u8 (c:Int))∧W.cell? ⟨bz,1+q*5,none⟩=some (.int .u8 so)∧W.cell? ⟨bz,1+q*5+1,none⟩=some (.slice fa fn fc)∧W.cell? ⟨bz,1+q*5+2,none⟩=some (.string sb)∧W.cell? ⟨bz,1+q*5+3,none⟩=some (.int .i64 o)∧W.cell? ⟨bz,1+q*5+4,none⟩=some (.int .i64 n))) (by kernel_rfl) ?_
 refine wpAnyC_take 0 ?v0 rfl (by kernel_rfl) (fun _ _ _ h=>h) (by rfl) ?y0 ?_
 case y0=>(rintro W ⟨h1,h2,h3,h4,h5,h6,h7⟩;go_simp <;> first|rfl|exact hwq)
 refine wpAnyC_take 1 ?v1 rfl (by kernel_rfl) (fun _ _ _ h=>h) (by rfl) ?y1 ?_
 case y1=>(rintro W ⟨h1,h2,h3,h4,h5,h6,h7⟩;go_simp <;> first|rfl|exact hwq)
 refine wpAnyC_take 2 ?v2 rfl (by kernel_rfl) (fun _ _ _ h=>h) (by rfl) ?y2 ?_
 case y2=>(rintro W ⟨h1,h2,h3,h4,h5,h6,h7⟩;go_simp <;> first|rfl|exact hwq)
 refine wpAnyC_take 3 ?v3 rfl (by kernel_rfl) (fun _ _ _ h=>h) (by rfl) ?y3 ?_
 case y3=>(rintro W ⟨h1,h2,h3,h4,h5,h6,h7⟩;go_simp <;> first|rfl|exact hwq)
 refine wpAnyC_take 4 ?v4 rfl (by kernel_rfl) (fun _ _ _ h=>h) (by rfl) ?y4 ?_
 case y4=>(rintro W ⟨h1,h2,h3,h4,h5,h6,h7⟩;go_simp <;> first|rfl|exact hwq)
 refine wpAnyC_take 5 ?v5 rfl (by kernel_rfl) (fun _ _ _ h=>h) (by rfl) ?y5 ?_
 case y5=>(rintro W ⟨h1,h2,h3,h4,h5,h6,h7⟩;go_simp <;> first|rfl|exact hwq)
 refine wpAnyC_take 6 ?v6 rfl (by kernel_rfl) (fun _ _ _ h=>h) (by rfl) ?y6 ?_
 case y6=>(rintro W ⟨h1,h2,h3,h4,h5,h6,h7⟩;go_simp <;> first|rfl|exact hwq)
 refine wpAnyC_take 7 ?v7 rfl (by kernel_rfl) (fun _ _ _ h=>h) (by rfl) ?y7 ?_
 case y7=>(rintro W ⟨h1,h2,h3,h4,h5,h6,h7⟩;go_simp <;> first|rfl|exact hwq)
 refine wpAnyC_take 8 (.int .i64 (q:Int)) rfl (by kernel_rfl) (fun _ _ _ h=>h) (by rfl) ?y8 ?_
 case y8=>(rintro W ⟨h1,h2,h3,h4,h5,h6,h7⟩;go_simp <;> first|rfl|exact hwq)
 refine wpAnyC_take 9 ?v9 rfl (by kernel_rfl) (fun _ _ _ h=>h) (by rfl) ?y9 ?_
 case y9=>(rintro W ⟨h1,h2,h3,h4,h5,h6,h7⟩;go_simp <;> first|rfl|exact hwq)
 refine wpAnyC_take 10 ?v10 rfl (by kernel_rfl) (fun _ _ _ h=>h) (by rfl) ?y10 ?_
 case y10=>(rintro W ⟨h1,h2,h3,h4,h5,h6,h7⟩;go_simp <;> first|rfl|exact hwq)
 refine wpAnyC_take 11 ?v11 rfl (by kernel_rfl) (fun _ _ _ h=>h) (by rfl) ?y11 ?_
 case y11=>(rintro W ⟨h1,h2,h3,h4,h5,h6,h7⟩;go_simp <;> first|rfl|exact hwq)
 refine wpAnyC_take 12 ?v12 rfl (by kernel_rfl) (fun _ _ _ h=>h) (by rfl) ?y12 ?_
 case y12=>(rintro W ⟨h1,h2,h3,h4,h5,h6,h7⟩;go_simp <;> first|rfl|exact hwq)
 refine wpAnyC_one 13 rfl (by kernel_rfl) (fun _=>⟨u3,u0,y0,y1,y2,y3,y4⟩) (fun K hK=>?_)
 go_simp
 refine hC.out.mono ?_
 intro e w2 hP
 obtain⟨dk,dm,dtx,a1,m1,c1,a2,m2,c2,j2,bad2,rfl,M2,F2,hJ2⟩:=DatPost.any M1 hP
 refine hK _ _ ?_
 clear hK K hP
 have D0:=F2.blk B0.out (by omega)
 have D1:=F2.blk B1.out (by omega)
 have r0:=D0.cell 0
 have r1:=D0.cell 1
 have r2:=D0.cell 2
 have r3:=D0.cell 3
 have r4:=D0.cell 4
 have g0:=D0.thaw 0
 have g1:=D0.thaw 1
 have g2:=D0.thaw 2
 have g3:=D0.thaw 3
 have g4:=D0.thaw 4
 simp only[zeroDat,dvals,List.getElem?_cons_zero,List.getElem?_cons_succ,Int.cast_ofNat_Int] at r0 r1 r2 r3 r4
 have hbb:bz<W0.heap.size:=by rw[hdl.out];omega
 have hbne:bz≠bl:=fun e=>M1.nP (e▸M1.Z.zP)
 have hzz:∀ o',w2.cell? ⟨bz,o',none⟩=W0.cell? ⟨bz,o',none⟩:=fun o'=>World.cell?_of_block (a:=⟨bz,o',none⟩) (F2.block bz hbb hbne)
 have u0':=D1.cell 0
 simp only[List.getElem?_cons_zero] at u0'
 have hFz:(w2.cell? ⟨bl,3,none⟩=some (.pointer (some ⟨bz,0,none⟩))∧w2.cell? ⟨w.heap.size+1,0,none⟩=some (.int .u8 (c:Int))∧w2.cell? ⟨bz,1+q*5,none⟩=some (.int .u8 so)∧w2.cell? ⟨bz,1+q*5+1,none⟩=some (.slice fa fn fc)∧w2.cell? ⟨bz,1+q*5+2,none⟩=some (.string sb)∧w2.cell? ⟨bz,1+q*5+3,none⟩=some (.int .i64 o)∧w2.cell? ⟨bz,1+q*5+4,none⟩=some (.int .i64 n)):=⟨M2.L.c3,u0',(hzz _).trans y0,(hzz _).trans y1,(hzz _).trans y2,(hzz _).trans y3,(hzz _).trans y4⟩
 refine wpAnyC_one 14 rfl (by kernel_rfl) (fun _=>hFz) (fun K hK=>?_)
 go_simp
 refine hK _ _ ?_
 clear hK K
 refine wpAnyC_done (by kernel_rfl) (fun hm=>absurd hm (by decide)) ?_ _
 replace M1:=hide M1
 replace M2:=hide M2
 replace F2:=hide F2
 replace D0:=hide D0
 clear D1 hzz hFz u0' y0 y1 y2 y3 y4 u3 u0
 go_wp2_with fail
 have L5:=Blk.five D0.out (.int .u8 (dk:Int)) (.int .i64 dm) (.string dtx) (.slice a1 m1 c1) (.slice a2 m2 c2)
 have q0:=L5.cell 0
 have q1:=L5.cell 1
 have q2:=L5.cell 2
 have q3:=L5.cell 3
 have q4:=L5.cell 4
 simp only[List.getElem?_cons_zero,List.getElem?_cons_succ] at q0 q1 q2 q3 q4
 have hF:=Fr.five w2 (w.heap.size) (.int .u8 (dk:Int)) (.int .i64 dm) (.string dtx) (.slice a1 m1 c1) (.slice a2 m2 c2)
 generalize (((((World.setCell w2 ⟨w.heap.size,0,none⟩ (.int .u8 (dk:Int))).setCell ⟨w.heap.size,1,none⟩ (.int .i64 dm)).setCell ⟨w.heap.size,2,none⟩ (.string dtx)).setCell ⟨w.heap.size,3,none⟩ (.slice a1 m1 c1)).setCell ⟨w.heap.size,4,none⟩ (.slice a2 m2 c2))=W5 at *
 refine bodyPost_ret (v:=.agg (dvals dk dm dtx (.slice a1 m1 c1) (.slice a2 m2 c2)).toArray) (by simp[results,Tryz.results34,go_sem,q0,q1,q2,q3,q4,dvals]) rfl ?_
 rw[hPOST.out]
 rcases hJ2.out with⟨d,hr,rfl,hdv⟩|⟨hr,rfl⟩
 ·exact dat_good M2.out (hdv.mono (fun g _ hg=>by have:W0.drew.heap.size=W0.heap.size:=rfl;rw[this,hdl.out] at hg;omega)) hF hr
 ·exact dat_bad M2.out ⟨_,_,_,rfl⟩ ⟨_,_,_,rfl⟩ hF hr
open Go.RowKit
def Within (s:ByteArray) (env:Nat→Option PB) (pl:Bool) (ts:List TR) (f:Nat) (l:List PT) (i:Nat):Prop:=
 ∀ t∈l,∀ j,(pl=true→j=i)→(pl=false→i<j)→j≤s.size→DatOK s env pl ts f t j
theorem dat_ok {s:ByteArray}{env:Nat→Option PB}{pl:Bool}{ts:List TR}(hE:okEnv env) (hBr:∀ f l i,l≠[]→i≤s.size→Within s env pl ts f l i→BrOK s env pl ts f l i) :
 ∀ (f:Nat) (t:PT) (i:Nat),okT env t→i≤s.size→2*(s.size-i)+(if t.isAlts=true then 1 else 0)<f→DatOK s env pl ts f t i:=by
 intro f
 induction f with
 | zero=>intro t i _ _ h;omega
 | succ f ih=>
  intro t i ht hi hm
  have deeper:∀ u j,okT env u→i<j→j≤s.size→t.isAlts=false→DatOK s env pl ts f u j:=fun u j hu h1 h2 h3=>ih u j hu h2 (by
   rw[h3] at hm
   simp only[Bool.false_eq_true,if_false] at hm
   split <;> omega)
  cases t with
  | leaf c p=>
   rcases ht with hb|⟨hn,pb,hpb⟩
   ·simp only[isBase,Bool.or_eq_true,beq_iff_eq] at hb
    rcases hb with(((rfl|rfl)|rfl)|rfl)|rfl
    ·exact dat_n
    ·exact dat_t
    ·exact dat_i
    ·exact dat_l
    ·exact dat_s
   ·refine dat_name hn hpb ?_
    have hB:=hE c pb hpb
    cases pb with
    | recd fs=>exact nm_recd (fun g hg j h1 h2=>deeper g.ty j (hB g hg) h1 h2 rfl)
    | enum l o=>exact nm_enum hB.1 hB.2
    | bytes n=>exact nm_bytes
  | wrap c p u=>
   obtain⟨hc,hu⟩:=ht
   rcases hc with rfl|rfl
   ·exact dat_wrap91 (fun j h1 h2=>deeper u j hu h1 h2 rfl)
   ·exact dat_wrap123 (fun j h1 h2=>deeper u j hu h1 h2 rfl)
  | alts p l=>
   obtain⟨hl,hts⟩:=ht
   refine dat_alts hl (hBr f l i hl hi (fun u hu j h1 h2 h3=>?_))
   obtain⟨hna,hu'⟩:=okTs_at hts u hu
   have hij:i≤j:=by
    cases pl with
    | true=>have:=h1 rfl;omega
    | false=>have:=h2 rfl;omega
   refine ih u j hu' h3 ?_
   rw[hna]
   simp only[PT.isAlts,if_true] at hm
   simp only[Bool.false_eq_true,if_false]
   omega
theorem dat_plain {s:ByteArray}{env:Nat→Option PB}{ts:List TR}(hE:okEnv env){t:PT}(ht:okT env t):DatOK s env true ts (2*s.size+2) t 0:=by
 refine dat_ok hE (fun f l i hl hi hW=>br_plain hl (fun t h=>hW t h i (fun _=>rfl) (fun h=>by cases h) hi)) _ t 0 ht (Nat.zero_le _) ?_
 split <;> omega
open Go.RowKit
def readT (env:Nat→Option PB) (pl:Bool) (t:PT) (s:ByteArray):Option DT:=
 match rdT s env pl (2*s.size+2) t 0 with
 | none=>none
 | some (d,j)=>if j=s.size then some d else none
def ReadPost (w:World) (r:Option DT) (e:Ending) (w':World):Prop:=
 ∃ (k:Nat) (n:Int) (tx:ByteArray) (a1:Option Addr) (m1 c1:Nat) (a2:Option Addr) (m2 c2:Nat),e=.returned (.tuple #[.agg #[.int .u8 (k:Int),.int .i64 n,.string tx,.slice a1 m1 c1,.slice a2 m2 c2],.bool r.isSome])∧Fr w w' (fun _=>False)∧
  ∀ d,r=some d→DVal w' (fun g=>w.heap.size≤g) d (dvals k n tx (.slice a1 m1 c1) (.slice a2 m2 c2))
def lw (w:World) (s:ByteArray) (bz:Nat) (pl:Bool):World:=
 (w.alloc (.cells zeroDat.toArray 37)).alloc (.cells #[.string s,.int .i64 0,.bool false,.pointer (some ⟨bz,0,none⟩),.bool pl] 98)
theorem lw_M {w:World}{P:Nat→Prop}{s:ByteArray}{bz:Nat}{pl:Bool}{ts:List TR}{env:Nat→Option PB}(Z:ZAt w P bz ts env) (hP:∀ g,P g→g<w.heap.size) (hs:s.size≤4000):DM (lw w s bz pl) P (w.heap.size+1) s bz pl 0 false ts env (lw w s bz pl):=by
 refine⟨?_,Z.fr (((Fr.refl w (fun _=>False)).alloc _).alloc _) (fun _ _ f=>f),fun h=>by have:=hP _ h;omega,fun g hg=>by have:=hP g hg;simp[lw];omega,by simp[lw],Fr.refl _ _,Nat.zero_le _,hs⟩
 have:=Blk.new (w.alloc (.cells zeroDat.toArray 37)) #[.string s,.int .i64 0,.bool false,.pointer (some ⟨bz,0,none⟩),.bool pl] 98
 have e:(w.alloc (.cells zeroDat.toArray 37)).heap.size=w.heap.size+1:=by simp
 rw[e] at this
 exact this
set_option maxHeartbeats 8000000 in
set_option maxRecDepth 100000 in
theorem read_ok {w:World}{P:Nat→Prop}{s:ByteArray}{bz:Nat}{pl:Bool}{ts:List TR}{env:Nat→Option PB}{k:Nat}{t:PT}(Z:ZAt w P bz ts env) (hP:∀ g,P g→g<w.heap.size) (hs:s.size≤4000) (hk:isT ts k t) (hD:DatOK s env pl ts (2*s.size+2) t 0) :
 Calls Tryz.prog 19 #[.pointer (some ⟨bz,0,none⟩),.string s,.int .i64 (k:Int),.bool pl] w (ReadPost w (readT env pl t s)):=by
 obtain⟨POST,hPOST⟩:∃ Q,Hid (Q=ReadPost w (readT env pl t s)):=⟨_,rfl⟩
 rw[← hPOST.out]
 have M0:=hide (lw_M (s:=s) (pl:=pl) Z hP hs)
 have B0:=hide (show Blk (lw w s bz pl) w.heap.size zeroDat 37 from(Blk.new w _ _).alloc _)
 have hdl:=hide (show(lw w s bz pl).heap.size=w.heap.size+2 by simp[lw])
 have F0:=hide (show Fr w (lw w s bz pl) (fun _=>False) from((Fr.refl w _).alloc _).alloc _)
 replace Z:=hide Z
 replace hk:=hide hk
 replace hD:=hide hD
 replace hP:=hide hP
 go_enter Tryz.func19,Tryz.ntmps19
 go_wp2_with (go_at_call 34;refine(hD.out _ P (w.heap.size+1) bz k M0.out hk.out).mono ?_;intro e w2 hQ;obtain⟨dk,dm,dtx,a1,m1,c1,a2,m2,c2,j2,bad2,rfl,M2,F2,hJ2⟩:=DatPost.any M0.out hQ;have D0:=F2.blk B0.out (by omega);replace M2:=hide M2;replace F2:=hide F2;replace D0:=hide D0;clear hQ)
 change Code.wp _ _ _ _ (w2.alloc (.cells #[.int .u8 (dk:Int),.int .i64 dm,.string dtx,.slice a1 m1 c1,.slice a2 m2 c2] 37))
 have hs2:=F2.out.size
 rw[hdl.out] at hs2
 have M3:=M2.out.alloc (.cells #[.int .u8 (dk:Int),.int .i64 dm,.string dtx,.slice a1 m1 c1,.slice a2 m2 c2] 37)
 have R0:=D0.out.alloc (.cells #[.int .u8 (dk:Int),.int .i64 dm,.string dtx,.slice a1 m1 c1,.slice a2 m2 c2] 37)
 have X3:=Blk.new w2 #[.int .u8 (dk:Int),.int .i64 dm,.string dtx,.slice a1 m1 c1,.slice a2 m2 c2] 37
 have F3:Fr w (w2.alloc (.cells #[.int .u8 (dk:Int),.int .i64 dm,.string dtx,.slice a1 m1 c1,.slice a2 m2 c2] 37)) (fun _=>False):=(F0.out.trans F2.out (fun x hx e=>by omega)).alloc _
 have F23:Fr w2 (w2.alloc (.cells #[.int .u8 (dk:Int),.int .i64 dm,.string dtx,.slice a1 m1 c1,.slice a2 m2 c2] 37)) (fun _=>False):=(Fr.refl w2 _).alloc _
 generalize w2.alloc (.cells #[.int .u8 (dk:Int),.int .i64 dm,.string dtx,.slice a1 m1 c1,.slice a2 m2 c2] 37)=W3 at *
 generalize hbx:w2.heap.size=bx at *
 have e2:=M3.L.c2
 have e1:=M3.L.c1
 have x0:=X3.cell 0
 have x1:=X3.cell 1
 have x2:=X3.cell 2
 have x3:=X3.cell 3
 have x4:=X3.cell 4
 have r0:=R0.cell 0
 have r1:=R0.cell 1
 have r2:=R0.cell 2
 have r3:=R0.cell 3
 have r4:=R0.cell 4
 have g0:=R0.thaw 0
 have g1:=R0.thaw 1
 have g2:=R0.thaw 2
 have g3:=R0.thaw 3
 have g4:=R0.thaw 4
 simp only[zeroDat,dvals,List.getElem?_cons_zero,List.getElem?_cons_succ,Int.cast_ofNat_Int] at r0 r1 r2 r3 r4 x0 x1 x2 x3 x4
 have hFz:∀ W',Fr W3 W' (fun g=>g=w.heap.size)→W'.cell? ⟨w.heap.size+1,2,none⟩=some (.bool bad2)∧W'.cell? ⟨w.heap.size+1,1,none⟩=some (.int .i64 (j2:Int))∧W'.cell? ⟨bx,0,none⟩=some (.int .u8 (dk:Int))∧W'.cell? ⟨bx,1,none⟩=some (.int .i64 dm)∧W'.cell? ⟨bx,2,none⟩=some (.string dtx)∧W'.cell? ⟨bx,3,none⟩=some (.slice a1 m1 c1)∧W'.cell? ⟨bx,4,none⟩=some (.slice a2 m2 c2):=fun W' hf=>by
  have hL:=hf.blk M3.L (by omega)
  have hX:=hf.blk X3 (by omega)
  exact⟨hL.cell 2,hL.cell 1,hX.cell 0,hX.cell 1,hX.cell 2,hX.cell 3,hX.cell 4⟩
 replace hFz:=hFz _ ((Fr.five W3 w.heap.size (.int .u8 (dk:Int)) (.int .i64 dm) (.string dtx) (.slice a1 m1 c1) (.slice a2 m2 c2)).drew)
 have hj2:=M3.jl
 replace M3:=hide M3
 replace R0:=hide R0
 replace X3:=hide X3
 replace F3:=hide F3
 replace F23:=hide F23
 cases hb:bad2 with
 | false=>
  subst hb
  refine wp_regionC 16 (fun W=>W.cell? ⟨w.heap.size+1,2,none⟩=some (.bool false)∧W.cell? ⟨w.heap.size+1,1,none⟩=some (.int .i64 (j2:Int))∧W.cell? ⟨bx,0,none⟩=some (.int .u8 (dk:Int))∧W.cell? ⟨bx,1,none⟩=some (.int .i64 dm)∧W.cell? ⟨bx,2,none⟩=some (.string dtx)∧W.cell? ⟨bx,3,none⟩=some (.slice a1 m1 c1)∧W.cell? ⟨bx,4,none⟩=some (.slice a2 m2 c2)) (by kernel_rfl) ?_
  refine wpAnyC_take 0 ?v0 rfl (by kernel_rfl) (fun _ _ _ h=>h) (by kernel_rfl) ?y0 ?_
  case y0=>(rintro W ⟨h1,h2,h3,h4,h5,h6,h7⟩;go_simp <;> rfl)
  refine wpAnyC_take 1 ?v1 rfl (by kernel_rfl) (fun _ _ _ h=>h) (by kernel_rfl) ?y1 ?_
  case y1=>(rintro W ⟨h1,h2,h3,h4,h5,h6,h7⟩;go_simp <;> rfl)
  refine wpAnyC_take 2 ?v2 rfl (by kernel_rfl) (fun _ _ _ h=>h) (by kernel_rfl) ?y2 ?_
  case y2=>(rintro W ⟨h1,h2,h3,h4,h5,h6,h7⟩;go_simp <;> rfl)
  refine wpAnyC_take 3 ?v3 rfl (by kernel_rfl) (fun _ _ _ h=>h) (by kernel_rfl) ?y3 ?_
  case y3=>(rintro W ⟨h1,h2,h3,h4,h5,h6,h7⟩;go_simp <;> rfl)
  refine wpAnyC_take 4 ?v4 rfl (by kernel_rfl) (fun _ _ _ h=>h) (by kernel_rfl) ?y4 ?_
  case y4=>(rintro W ⟨h1,h2,h3,h4,h5,h6,h7⟩;go_simp <;> rfl)
  refine wpAnyC_take 5 ?v5 rfl (by kernel_rfl) (fun _ _ _ h=>h) (by kernel_rfl) ?y5 ?_
  case y5=>(rintro W ⟨h1,h2,h3,h4,h5,h6,h7⟩;go_simp <;> rfl)
  refine wpAnyC_take 6 ?v6 rfl (by kernel_rfl) (fun _ _ _ h=>h) (by kernel_rfl) ?y6 ?_
  case y6=>(rintro W ⟨h1,h2,h3,h4,h5,h6,h7⟩;go_simp <;> rfl)
  refine wpAnyC_take 7 ?v7 rfl (by kernel_rfl) (fun _ _ _ h=>h) (by kernel_rfl) ?y7 ?_
  case y7=>(rintro W ⟨h1,h2,h3,h4,h5,h6,h7⟩;go_simp <;> rfl)
  refine wpAnyC_take 8 ?v8 rfl (by kernel_rfl) (fun _ _ _ h=>h) (by kernel_rfl) ?y8 ?_
  case y8=>(rintro W ⟨h1,h2,h3,h4,h5,h6,h7⟩;go_simp <;> rfl)
  refine wpAnyC_take 9 ?v9 rfl (by kernel_rfl) (fun _ _ _ h=>h) (by kernel_rfl) ?y9 ?_
  case y9=>(rintro W ⟨h1,h2,h3,h4,h5,h6,h7⟩;go_simp <;> rfl)
  refine wpAnyC_take 10 ?v10 rfl (by kernel_rfl) (fun _ _ _ h=>h) (by kernel_rfl) ?y10 ?_
  case y10=>(rintro W ⟨h1,h2,h3,h4,h5,h6,h7⟩;go_simp <;> rfl)
  refine wpAnyC_take 11 ?v11 rfl (by kernel_rfl) (fun _ _ _ h=>h) (by kernel_rfl) ?y11 ?_
  case y11=>(rintro W ⟨h1,h2,h3,h4,h5,h6,h7⟩;go_simp <;> rfl)
  refine wpAnyC_take 12 ?v12 rfl (by kernel_rfl) (fun _ _ _ h=>h) (by kernel_rfl) ?y12 ?_
  case y12=>(rintro W ⟨h1,h2,h3,h4,h5,h6,h7⟩;go_simp <;> rfl)
  refine wpAnyC_take 13 ?v13 rfl (by kernel_rfl) (fun _ _ _ h=>h) (by kernel_rfl) ?y13 ?_
  case y13=>(rintro W ⟨h1,h2,h3,h4,h5,h6,h7⟩;go_simp <;> rfl)
  refine wpAnyC_take 14 ?v14 rfl (by kernel_rfl) (fun _ _ _ h=>h) (by kernel_rfl) ?y14 ?_
  case y14=>(rintro W ⟨h1,h2,h3,h4,h5,h6,h7⟩;go_simp <;> rfl)
  refine wpAnyC_one 15 rfl (by kernel_rfl) (fun _=>⟨e2,e1,x0,x1,x2,x3,x4⟩) (fun K hK=>?_)
  go_simp
  refine hK _ _ ?_
  clear hK K
  refine wpAnyC_one 16 rfl (by kernel_rfl) (fun _=>hFz) (fun K hK=>?_)
  go_simp
  refine hK _ _ ?_
  clear hK K
  refine wpAnyC_done (by kernel_rfl) (fun hm=>absurd hm (by decide)) ?_ _
  have L5:=(Blk.five R0.out (.int .u8 (dk:Int)) (.int .i64 dm) (.string dtx) (.slice a1 m1 c1) (.slice a2 m2 c2)).drew
  have q0:=L5.cell 0
  have q1:=L5.cell 1
  have q2:=L5.cell 2
  have q3:=L5.cell 3
  have q4:=L5.cell 4
  simp only[List.getElem?_cons_zero,List.getElem?_cons_succ] at q0 q1 q2 q3 q4
  have hF:=hide ((Fr.five W3 w.heap.size (.int .u8 (dk:Int)) (.int .i64 dm) (.string dtx) (.slice a1 m1 c1) (.slice a2 m2 c2)).drew)
  have hFw:Fr w _ (fun _=>False):=F3.out.trans hF.out (fun x hx e=>by omega)
  replace hFw:=hide hFw
  replace L5:=hide L5
  clear hFz e2 e1 x0 x1 x2 x3 x4 r0 r1 r2 r3 r4 g0 g1 g2 g3 g4
  generalize (World.setCell (World.setCell (World.setCell (World.setCell (World.setCell W3 ⟨w.heap.size,0,none⟩ (.int .u8 (dk:Int))) ⟨w.heap.size,1,none⟩ (.int .i64 dm)) ⟨w.heap.size,2,none⟩ (.string dtx)) ⟨w.heap.size,3,none⟩ (.slice a1 m1 c1)) ⟨w.heap.size,4,none⟩ (.slice a2 m2 c2)).drew=W5 at *
  go_wp2_with fail
  refine bodyPost_ret (v:=.tuple #[.agg #[.int .u8 (dk:Int),.int .i64 dm,.string dtx,.slice a1 m1 c1,.slice a2 m2 c2],.bool ((j2:Int)==(s.size:Int))]) (by simp[results,Tryz.results19,go_sem,q0,q1,q2,q3,q4]) rfl ?_
  rw[hPOST.out]
  rcases hJ2.out with⟨d,hr,_,hdv⟩|⟨_,h⟩
  ·have hrt:readT env pl t s=if j2=s.size then some d else none:=by unfold readT;rw[hr]
   refine⟨dk,dm,dtx,a1,m1,c1,a2,m2,c2,?_,hFw.out,fun d' hd'=>?_⟩
   ·rw[hrt]
    by_cases hj:j2=s.size
    ·rw[if_pos hj,hj];simp
    ·rw[if_neg hj,show(((j2:Nat):Int)==((s.size:Nat):Int))=false by simp;omega];rfl
   ·rw[hrt] at hd'
    split at hd'
    ·simp only[Option.some.injEq] at hd'
     subst hd'
     exact(((hdv.fr F23.out (fun _ _ f=>f)).fr hF.out (fun g hg e=>by rw[hdl.out] at hg;omega))).mono (fun g _ hg=>by rw[hdl.out] at hg;omega)
    ·cases hd'
  ·cases h
 | true=>
  subst hb
  refine wp_regionC 16 (fun W=>W.cell? ⟨w.heap.size+1,2,none⟩=some (.bool true)∧W.cell? ⟨w.heap.size+1,1,none⟩=some (.int .i64 (j2:Int))∧W.cell? ⟨bx,0,none⟩=some (.int .u8 (dk:Int))∧W.cell? ⟨bx,1,none⟩=some (.int .i64 dm)∧W.cell? ⟨bx,2,none⟩=some (.string dtx)∧W.cell? ⟨bx,3,none⟩=some (.slice a1 m1 c1)∧W.cell? ⟨bx,4,none⟩=some (.slice a2 m2 c2)) (by kernel_rfl) ?_
  refine wpAnyC_take 0 ?bv0 rfl (by kernel_rfl) (fun _ _ _ h=>h) (by kernel_rfl) ?by0 ?_
  case by0=>(rintro W ⟨h1,h2,h3,h4,h5,h6,h7⟩;go_simp <;> rfl)
  refine wpAnyC_take 1 ?bv1 rfl (by kernel_rfl) (fun _ _ _ h=>h) (by kernel_rfl) ?by1 ?_
  case by1=>(rintro W ⟨h1,h2,h3,h4,h5,h6,h7⟩;go_simp <;> rfl)
  refine wpAnyC_take 2 ?bv2 rfl (by kernel_rfl) (fun _ _ _ h=>h) (by kernel_rfl) ?by2 ?_
  case by2=>(rintro W ⟨h1,h2,h3,h4,h5,h6,h7⟩;go_simp <;> rfl)
  refine wpAnyC_take 3 ?bv3 rfl (by kernel_rfl) (fun _ _ _ h=>h) (by kernel_rfl) ?by3 ?_
  case by3=>(rintro W ⟨h1,h2,h3,h4,h5,h6,h7⟩;go_simp <;> rfl)
  refine wpAnyC_take 4 ?bv4 rfl (by kernel_rfl) (fun _ _ _ h=>h) (by kernel_rfl) ?by4 ?_
  case by4=>(rintro W ⟨h1,h2,h3,h4,h5,h6,h7⟩;go_simp <;> rfl)
  refine wpAnyC_take 5 ?bv5 rfl (by kernel_rfl) (fun _ _ _ h=>h) (by kernel_rfl) ?by5 ?_
  case by5=>(rintro W ⟨h1,h2,h3,h4,h5,h6,h7⟩;go_simp <;> rfl)
  refine wpAnyC_take 6 ?bv6 rfl (by kernel_rfl) (fun _ _ _ h=>h) (by kernel_rfl) ?by6 ?_
  case by6=>(rintro W ⟨h1,h2,h3,h4,h5,h6,h7⟩;go_simp <;> rfl)
  refine wpAnyC_skip 7 rfl (by kernel_rfl) (fun _ _ _ h=>h) (by kernel_rfl) ?_
  refine wpAnyC_skip 8 rfl (by kernel_rfl) (fun _ _ _ h=>h) (by kernel_rfl) ?_
  refine wpAnyC_skip 9 rfl (by kernel_rfl) (fun _ _ _ h=>h) (by kernel_rfl) ?_
  refine wpAnyC_skip 10 rfl (by kernel_rfl) (fun _ _ _ h=>h) (by kernel_rfl) ?_
  refine wpAnyC_skip 11 rfl (by kernel_rfl) (fun _ _ _ h=>h) (by kernel_rfl) ?_
  refine wpAnyC_skip 12 rfl (by kernel_rfl) (fun _ _ _ h=>h) (by kernel_rfl) ?_
  refine wpAnyC_skip 13 rfl (by kernel_rfl) (fun _ _ _ h=>h) (by kernel_rfl) ?_
  refine wpAnyC_take 14 ?bv14 rfl (by kernel_rfl) (fun _ _ _ h=>h) (by kernel_rfl) ?by14 ?_
  case by14=>(rintro W ⟨h1,h2,h3,h4,h5,h6,h7⟩;go_simp <;> rfl)
  refine wpAnyC_one 15 rfl (by kernel_rfl) (fun _=>⟨e2,e1,x0,x1,x2,x3,x4⟩) (fun K hK=>?_)
  go_simp
  refine hK _ _ ?_
  clear hK K
  refine wpAnyC_one 16 rfl (by kernel_rfl) (fun _=>hFz) (fun K hK=>?_)
  go_simp
  refine hK _ _ ?_
  clear hK K
  refine wpAnyC_done (by kernel_rfl) (fun hm=>absurd hm (by decide)) ?_ _
  have L5:=(Blk.five R0.out (.int .u8 (dk:Int)) (.int .i64 dm) (.string dtx) (.slice a1 m1 c1) (.slice a2 m2 c2)).drew
  have q0:=L5.cell 0
  have q1:=L5.cell 1
  have q2:=L5.cell 2
  have q3:=L5.cell 3
  have q4:=L5.cell 4
  simp only[List.getElem?_cons_zero,List.getElem?_cons_succ] at q0 q1 q2 q3 q4
  have hF:=hide ((Fr.five W3 w.heap.size (.int .u8 (dk:Int)) (.int .i64 dm) (.string dtx) (.slice a1 m1 c1) (.slice a2 m2 c2)).drew)
  have hFw:Fr w _ (fun _=>False):=F3.out.trans hF.out (fun x hx e=>by omega)
  replace hFw:=hide hFw
  replace L5:=hide L5
  clear hFz e2 e1 x0 x1 x2 x3 x4 r0 r1 r2 r3 r4 g0 g1 g2 g3 g4
  generalize (World.setCell (World.setCell (World.setCell (World.setCell (World.setCell W3 ⟨w.heap.size,0,none⟩ (.int .u8 (dk:Int))) ⟨w.heap.size,1,none⟩ (.int .i64 dm)) ⟨w.heap.size,2,none⟩ (.string dtx)) ⟨w.heap.size,3,none⟩ (.slice a1 m1 c1)) ⟨w.heap.size,4,none⟩ (.slice a2 m2 c2)).drew=W5 at *
  go_wp2_with fail
  refine bodyPost_ret (v:=.tuple #[.agg #[.int .u8 (dk:Int),.int .i64 dm,.string dtx,.slice a1 m1 c1,.slice a2 m2 c2],.bool false]) (by simp[results,Tryz.results19,go_sem,q0,q1,q2,q3,q4]) rfl ?_
  rw[hPOST.out]
  rcases hJ2.out with⟨_,_,h,_⟩|⟨hr,_⟩
  ·cases h
  ·have hrt:readT env pl t s=none:=by unfold readT;rw[hr]
   rw[hrt]
   exact⟨dk,dm,dtx,a1,m1,c1,a2,m2,c2,rfl,hFw.out,fun d' hd'=>by cases hd'⟩
end Go.Proofs.YtiifagiebikmdaaGreatDoor
