import Derived.Test.YtiifagiebikmdaaGreatDoorW17
import Derived.Test.YtiifagiebikmdaaGreatDoorW09
namespace Go.Proofs.YtiifagiebikmdaaGreatDoor
open Go.RowKit
def fsOf (env:Nat→Option PB) (k:Nat):List PF:=match env (65+k) with|some (.recd fs)=>fs|_=>[]
def FKind:Nat→Value→Prop
 | 5,v=>∃ a,v=.int .u8 a
 | 6,v=>∃ a,v=.int .i64 a
 | 7,v=>∃ a,v=.string a
 | 8,v=>∃ a m c,v=.slice a m c
 | 9,v=>∃ a m c,v=.slice a m c
 | _,_=>False
def dfTx (s:ByteArray) (f:PF):ByteArray:=match f.dflt with|none=>⟨#[]⟩|some (a,b)=>s.extract a b
def dfAt (f:PF):Nat:=(f.dflt.map Prod.fst).getD 0
def FRow (s:ByteArray) (ts:List TR) (fs:List PF) (xs:List Value):Prop:=
 ∀ q f,fs[q]?=some f→(∃ num:Nat,isT ts num f.ty∧xs[10*q+1]?=some (.int .i64 (num:Int)))∧xs[10*q]?=some (.int .u8 (f.letter:Int))∧xs[10*q+2]?=some (.bool f.dflt.isSome)∧xs[10*q+3]?=some (.int .i64 (dfAt f:Int))∧xs[10*q+4]?=some (.string (dfTx s f))∧
  ∀ p,5≤p→p<10→∃ v,xs[10*q+p]?=some v∧FKind p v
def DTells (pb:Option PB) (so:Int) (sb:ByteArray) (n:Int):Prop:=
 match pb with
 | none=>True
 | some (.recd _)=>so=114
 | some (.enum l _)=>so=101∧sb.data.toList.map UInt8.toNat=l.map Prod.fst
 | some (.bytes k)=>so=102∧n=(k:Int)
structure SZ (W:World) (P1 P2:Nat→Prop) (bz:Nat) (s:ByteArray) (ts:List TR) (env:Nat→Option PB) (rt:Value):Prop where
 dis:∀ g,P2 g→¬ P1 g
 zP:P1 bz
 z:∃ tv zs,Blk W bz (tv::zs) 47∧zs[30]?=some rt∧TyRow W P1 tv ts∧
  ∀ k,k<6→∃ (so:Int) (fv:Value) (sb:ByteArray) (o n:Int) (xs:List Value),(∀ p,p<5→zs[5*k+p]?=[Value.int .u8 so,fv,Value.string sb,Value.int .i64 o,Value.int .i64 n][p]?)∧
   W.ownsRow 0 80 10 fv (fsOf env k).length xs∧(∀ g,fv.ownBlock=some g→P2 g)∧FRow s ts (fsOf env k) xs∧DTells (env (65+k)) so sb n
section
variable {W W':World} {P1 P2:Nat→Prop} {bz:Nat} {s:ByteArray} {ts:List TR} {env:Nat→Option PB} {rt:Value}
theorem SZ.fr {S:Nat→Prop}(h:SZ W P1 P2 bz s ts env rt) (hf:Fr W W' S) (h1:∀ g,P1 g→¬ S g) (h2:∀ g,P2 g→¬ S g):SZ W' P1 P2 bz s ts env rt:=by
 refine⟨h.dis,h.zP,?_⟩
 obtain⟨tv,zs,a,a2,b,c⟩:=h.z
 refine⟨tv,zs,hf.blk a (h1 _ h.zP),a2,b.fr hf h1,fun k hk=>?_⟩
 obtain⟨so,fv,sb,o,n,xs,c1,c2,c3,c4,c5⟩:=c k hk
 exact⟨so,fv,sb,o,n,xs,c1,ownsRow_fr c2 hf (fun g e=>h2 g (c3 g e)),c3,c4,c5⟩
theorem TyRow.mono {P Q:Nat→Prop}{tv:Value}(h:TyRow W P tv ts) (hQ:∀ g,P g→Q g):TyRow W Q tv ts:=by
 obtain⟨xs,a,b,c⟩:=h
 refine⟨xs,a,fun g e=>hQ g (b g e),fun k t ht=>?_⟩
 obtain⟨sv,c1,c2,c3,c4⟩:=c k t ht
 exact⟨sv,c1,c2,c3,fun g e=>hQ g (c4 g e)⟩
theorem SZ.toZ (h:SZ W P1 P2 bz s ts env rt):ZAt W (fun g=>P1 g∨P2 g) bz ts env:=by
 refine⟨.inl h.zP,?_⟩
 obtain⟨tv,zs,a,a2,b,c⟩:=h.z
 refine⟨tv,zs,a,b.mono (fun g hg=>.inl hg),fun k hk pb hp=>?_⟩
 obtain⟨so,fv,sb,o,n,xs,c1,c2,c3,c4,c5⟩:=c k hk
 refine⟨so,fv,sb,o,n,c1,own_slice c2,fun g e=>.inr (c3 g e),?_⟩
 rw[hp] at c5
 cases pb with
 | recd fs=>
  have e:fsOf env k=fs:=by unfold fsOf;rw[hp]
  rw[e] at c2 c4
  refine⟨c5,xs,c2,fun q f hf=>?_⟩
  obtain⟨⟨num,d1,d2⟩,_⟩:=c4 q f hf
  exact⟨num,d2,d1⟩
 | enum l u=>exact c5
 | bytes m=>exact c5
theorem row_set {e:TypeId}{v:Value}{n:Nat}{xs:List Value}(h:W.ownsRow 0 e 10 v n xs) (g o:Nat) (x:Value):∃ ys,(W.setCell ⟨g,o,none⟩ x).ownsRow 0 e 10 v n ys∧ys.length=xs.length∧∀ i,(i≠o→ys[i]?=xs[i]?)∧(i=o→ys[i]?=xs[i]?∨(i<xs.length∧ys[i]?=some x)):=by
 by_cases hg:v.ownBlock=some g
 ·rcases h.2 with⟨rfl,_⟩|⟨g',cap,cur,rfl,hb,hgg,h1,h2,h3,h4⟩
  ·simp[Value.ownBlock] at hg
  ·simp only[Value.ownBlock,Option.some.injEq] at hg
   subst hg
   refine⟨xs.set o x,⟨by rw[List.length_set];exact h.1,.inr ⟨g',cap,cur.setIfInBounds o x,rfl,hb,?_,h1,h2,by rw[Array.size_setIfInBounds];exact h3,?_⟩⟩,List.length_set,fun i=>⟨fun hi=>List.getElem?_set_ne (Ne.symm hi),fun hi=>?_⟩⟩
   ·simp[World.setCell,Array.getElem?_modify,hgg]
   ·rw[Array.toList_setIfInBounds,List.take_set,h4]
   ·subst hi
    by_cases hl:i<xs.length
    ·exact .inr ⟨hl,by rw[List.getElem?_set_self hl]⟩
    ·left
     rw[List.getElem?_eq_none (by rw[List.length_set];omega),List.getElem?_eq_none (by omega)]
 ·refine⟨xs,ownsRow_fr h ((Fr.refl W (fun b=>b=g)).setCell ⟨g,o,none⟩ x (fun _=>rfl)) (fun b hb e=>hg (e▸hb)),rfl,fun i=>⟨fun _=>rfl,fun _=>.inl rfl⟩⟩
theorem FRow.set {fs:List PF}{xs ys:List Value}{q0 p0:Nat}{x:Value}(h:FRow s ts fs xs) (hp:5≤p0∧p0<10) (hx:FKind p0 x) (h1:∀ i,(i≠10*q0+p0→ys[i]?=xs[i]?)∧(i=10*q0+p0→ys[i]?=xs[i]?∨(i<xs.length∧ys[i]?=some x))):FRow s ts fs ys:=by
 intro q f hf
 obtain⟨⟨num,a1,a2⟩,a0,a3,a4,a5,a6⟩:=h q f hf
 refine⟨⟨num,a1,by rw[(h1 _).1 (by omega)];exact a2⟩,by rw[(h1 _).1 (by omega)];exact a0,by rw[(h1 _).1 (by omega)];exact a3,by rw[(h1 _).1 (by omega)];exact a4,by rw[(h1 _).1 (by omega)];exact a5,fun p hp1 hp2=>?_⟩
 obtain⟨v,b1,b2⟩:=a6 p hp1 hp2
 by_cases he:10*q+p=10*q0+p0
 ·rcases(h1 _).2 he with e|⟨_,e⟩
  ·exact⟨v,by rw[e];exact b1,b2⟩
  ·have:p=p0:=by omega
   subst this
   exact⟨x,e,hx⟩
 ·exact⟨v,by rw[(h1 _).1 he];exact b1,b2⟩
theorem SZ.store (h:SZ W P1 P2 bz s ts env rt){g q0 p0:Nat}{x:Value}(hg:P2 g) (hp:5≤p0∧p0<10) (hx:FKind p0 x):SZ (W.setCell ⟨g,10*q0+p0,none⟩ x) P1 P2 bz s ts env rt:=by
 refine⟨h.dis,h.zP,?_⟩
 have hf:Fr W (W.setCell ⟨g,10*q0+p0,none⟩ x) (fun b=>b=g):=(Fr.refl W (fun b=>b=g)).setCell ⟨g,10*q0+p0,none⟩ x (fun _=>rfl)
 have hn:∀ b,P1 b→¬ b=g:=fun b hb e=>h.dis g hg (e▸hb)
 obtain⟨tv,zs,a,a2,b,c⟩:=h.z
 refine⟨tv,zs,hf.blk a (hn _ h.zP),a2,b.fr hf hn,fun k hk=>?_⟩
 obtain⟨so,fv,sb,o,n,xs,c1,c2,c3,c4,c5⟩:=c k hk
 obtain⟨ys,d1,_,d2⟩:=row_set c2 g (10*q0+p0) x
 exact⟨so,fv,sb,o,n,ys,c1,d1,c3,c4.set hp hx d2,c5⟩
theorem SZ.fields (h:SZ W P1 P2 bz s ts env rt){k:Nat}(hk:k<6):∃ fa fc,W.cell? ⟨bz,1+k*5+1,none⟩=some (.slice fa (fsOf env k).length fc)∧
 ∀ q f,(fsOf env k)[q]?=some f→∃ g num a b tx a1 m1 c1 a2 m2 c2,fa=some ⟨g,0,none⟩∧P2 g∧isT ts num f.ty∧
  W.cell? ⟨g,q*10,none⟩=some (.int .u8 (f.letter:Int))∧W.cell? ⟨g,q*10+1,none⟩=some (.int .i64 (num:Int))∧W.cell? ⟨g,q*10+2,none⟩=some (.bool f.dflt.isSome)∧W.cell? ⟨g,q*10+3,none⟩=some (.int .i64 (dfAt f:Int))∧W.cell? ⟨g,q*10+4,none⟩=some (.string (dfTx s f))∧
  W.cell? ⟨g,q*10+5,none⟩=some (.int .u8 a)∧W.cell? ⟨g,q*10+6,none⟩=some (.int .i64 b)∧W.cell? ⟨g,q*10+7,none⟩=some (.string tx)∧W.cell? ⟨g,q*10+8,none⟩=some (.slice a1 m1 c1)∧W.cell? ⟨g,q*10+9,none⟩=some (.slice a2 m2 c2)∧∀ o,W.frozen? ⟨g,o,none⟩=false:=by
 obtain⟨tv,zs,a,_,b,c⟩:=h.z
 obtain⟨so,fv,sb,o,n,xs,c1,c2,c3,c4,c5⟩:=c k hk
 obtain⟨fa,fc,rfl⟩:=own_sl c2
 refine⟨fa,fc,?_,fun q f hf=>?_⟩
 ·rw[a.cell,show 1+k*5+1=(5*k+1)+1 by omega,List.getElem?_cons_succ]
  exact c1 1 (by omega)
 ·have hlt:0<(fsOf env k).length:=by have:=(List.getElem?_eq_some_iff.1 hf).1;omega
  obtain⟨g,cap,hv⟩:=own_form c2 hlt
  simp only[Value.slice.injEq,true_and] at hv
  obtain⟨rfl,rfl⟩:=hv
  obtain⟨⟨num,a1,a2⟩,a0,a3,a4,a5,a6⟩:=c4 q f hf
  obtain⟨_,v5,⟨x5,rfl⟩⟩:=a6 5 (by omega) (by omega)
  obtain⟨_,v6,⟨x6,rfl⟩⟩:=a6 6 (by omega) (by omega)
  obtain⟨_,v7,⟨x7,rfl⟩⟩:=a6 7 (by omega) (by omega)
  obtain⟨_,v8,⟨y1,y2,y3,rfl⟩⟩:=a6 8 (by omega) (by omega)
  obtain⟨_,v9,⟨y4,y5,y6,rfl⟩⟩:=a6 9 (by omega) (by omega)
  have cell:=fun {i:Nat} {x:Value} (hx:xs[i]?=some x)=>own_cell c2 rfl hx
  rw[Nat.mul_comm] at a0 a2 a3 a4 a5 v5 v6 v7 v8 v9
  refine⟨g,num,x5,x6,x7,y1,y2,y3,y4,y5,y6,rfl,c3 g rfl,a1,cell a0,cell a2,cell a3,cell a4,cell a5,cell v5,cell v6,cell v7,cell v8,cell v9,fun o=>?_⟩
  rcases c2.2 with⟨hn,_⟩|⟨g',cap',cur,hv',_,hgg,_⟩
  ·cases hn
  ·cases hv'
   simp[World.frozen?,hgg]
end
def dflF (s:ByteArray) (env:Nat→Option PB) (fs:List PF) (m:Int):Int:=
 fs.foldl (fun m f=>match f.dflt with|none=>m|some (a,b)=>if (readT env true f.ty (s.extract a b)).isSome=true then m else firstOf (a:Int) m) m
def dflUpto (s:ByteArray) (env:Nat→Option PB):Nat→Int
 | 0=>-1
 | k+1=>dflF s env (fsOf env k) (dflUpto s env k)
open Go.RowKit
def dstep (s:ByteArray) (env:Nat→Option PB) (m:Int) (f:PF):Int:=
 match f.dflt with|none=>m|some (a,b)=>if (readT env true f.ty (s.extract a b)).isSome=true then m else firstOf (a:Int) m
theorem dflF_snoc {s:ByteArray}{env:Nat→Option PB}{fs:List PF}{q:Nat}{f:PF}(h:fs[q]?=some f) (m:Int):dflF s env (fs.take (q+1)) m=dstep s env (dflF s env (fs.take q) m) f:=by
 rw[List.take_add_one,h]
 unfold dflF
 rw[List.foldl_append]
 rfl
structure DefsM (w:World) (P1 P2:Nat→Prop) (bz:Nat) (s:ByteArray) (ts:List TR) (env:Nat→Option PB) (rt:Value) (W:World):Prop where
 Z:SZ W P1 P2 bz s ts env rt
 fr:Fr w W P2
 l1:∀ g,P1 g→g<w.heap.size
 l2:∀ g,P2 g→g<w.heap.size
section
variable {w W W':World} {P1 P2:Nat→Prop} {bz:Nat} {s:ByteArray} {ts:List TR} {env:Nat→Option PB} {rt:Value}
theorem DefsM.own (M:DefsM w P1 P2 bz s ts env rt W) (hf:Fr W W' (fun g=>w.heap.size≤g)):DefsM w P1 P2 bz s ts env rt W':=
 ⟨M.Z.fr hf (fun g hg=>by have:=M.l1 g hg;omega) (fun g hg=>by have:=M.l2 g hg;omega),M.fr.trans hf (fun x hx e=>absurd e (by omega)),M.l1,M.l2⟩
theorem DefsM.alloc (M:DefsM w P1 P2 bz s ts env rt W) (o:Obj):DefsM w P1 P2 bz s ts env rt (W.alloc o):=M.own ((Fr.refl W _).alloc o)
theorem DefsM.store (M:DefsM w P1 P2 bz s ts env rt W){g q0:Nat}(p0:Nat){x:Value}(hg:P2 g) (hp:5≤p0∧p0<10) (hx:FKind p0 x):DefsM w P1 P2 bz s ts env rt (W.setCell ⟨g,q0*10+p0,none⟩ x):=by
 rw[Nat.mul_comm]
 exact⟨M.Z.store hg hp hx,M.fr.setCell _ _ (fun _=>hg),M.l1,M.l2⟩
end
set_option maxHeartbeats 16000000 in
set_option maxRecDepth 100000 in
theorem defaults_ok {w:World}{P1 P2:Nat→Prop}{bz:Nat}{s:ByteArray}{ts:List TR}{env:Nat→Option PB}{rt:Value}(M:DefsM w P1 P2 bz s ts env rt w) (hs:s.size≤300) (hE:okEnv env) (hlen:∀ k,k<6→(fsOf env k).length≤300) (hok:∀ k f,k<6→f∈fsOf env k→okT env f.ty) :
 Calls Tryz.prog 25 #[.pointer (some ⟨bz,0,none⟩)] w fun e w'=>e=.returned (.int .i64 (dflUpto s env 6))∧DefsM w P1 P2 bz s ts env rt w':=by
 obtain⟨POST,hPOST⟩:∃ Q,Hid (Q=fun (e:Ending) (w':World)=>e=.returned (.int .i64 (dflUpto s env 6))∧DefsM w P1 P2 bz s ts env rt w'):=⟨_,rfl⟩
 rw[← hPOST.out]
 replace hE:=hide hE
 replace hlen:=hide hlen
 replace hok:=hide hok
 have start:∃ k:Nat,k≤6∧7-k≤7∧Value.int .i64 0=.int .i64 (k:Int)∧Value.int .i64 (-1)=.int .i64 (dflUpto s env k)∧DefsM w P1 P2 bz s ts env rt w:=⟨0,by omega,by omega,rfl,rfl,M⟩
 replace start:=hide start
 clear M
 go_enter Tryz.func25,Tryz.ntmps25
 go_wp2_with fail
 go_loopg [3,4] 7 (fun mm v3 v4 W=>∃ k:Nat,k≤6∧7-k≤mm∧v4=.int .i64 (k:Int)∧v3=.int .i64 (dflUpto s env k)∧DefsM w P1 P2 bz s ts env rt W)
 case atStart=>exact start.out
 case round=>
  clear start
  obtain⟨k,hk,hmm,rfl,rfl,M⟩:=hrel
  by_cases hk6:k<6
  ·have hk6':(k:Int)<6:=by omega
   have hl3:=hlen.out k hk6
   have start2:∃ q:Nat,q≤(fsOf env k).length∧(fsOf env k).length+1-q≤(fsOf env k).length+1∧Value.int .i64 0=.int .i64 (q:Int)∧Value.int .i64 (dflUpto s env k)=.int .i64 (dflF s env ((fsOf env k).take q) (dflUpto s env k))∧DefsM w P1 P2 bz s ts env rt wr:=⟨0,by omega,by omega,rfl,rfl,M⟩
   replace start2:=hide start2
   clear M
   go_wp2_with fail
   go_loopg [3,5] ((fsOf env k).length+1) (fun mm v3 v5 W=>∃ q:Nat,q≤(fsOf env k).length∧(fsOf env k).length+1-q≤mm∧v5=.int .i64 (q:Int)∧v3=.int .i64 (dflF s env ((fsOf env k).take q) (dflUpto s env k))∧DefsM w P1 P2 bz s ts env rt W)
   case atStart=>exact start2.out
   case round=>
    clear start2
    obtain⟨q,hq,hmq,rfl,rfl,M⟩:=hrel
    obtain⟨fa,fc,hfv,hfl⟩:=M.Z.fields hk6
    by_cases hql:q<(fsOf env k).length
    ·have hql':(q:Int)<((fsOf env k).length:Int):=by omega
     obtain⟨f,hf⟩:∃ f,(fsOf env k)[q]?=some f:=⟨_,List.getElem?_eq_getElem hql⟩
     have hfok:=hide (hok.out k f hk6 (List.mem_of_getElem? hf))
     have hsn:=hide (dflF_snoc (s:=s) (env:=env) hf (dflUpto s env k))
     obtain⟨g,num,xa,xb,xt,y1,y2,y3,y4,y5,y6,rfl,hg,hisT,e0,e1,e2,e3,e4,e5,e6,e7,e8,e9,hth⟩:=hfl q f hf
     obtain⟨m,hm⟩:∃ m,dflF s env ((fsOf env k).take q) (dflUpto s env k)=m:=⟨_,rfl⟩
     rw[hm] at hsn⊢
     have hb1:=cell_lt hfv
     have hb2:=cell_lt e0
     clear hfl hf
     replace hm:=hide hm
     replace M:=hide M
     replace hg:=hide hg
     replace hisT:=hide hisT
     replace hth:=hide hth
     cases hdf:f.dflt with
     | none=>
      simp only[hdf,Option.isSome_none] at e2
      replace hdf:=hide hdf
      go_wp2_with fail
      go_roundg ((fsOf env k).length+1-(q+1))
      case measure=>omega
      case rel=>exact⟨q+1,by omega,Nat.le_refl _,by simp,by rw[hsn.out];unfold dstep;rw[hdf.out],M.out.alloc _⟩
     | some ab=>
      obtain⟨a,b⟩:=ab
      simp only[hdf,Option.isSome_some] at e2
      rw[show dfAt f=a by simp[dfAt,hdf]] at e3
      rw[show dfTx s f=s.extract a b by simp[dfTx,hdf]] at e4
      obtain⟨tx,htx⟩:∃ t,t=s.extract a b:=⟨_,rfl⟩
      rw[← htx] at e4
      have htl:tx.size≤4000:=by rw[htx,ByteArray.size_extract];omega
      obtain⟨r,hr⟩:∃ r,readT env true f.ty tx=r:=⟨_,rfl⟩
      replace htx:=hide htx
      replace hr:=hide hr
      replace hdf:=hide hdf
      obtain⟨lt_,hlt_⟩:∃ x,x=(f.letter:Int):=⟨_,rfl⟩
      rw[← hlt_] at e0
      replace hlt_:=hide hlt_
      go_wp2_with (go_at_call 19;refine(read_ok (M.out.alloc _).Z.toZ (fun x hx=>by have h1:=M.out.fr.size;rcases hx with hx|hx;have:=M.out.l1 x hx;simp;omega;have:=M.out.l2 x hx;simp;omega) htl hisT.out (dat_plain hE.out hfok.out)).mono ?_;intro e w2 hP;rw[hr.out] at hP;obtain⟨dk,dm,dtx,a1,m1,c1,a2,m2,c2,rfl,F2,_⟩:=hP;have M2:=(M.out.alloc (.cells #[.int .u8 lt_,.int .i64 (num:Int),.bool true,.int .i64 (a:Int),.string tx,.int .u8 xa,.int .i64 xb,.string xt,.slice y1 y2 y3,.slice y4 y5 y6] 80)).own (F2.mono (fun _ _ f=>f.elim));have Bf:=F2.blk (Blk.new wr #[.int .u8 lt_,.int .i64 (num:Int),.bool true,.int .i64 (a:Int),.string tx,.int .u8 xa,.int .i64 xb,.string xt,.slice y1 y2 y3,.slice y4 y5 y6] 80) id;replace M2:=hide M2;replace Bf:=hide Bf;replace F2:=hide F2)
      change Code.wp _ _ _ _ (w2.alloc (.cells #[.int .u8 (dk:Int),.int .i64 dm,.string dtx,.slice a1 m1 c1,.slice a2 m2 c2] 37))
      have M3:=M2.out.alloc (.cells #[.int .u8 (dk:Int),.int .i64 dm,.string dtx,.slice a1 m1 c1,.slice a2 m2 c2] 37)
      have X3:=Blk.new w2 #[.int .u8 (dk:Int),.int .i64 dm,.string dtx,.slice a1 m1 c1,.slice a2 m2 c2] 37
      have Bf3:=Bf.out.alloc (.cells #[.int .u8 (dk:Int),.int .i64 dm,.string dtx,.slice a1 m1 c1,.slice a2 m2 c2] 37)
      have hfr:Fr wr (w2.alloc (.cells #[.int .u8 (dk:Int),.int .i64 dm,.string dtx,.slice a1 m1 c1,.slice a2 m2 c2] 37)) (fun _=>False):=(((Fr.refl wr (fun _=>False)).alloc _).trans F2.out (fun _ _ f=>f)).alloc _
      have hbx:=Bf.out.lt
      have hs2:wr.heap.size<w2.heap.size:=hbx
      generalize w2.alloc (.cells #[.int .u8 (dk:Int),.int .i64 dm,.string dtx,.slice a1 m1 c1,.slice a2 m2 c2] 37)=W3 at *
      generalize w2.heap.size=bx at *
      have kp:=fun (b o:Nat) (v:Value) (h:wr.cell? ⟨b,o,none⟩=some v)=>(World.cell?_of_block (a:=⟨b,o,none⟩) (hfr.block b (cell_lt h) id)).trans h
      have kf:=fun (o:Nat)=>(World.frozen?_of_block (a:=⟨g,o,none⟩) (hfr.block g hb2 id)).trans (hth.out o)
      have v1:=kp _ _ _ hfv
      have w5:=kp _ _ _ e5
      have w6:=kp _ (q*10+5+1) _ e6
      have w7:=kp _ (q*10+5+2) _ e7
      have w8:=kp _ (q*10+5+3) _ e8
      have w9:=kp _ (q*10+5+4) _ e9
      have z5:=kf (q*10+5)
      have z6:=kf (q*10+5+1)
      have z7:=kf (q*10+5+2)
      have z8:=kf (q*10+5+3)
      have z9:=kf (q*10+5+4)
      have x0:=X3.cell 0
      have x1:=X3.cell 1
      have x2:=X3.cell 2
      have x3:=X3.cell 3
      have x4:=X3.cell 4
      simp only[List.getElem?_cons_zero,List.getElem?_cons_succ] at x0 x1 x2 x3 x4
      replace M3:=hide M3
      replace X3:=hide X3
      replace Bf3:=hide Bf3
      replace hfr:=hide hfr
      clear kp kf
      refine wp_regionC 11 (fun W=>W.cell? ⟨bz,1+k*5+1,none⟩=some (.slice (some ⟨g,0,none⟩) (fsOf env k).length fc)∧W.cell? ⟨bx,0,none⟩=some (.int .u8 (dk:Int))∧W.cell? ⟨bx,1,none⟩=some (.int .i64 dm)∧W.cell? ⟨bx,2,none⟩=some (.string dtx)∧W.cell? ⟨bx,3,none⟩=some (.slice a1 m1 c1)∧W.cell? ⟨bx,4,none⟩=some (.slice a2 m2 c2)) (by kernel_rfl) ?_
      refine wpAnyC_take 0 ?v0 rfl (by kernel_rfl) (fun _ _ _ h=>h) (by kernel_rfl) ?y0 ?_
      case y0=>(rintro W ⟨h1,h2,h3,h4,h5,h6⟩;go_simp <;> rfl)
      refine wpAnyC_take 1 ?v1 rfl (by kernel_rfl) (fun _ _ _ h=>h) (by kernel_rfl) ?y1 ?_
      case y1=>(rintro W ⟨h1,h2,h3,h4,h5,h6⟩;go_simp <;> rfl)
      refine wpAnyC_take 2 ?v2 rfl (by kernel_rfl) (fun _ _ _ h=>h) (by kernel_rfl) ?y2 ?_
      case y2=>(rintro W ⟨h1,h2,h3,h4,h5,h6⟩;go_simp <;> rfl)
      refine wpAnyC_take 3 ?v3 rfl (by kernel_rfl) (fun _ _ _ h=>h) (by kernel_rfl) ?y3 ?_
      case y3=>(rintro W ⟨h1,h2,h3,h4,h5,h6⟩;go_simp <;> rfl)
      refine wpAnyC_take 4 ?v4 rfl (by kernel_rfl) (fun _ _ _ h=>h) (by kernel_rfl) ?y4 ?_
      case y4=>(rintro W ⟨h1,h2,h3,h4,h5,h6⟩;go_simp <;> rfl)
      refine wpAnyC_take 5 ?v5 rfl (by kernel_rfl) (fun _ _ _ h=>h) (by kernel_rfl) ?y5 ?_
      case y5=>(rintro W ⟨h1,h2,h3,h4,h5,h6⟩;go_simp <;> rfl)
      refine wpAnyC_take 6 ?v6 rfl (by kernel_rfl) (fun _ _ _ h=>h) (by kernel_rfl) ?y6 ?_
      case y6=>(rintro W ⟨h1,h2,h3,h4,h5,h6⟩;go_simp <;> rfl)
      refine wpAnyC_take 7 ?v7 rfl (by kernel_rfl) (fun _ _ _ h=>h) (by kernel_rfl) ?y7 ?_
      case y7=>(rintro W ⟨h1,h2,h3,h4,h5,h6⟩;go_simp <;> rfl)
      refine wpAnyC_take 8 ?v8 rfl (by kernel_rfl) (fun _ _ _ h=>h) (by kernel_rfl) ?y8 ?_
      case y8=>(rintro W ⟨h1,h2,h3,h4,h5,h6⟩;go_simp <;> rfl)
      refine wpAnyC_one 9 rfl (by kernel_rfl) (fun _=>⟨v1,x0,x1,x2,x3,x4⟩) (fun K hK=>?_)
      go_simp
      refine hK _ _ ?_
      clear hK K
      refine wpAnyC_one 10 rfl (by kernel_rfl) (fun _=>⟨v1,x0,x1,x2,x3,x4⟩) (fun K hK=>?_)
      go_simp
      refine hK _ _ ?_
      clear hK K
      refine wpAnyC_one 11 rfl (by kernel_rfl) (fun _=>⟨v1,x0,x1,x2,x3,x4⟩) (fun K hK=>?_)
      go_simp
      refine hK _ _ ?_
      clear hK K
      refine wpAnyC_done (by kernel_rfl) (fun hm=>absurd hm (by decide)) ?_ _
      have M4:DefsM w P1 P2 bz s ts env rt (World.setCell (World.setCell (World.setCell (World.setCell (World.setCell W3 ⟨g,q*10+5,none⟩ (.int .u8 (dk:Int))) ⟨g,q*10+5+1,none⟩ (.int .i64 dm)) ⟨g,q*10+5+2,none⟩ (.string dtx)) ⟨g,q*10+5+3,none⟩ (.slice a1 m1 c1)) ⟨g,q*10+5+4,none⟩ (.slice a2 m2 c2)):=((((M3.out.store (q0:=q) 5 hg.out (by omega) ⟨_,rfl⟩).store (q0:=q) 6 hg.out (by omega) ⟨_,rfl⟩).store (q0:=q) 7 hg.out (by omega) ⟨_,rfl⟩).store (q0:=q) 8 hg.out (by omega) ⟨_,_,_,rfl⟩).store (q0:=q) 9 hg.out (by omega) ⟨_,_,_,rfl⟩
      have M5:DefsM w P1 P2 bz s ts env rt (World.setCell (World.setCell (World.setCell (World.setCell (World.setCell W3 ⟨g,q*10+5,none⟩ (.int .u8 (dk:Int))) ⟨g,q*10+5+1,none⟩ (.int .i64 dm)) ⟨g,q*10+5+2,none⟩ (.string dtx)) ⟨g,q*10+5+3,none⟩ (.slice a1 m1 c1)) ⟨g,q*10+5+4,none⟩ (.slice a2 m2 c2)).drew:=M4.own ((Fr.refl _ _).drew)
      have hfg:Fr W3 (World.setCell (World.setCell (World.setCell (World.setCell (World.setCell W3 ⟨g,q*10+5,none⟩ (.int .u8 (dk:Int))) ⟨g,q*10+5+1,none⟩ (.int .i64 dm)) ⟨g,q*10+5+2,none⟩ (.string dtx)) ⟨g,q*10+5+3,none⟩ (.slice a1 m1 c1)) ⟨g,q*10+5+4,none⟩ (.slice a2 m2 c2)).drew (fun b=>b=g):=((((((Fr.refl W3 (fun b=>b=g)).setCell ⟨g,q*10+5,none⟩ (.int .u8 (dk:Int)) (fun _=>rfl)).setCell ⟨g,q*10+5+1,none⟩ (.int .i64 dm) (fun _=>rfl)).setCell ⟨g,q*10+5+2,none⟩ (.string dtx) (fun _=>rfl)).setCell ⟨g,q*10+5+3,none⟩ (.slice a1 m1 c1) (fun _=>rfl)).setCell ⟨g,q*10+5+4,none⟩ (.slice a2 m2 c2) (fun _=>rfl)).drew
      have Bf5:=hfg.blk Bf3.out (by omega)
      clear M4 hfg
      generalize (World.setCell (World.setCell (World.setCell (World.setCell (World.setCell W3 ⟨g,q*10+5,none⟩ (.int .u8 (dk:Int))) ⟨g,q*10+5+1,none⟩ (.int .i64 dm)) ⟨g,q*10+5+2,none⟩ (.string dtx)) ⟨g,q*10+5+3,none⟩ (.slice a1 m1 c1)) ⟨g,q*10+5+4,none⟩ (.slice a2 m2 c2)).drew=W5 at *
      have b3:=Bf5.cell 3
      simp only[List.getElem?_cons_zero,List.getElem?_cons_succ] at b3
      replace M5:=hide M5
      replace Bf5:=hide Bf5
      clear v1 x0 x1 x2 x3 x4 w5 w6 w7 w8 w9 z5 z6 z7 z8 z9
      cases hrs:r.isSome with
      | true=>
       go_wp2_with fail
       go_roundg ((fsOf env k).length+1-(q+1))
       case measure=>omega
       case rel=>exact⟨q+1,by omega,Nat.le_refl _,by simp,by rw[hsn.out];unfold dstep;rw[hdf.out];simp only;rw[← htx.out,hr.out,if_pos hrs],M5.out⟩
      | false=>
       by_cases hm0:m<0
       ·go_wp2_with fail
        go_roundg ((fsOf env k).length+1-(q+1))
        case measure=>omega
        case rel=>exact⟨q+1,by omega,Nat.le_refl _,by simp,by rw[hsn.out];unfold dstep;rw[hdf.out];simp only;rw[← htx.out,hr.out,if_neg (by rw[hrs];decide),firstOf,if_pos (.inl hm0)],M5.out⟩
       ·by_cases ham:(a:Int)<m
        ·go_wp2_with fail
         go_roundg ((fsOf env k).length+1-(q+1))
         case measure=>omega
         case rel=>exact⟨q+1,by omega,Nat.le_refl _,by simp,by rw[hsn.out];unfold dstep;rw[hdf.out];simp only;rw[← htx.out,hr.out,if_neg (by rw[hrs];decide),firstOf,if_pos (.inr ham)],M5.out⟩
        ·go_wp2_with fail
         go_roundg ((fsOf env k).length+1-(q+1))
         case measure=>omega
         case rel=>exact⟨q+1,by omega,Nat.le_refl _,by simp,by rw[hsn.out];unfold dstep;rw[hdf.out];simp only;rw[← htx.out,hr.out,if_neg (by rw[hrs];decide),firstOf,if_neg (fun x=>x.elim (fun y=>by omega) (fun y=>by omega))],M5.out⟩
    ·have hql':¬ (q:Int)<((fsOf env k).length:Int):=by omega
     have hqe:=hide (show dflF s env ((fsOf env k).take q) (dflUpto s env k)=dflUpto s env (k+1) by rw[List.take_of_length_le (by omega)];rfl)
     rw[hqe.out]
     clear hfl
     replace M:=hide M
     go_wp2_with fail
     go_roundg (7-(k+1))
     case measure=>omega
     case rel=>exact⟨k+1,by omega,Nat.le_refl _,by simp,rfl,M.out⟩
  ·have hk6':¬ (k:Int)<6:=by omega
   have hk':=hide (show k=6 by omega)
   replace M:=hide M
   go_wp2_with fail
   rw[hPOST.out]
   exact⟨by rw[hk'.out],M.out⟩
open Go.RowKit
def shB (N:Nat):PB→Prop
 | .recd fs=>(∀ f∈fs,shT f.ty)∧fs.length≤N
 | .enum l _=>(∀ c∈l.map Prod.fst,0<c)∧l.length≤N
 | .bytes n=>n≤9
theorem pField_shape {s:ByteArray}{i:Nat}{f:PF}{j:Nat}(h:pField s i=.ok (f,j)):shT f.ty:=by
 unfold pField at h
 split at h
 ·split at h
  ·split at h
   ·cases h
   ·rename_i t k hp
    have:=pT_shape hp
    split at h
    ·split at h
     ·cases h
     ·simp only[Except.ok.injEq,Prod.mk.injEq] at h
      obtain⟨rfl,_⟩:=h
      exact this
    ·simp only[Except.ok.injEq,Prod.mk.injEq] at h
     obtain⟨rfl,_⟩:=h
     exact this
  ·cases h
 ·cases h
theorem pFieldsN_shape (s:ByteArray):∀ (n i:Nat) (l:List PF) (j:Nat),i≤s.size→pFieldsN s n i=.ok (l,j)→(∀ f∈l,shT f.ty)∧i+l.length≤s.size:=by
 intro n
 induction n with
 | zero=>intro i l j _ h;cases h
 | succ n ih=>
  intro i l j hi h
  unfold pFieldsN at h
  split at h
  ·cases h
  ·rename_i f k hf
   have h1:=(pField_bounds hi).1 f k hf
   have h2:=pField_shape hf
   split at h
   ·simp only[Except.ok.injEq,Prod.mk.injEq] at h
    obtain⟨rfl,_⟩:=h
    exact⟨fun g hg=>by rw[List.mem_singleton] at hg;subst hg;exact h2,by simp;omega⟩
   ·split at h
    ·rename_i h44
     have:=bt_pos (s:=s) (i:=k) (by omega)
     split at h
     ·cases h
     ·rename_i fs e hr
      simp only[Except.ok.injEq,Prod.mk.injEq] at h
      obtain⟨rfl,_⟩:=h
      have h3:=ih _ _ _ (by omega) hr
      refine⟨fun g hg=>?_,by rw[List.length_cons];omega⟩
      rcases List.mem_cons.1 hg with rfl|hg
      ·exact h2
      ·exact h3.1 g hg
    ·cases h
theorem pSymsN_shape (s:ByteArray):∀ (n i:Nat) (l:List (Nat×Nat)) (j:Nat),pSymsN s n i=.ok (l,j)→(∀ c∈l.map Prod.fst,0<c)∧i+l.length≤s.size:=by
 intro n
 induction n with
 | zero=>intro i l j h;cases h
 | succ n ih=>
  intro i l j h
  unfold pSymsN at h
  split at h
  ·rename_i hs
   have h0:=isSmall_pos hs
   have h1:=bt_pos h0
   split at h
   ·split at h
    ·cases h
    ·rename_i fs e hr
     simp only[Except.ok.injEq,Prod.mk.injEq] at h
     obtain⟨rfl,_⟩:=h
     have h3:=ih _ _ _ hr
     refine⟨fun g hg=>?_,by rw[List.length_cons];omega⟩
     rw[List.map_cons] at hg
     rcases List.mem_cons.1 hg with rfl|hg
     ·exact h0
     ·exact h3.1 g hg
   ·simp only[Except.ok.injEq,Prod.mk.injEq] at h
    obtain⟨rfl,_⟩:=h
    exact⟨fun g hg=>by simp only[List.map_cons,List.map_nil,List.mem_singleton] at hg;subst hg;exact h0,by simp;omega⟩
  ·cases h
theorem pDefn_shape {s:ByteArray}{i:Nat}{pb:PB}{j:Nat}(h:pDefn s i=.ok (pb,j)):shB s.size pb:=by
 unfold pDefn at h
 split at h
 ·rename_i h114
  have:=bt_pos (s:=s) (i:=i) (by omega)
  split at h
  ·cases h
  ·rename_i fs k hp
   simp only[Except.ok.injEq,Prod.mk.injEq] at h
   obtain⟨rfl,_⟩:=h
   unfold pRecord at hp
   split at hp
   ·rename_i h40
    have:=bt_pos (s:=s) (i:=i+1) (by omega)
    split at hp
    ·simp only[Except.ok.injEq,Prod.mk.injEq] at hp
     obtain⟨rfl,_⟩:=hp
     exact⟨fun f hf=>by simp at hf,Nat.zero_le _⟩
    ·have:=pFieldsN_shape s _ _ _ _ (by omega) hp
     exact⟨this.1,by omega⟩
   ·cases hp
 ·split at h
  ·split at h
   ·cases h
   ·rename_i l o k hp
    simp only[Except.ok.injEq,Prod.mk.injEq] at h
    obtain⟨rfl,_⟩:=h
    unfold pEnum at hp
    split at hp
    ·split at hp
     ·cases hp
     ·rename_i l' k' hq
      have hsh:=pSymsN_shape s _ _ _ _ hq
      have fin:l=l'→shB s.size (.enum l o):=fun e=>by subst e;exact⟨hsh.1,by omega⟩
      split at hp
      ·split at hp
       ·split at hp
        ·simp only[Except.ok.injEq,Prod.mk.injEq] at hp;exact fin hp.1.1.symm
        ·cases hp
       ·cases hp
      ·split at hp
       ·simp only[Except.ok.injEq,Prod.mk.injEq] at hp;exact fin hp.1.1.symm
       ·cases hp
    ·cases hp
  ·split at h
   ·split at h
    ·rename_i hd
     simp only[Except.ok.injEq,Prod.mk.injEq] at h
     obtain⟨rfl,_⟩:=h
     simp only[shB];omega
    ·cases h
   ·cases h
theorem pDefsN_shape (s:ByteArray):∀ (n i:Nat) (ds:List PD) (e:Nat),pDefsN s n i=.ok (ds,e)→∀ d∈ds,shB s.size d.body:=by
 intro n
 induction n with
 | zero=>intro i ds e h d hd;simp only[pDefsN,Except.ok.injEq,Prod.mk.injEq] at h;rw[← h.1] at hd;simp at hd
 | succ n ih=>
  intro i ds e h
  unfold pDefsN at h
  split at h
  ·split at h
   ·split at h
    ·cases h
    ·rename_i pb j hp
     split at h
     ·split at h
      ·cases h
      ·rename_i ds' e' hr
       simp only[Except.ok.injEq,Prod.mk.injEq] at h
       obtain⟨rfl,_⟩:=h
       intro d hd
       rcases List.mem_cons.1 hd with rfl|hd
       ·exact pDefn_shape hp
       ·exact ih _ _ _ hr d hd
     ·cases h
   ·cases h
  ·simp only[Except.ok.injEq,Prod.mk.injEq] at h
   obtain⟨rfl,_⟩:=h
   intro d hd;simp at hd
theorem pSchema_shape {s:ByteArray}{ds:List PD}{t:PT}(h:pSchema s=.ok (ds,t)):(∀ d∈ds,shB s.size d.body)∧shT t:=by
 unfold pSchema at h
 split at h
 ·cases h
 ·rename_i ds' i hd
  split at h
  ·cases h
  ·rename_i t' j ht
   split at h
   ·cases h
   ·simp only[Except.ok.injEq,Prod.mk.injEq] at h
    obtain⟨rfl,rfl⟩:=h
    exact⟨pDefsN_shape s _ _ _ _ hd,pT_shape ht⟩
def envOf (ds:List PD) (c:Nat):Option PB:=(look 0 c ds).map Prod.fst
theorem look_mem {b c:Nat}{ds:List PD}{pb:PB}{b':Nat}(h:look b c ds=some (pb,b')):∃ d∈ds,d.body=pb:=by
 induction ds generalizing b with
 | nil=>cases h
 | cons x r ih=>
  simp only[look] at h
  split at h
  ·simp only[Option.some.injEq,Prod.mk.injEq] at h
   exact⟨x,by simp,h.1⟩
  ·obtain⟨d,hd,e⟩:=ih h
   exact⟨d,by simp[hd],e⟩
theorem look_at {b c:Nat}{ds:List PD}{pb:PB}{b':Nat}(h:look b c ds=some (pb,b')):∃ o,b'=b+o∧∀ q x,(pb.ts b')[q]?=some x→(accT b ds)[o+q]?=some x:=by
 induction ds generalizing b with
 | nil=>cases h
 | cons x r ih=>
  simp only[look] at h
  split at h
  ·simp only[Option.some.injEq,Prod.mk.injEq] at h
   obtain⟨rfl,rfl⟩:=h
   refine⟨0,rfl,fun q y hy=>?_⟩
   rw[accT,Nat.zero_add,List.getElem?_append_left (List.getElem?_eq_some_iff.1 hy).1]
   exact hy
  ·obtain⟨o,e,hh⟩:=ih h
   refine⟨(x.body.ts b).length+o,by omega,fun q y hy=>?_⟩
   rw[accT,List.getElem?_append_right (by omega),show(x.body.ts b).length+o+q-(x.body.ts b).length=o+q by omega]
   exact hh q y hy
theorem firstOf_nat (a:Nat) (m:Int):0≤firstOf (a:Int) m:=by
 unfold firstOf;split <;> omega
def wrU (env:Nat→Option PB) (us:List (Nat×Nat)) (m:Int):Int:=us.foldl (fun m u=>if (env u.1).isNone=true then firstOf (u.2:Int) m else m) m
theorem wrU_neg {env:Nat→Option PB}{us:List (Nat×Nat)}{m:Int}(h:wrU env us m<0):m<0∧∀ u∈us,∃ pb,env u.1=some pb:=by
 induction us generalizing m with
 | nil=>exact⟨h,fun u hu=>by simp at hu⟩
 | cons u r ih=>
  simp only[wrU,List.foldl_cons] at h
  obtain⟨h1,h2⟩:=ih h
  split at h1
  ·have:=firstOf_nat u.2 m;omega
  ·rename_i hn
   refine⟨h1,fun v hv=>?_⟩
   rcases List.mem_cons.1 hv with rfl|hv
   ·cases he:env v.1 with
    | none=>rw[he] at hn;exact absurd rfl hn
    | some pb=>exact⟨pb,rfl⟩
   ·exact h2 v hv
theorem mixF_neg {env:Nat→Option PB}{fs:List PF}{m:Int}(hs:∀ f∈fs,shT f.ty) (hu:∀ u∈usesAll (fs.map PF.ty),∃ pb,env u.1=some pb) (h:mixF fs m<0):m<0∧∀ f∈fs,okT env f.ty:=by
 induction fs generalizing m with
 | nil=>exact⟨h,fun f hf=>by simp at hf⟩
 | cons f r ih=>
  simp only[mixF,List.foldl_cons] at h
  simp only[List.map_cons,usesAll] at hu
  obtain⟨h1,h2⟩:=ih (fun g hg=>hs g (by simp[hg])) (fun u h=>hu u (List.mem_append_right _ h)) h
  have h3:=okT_of env f.ty m (hs f (by simp)) h1 (fun u h=>hu u (List.mem_append_left _ h))
  refine⟨h3.1,fun g hg=>?_⟩
  rcases List.mem_cons.1 hg with rfl|hg
  ·exact h3.2
  ·exact h2 g hg
theorem accM_neg {env:Nat→Option PB}{N:Nat}{ds:List PD}{m:Int}(hs:∀ d∈ds,shB N d.body) (hu:∀ u∈accU ds,∃ pb,env u.1=some pb) (h:accM ds m<0):m<0∧∀ d∈ds,∀ fs,d.body=.recd fs→∀ f∈fs,okT env f.ty:=by
 induction ds generalizing m with
 | nil=>exact⟨h,fun f hf=>by simp at hf⟩
 | cons d r ih=>
  simp only[accM,List.foldl_cons] at h
  simp only[accU] at hu
  obtain⟨h1,h2⟩:=ih (fun g hg=>hs g (by simp[hg])) (fun u h=>hu u (List.mem_append_right _ h)) h
  have hsd:=hs d (by simp)
  cases hb:d.body with
  | recd fs=>
   rw[hb] at hsd h1 hu
   have h3:=mixF_neg hsd.1 (fun u h=>hu u (List.mem_append_left _ h)) h1
   refine⟨h3.1,fun g hg fs' hg'=>?_⟩
   rcases List.mem_cons.1 hg with rfl|hg
   ·rw[hb] at hg';cases hg';exact h3.2
   ·exact h2 g hg fs' hg'
  | enum l o=>
   rw[hb] at h1
   refine⟨h1,fun g hg fs' hg'=>?_⟩
   rcases List.mem_cons.1 hg with rfl|hg
   ·rw[hb] at hg';cases hg'
   ·exact h2 g hg fs' hg'
  | bytes n=>
   rw[hb] at h1
   refine⟨h1,fun g hg fs' hg'=>?_⟩
   rcases List.mem_cons.1 hg with rfl|hg
   ·rw[hb] at hg';cases hg'
   ·exact h2 g hg fs' hg'
theorem schema_ok {s:ByteArray}{ds:List PD}{t:PT}{m0 m1:Int}(hs:s.size≤300) (hp:pSchema s=.ok (ds,t)) (hw:wrU (envOf ds) (accU ds++usesOf t) m0<0) (hm:mix t (accM ds m1)<0) :
 okEnv (envOf ds)∧okT (envOf ds) t∧(∀ k,(fsOf (envOf ds) k).length≤300)∧∀ k f,f∈fsOf (envOf ds) k→okT (envOf ds) f.ty:=by
 obtain⟨h1,h2⟩:=pSchema_shape hp
 obtain⟨_,h3⟩:=wrU_neg hw
 have h4:=okT_of (envOf ds) t _ h2 hm (fun u hu=>h3 u (List.mem_append_right _ hu))
 have h5:=(accM_neg (env:=envOf ds) h1 (fun u hu=>h3 u (List.mem_append_left _ hu)) h4.1).2
 have body:∀ c pb,envOf ds c=some pb→shB s.size pb∧∀ fs,pb=.recd fs→∀ f∈fs,okT (envOf ds) f.ty:=fun c pb he=>by
  unfold envOf at he
  cases hl:look 0 c ds with
  | none=>rw[hl] at he;cases he
  | some q=>
   obtain⟨pb',b'⟩:=q
   rw[hl] at he
   simp only[Option.map_some,Option.some.injEq] at he
   subst he
   obtain⟨d,hd,rfl⟩:=look_mem hl
   exact⟨h1 d hd,fun fs e=>h5 d hd fs e⟩
 have flds:∀ k fs,fsOf (envOf ds) k=fs→fs≠[]→envOf ds (65+k)=some (.recd fs):=fun k fs e hne=>by
  unfold fsOf at e
  split at e
  ·rename_i fs' he;subst e;exact he
  ·exact absurd e.symm hne
 refine⟨fun c pb he=>?_,h4.2,fun k=>?_,fun k f hf=>?_⟩
 ·obtain⟨b1,b2⟩:=body c pb he
  cases pb with
  | recd fs=>exact b2 fs rfl
  | enum l o=>exact⟨b1.1,Nat.le_trans b1.2 hs⟩
  | bytes n=>exact b1
 ·by_cases hne:fsOf (envOf ds) k=[]
  ·rw[hne];exact Nat.zero_le _
  ·exact Nat.le_trans (body _ _ (flds k _ rfl hne)).1.2 hs
 ·have hne:fsOf (envOf ds) k≠[]:=fun e=>by rw[e] at hf;simp at hf
  exact(body _ _ (flds k _ rfl hne)).2 _ rfl f hf
open Go.RowKit
theorem flatten10:∀ (l:List (List Value)),(∀ x∈l,x.length=10)→∀ (q p:Nat) (x:List Value),l[q]?=some x→p<10→l.flatten[10*q+p]?=x[p]?
 | [],_,q,p,x,h,_=>by simp at h
 | y::r,hl,q,p,x,h,hp=>by
  have hy:=hl y (by simp)
  rw[List.flatten_cons]
  cases q with
  | zero=>
   simp only[List.getElem?_cons_zero,Option.some.injEq] at h
   subst h
   rw[Nat.mul_zero,Nat.zero_add,List.getElem?_append_left (by omega)]
  | succ q=>
   rw[List.getElem?_cons_succ] at h
   rw[List.getElem?_append_right (by omega),show 10*(q+1)+p-y.length=10*q+p by omega]
   exact flatten10 r (fun z hz=>hl z (by simp[hz])) q p x h hp
theorem recCells_at {s:ByteArray}{b:Nat}{fs:List PF}{q num:Nat}{f:PF}(hf:fs[q]?=some f) (hn:(nums b (fs.map PF.ty))[q]?=some num) (p:Nat) (hp:p<10):(recCells s b fs)[10*q+p]?=(fcells s f num)[p]?:=by
 unfold recCells
 refine flatten10 _ (fun x hx=>?_) q p _ ?_ hp
 ·obtain⟨i,hi⟩:=List.getElem?_of_mem hx
  rw[List.getElem?_zipWith] at hi
  split at hi
  ·simp only[Option.some.injEq] at hi;subst hi;rfl
  ·cases hi
 ·rw[List.getElem?_zipWith,hf,hn]
theorem frow_rec {s:ByteArray}{ts:List TR}{b:Nat}{fs:List PF}(h:isTs ts (nums b (fs.map PF.ty)) (fs.map PF.ty)):FRow s ts fs (recCells s b fs):=by
 intro q f hf
 obtain⟨num,hn,hT⟩:=isTs_at h q f.ty (by rw[List.getElem?_map,hf];rfl)
 have at_:=fun p hp=>recCells_at (s:=s) hf hn p hp
 refine⟨⟨num,hT,at_ 1 (by omega)⟩,at_ 0 (by omega),at_ 2 (by omega),?_,?_,fun p h5 h10=>?_⟩
 ·rw[at_ 3 (by omega)];rfl
 ·rw[at_ 4 (by omega)];rfl
 ·rw[at_ p h10]
  match p,h5,h10 with
  | 5,_,_=>exact⟨_,rfl,_,rfl⟩
  | 6,_,_=>exact⟨_,rfl,_,rfl⟩
  | 7,_,_=>exact⟨_,rfl,_,rfl⟩
  | 8,_,_=>exact⟨_,rfl,_,_,_,rfl⟩
  | 9,_,_=>exact⟨_,rfl,_,_,_,rfl⟩
theorem whole_sz {w W:World}{X Xk:Nat→Prop}{br bz B:Nat}{s:ByteArray}{tv0 u0 tv u:Value}{ds:List PD}{j:Nat}{bad:Bool}{wg MX:Int}{rest:List TR}{US:List (Nat×Nat)}{zs:List Value}{rt:Value}
 (M:WM w X br bz B s tv0 u0 ds j bad wg MX (accT 0 ds++rest) US Xk zs tv u W) (h30:zs[30]?=some rt):SZ W (fun g=>g<W.heap.size∧¬ Xk g) (fun g=>Xk g∧B≤g) bz s (accT 0 ds++rest) (envOf ds) rt:=by
 obtain⟨xs,hx,hk⟩:=M.R.tys
 refine⟨fun g hg h=>h.2 hg.1,⟨M.R.z.lt,fun h=>(M.R.av _ h).2.2.1 rfl⟩,tv,zs,M.R.z,h30,⟨xs,own_zero hx,fun g e=>⟨(hx.lt g e).2,fun h=>(M.R.av g h).2.2.2.1 e⟩,fun k t ht=>?_⟩,fun k hk6=>?_⟩
 ·obtain⟨sv,a,b,c,d⟩:=hk k t ht
  exact⟨sv,a,b,own_zero c.1,fun g e=>⟨(c.1.lt g e).2,fun h=>d g h e⟩⟩
 ·obtain⟨so,fv,sb,o,n,cnt,ys,h1,h2,h3',h4⟩:=M.D.2 k hk6
  have h3:∀ g,fv.ownBlock=some g→Xk g∧B≤g:=fun g e=>⟨h3' g e,(h2.lt g e).1⟩
  cases hl:look 0 (65+k) ds with
  | none=>
   rw[hl] at h4
   obtain⟨_,rfl⟩:=h4
   have he:envOf ds (65+k)=none:=by unfold envOf;rw[hl];rfl
   have hf:fsOf (envOf ds) k=[]:=by unfold fsOf;rw[he]
   refine⟨so,fv,sb,o,n,ys,h1,by rw[hf];exact own_zero h2,h3,by rw[hf];intro q f hq;simp at hq,by rw[he];trivial⟩
  | some q=>
   obtain⟨pb,b⟩:=q
   rw[hl] at h4
   have he:envOf ds (65+k)=some pb:=by unfold envOf;rw[hl];rfl
   obtain⟨o',e',hat⟩:=look_at hl
   cases pb with
   | recd fs=>
    obtain⟨d1,rfl,rfl,_⟩:=h4
    have hf:fsOf (envOf ds) k=fs:=by unfold fsOf;rw[he]
    refine⟨so,fv,sb,o,n,_,h1,by rw[hf];exact own_zero h2,h3,?_,by rw[he];exact d1⟩
    rw[hf]
    refine frow_rec (flats_isTs _ _ _ (fun q x hq=>?_))
    have:=hat q x hq
    rw[e',Nat.zero_add,List.getElem?_append_left (List.getElem?_eq_some_iff.1 this).1]
    exact this
   | enum l un=>
    obtain⟨d1,rfl,d2,_⟩:=h4
    have hf:fsOf (envOf ds) k=[]:=by unfold fsOf;rw[he]
    exact⟨so,fv,sb,o,n,ys,h1,by rw[hf];exact own_zero h2,h3,by rw[hf];intro q f hq;simp at hq,by rw[he];exact⟨d1,d2⟩⟩
   | bytes m=>
    obtain⟨d1,rfl,_,d2⟩:=h4
    have hf:fsOf (envOf ds) k=[]:=by unfold fsOf;rw[he]
    exact⟨so,fv,sb,o,n,ys,h1,by rw[hf];exact own_zero h2,h3,by rw[hf];intro q f hq;simp at hq,by rw[he];exact⟨d1,d2⟩⟩
theorem root_isT (ts:List TR) (t:PT):isT (ts++flat ts.length t) (ts.length+(flat ts.length t).length-1) t:=
 flat_isT _ t _ (fun q x hq=>by rw[List.getElem?_append_right (by omega),Nat.add_sub_cancel_left];exact hq)
theorem DefsAt.sortAt {W:World}{X:Nat→Prop}{B:Nat}{s:ByteArray}{zs:List Value}{ds:List PD}(h:DefsAt W X B s zs ds){k:Nat}(hk:k<6):∃ so:Int,zs[5*k]?=some (.int .u8 so)∧(so==0)=(envOf ds (65+k)).isNone:=by
 obtain⟨so,fv,sb,o,n,cnt,ys,h1,h2,h3,h4⟩:=h.2 k hk
 refine⟨so,h1 0 (by omega),?_⟩
 unfold envOf
 cases hl:look 0 (65+k) ds with
 | none=>rw[hl] at h4;rw[h4.1];rfl
 | some q=>
  obtain⟨pb,b⟩:=q
  rw[hl] at h4
  have:=h4.sort
  simp only[Option.map_some,Option.isNone_some,beq_eq_false_iff_ne]
  exact this
end Go.Proofs.YtiifagiebikmdaaGreatDoor
