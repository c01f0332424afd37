import Derived.Test.YthmjjpkjgjklmaaGreatDoorW38
import Derived.Test.YthmjjpkjgjklmaaGreatDoorW25
import Derived.Test.YthmjjpkjgjklmaaGreatDoorW18
import Derived.Test.YthmjjpkjgjklmaaGreatDoorA00
set_option maxHeartbeats 16000000
set_option maxRecDepth 100000
set_option linter.unusedSimpArgs false
open Go.Proofs.Tryz
namespace Go.Proofs.YthmjjpkjgjklmaaGreatDoor
open Go.RowKit
variable {ew er:Nat->Option PB}{P:Nat->Prop}{c:Nat}{s s':BA}{n:Int}{x r:PT}{v u a:Value}{Z:PB->Value->Prop}
def zaz:PB->Nat×Nat
 | .recd _=>(114,0)
 | .enum _ _=>(101,0)
 | .bytes n=>(102,n)
def matP (ew er:Nat->Option PB):PT->PT->Bool
 | .leaf c _,.leaf c' _=>
  if zu_ c=true then (c'==c||(c==105&&c'==108))
  else c==c'&&(match ew c,er c' with|some a,some b=>decide (zaz a=zaz b)|_,_=>false)
 | .wrap c _ _,.wrap c' _ _=>c==c'
 | _,_=>false
def vs_ (ew er:Nat->Option PB) (w:PT):List PT->Nat->Option Nat->Option Nat
 | [],_,k=>k
 | r::rs,i,k=>vs_ ew er w rs (i+1) (if (matP ew er w r&&(k.isNone||r.kind==105))=true then some i else k)
def mapO {α β:Type}(g:α->Option β):List α->Option (List β)
 | []=>some []
 | a::r=>match g a with|none=>none|some b=>match mapO g r with|none=>none|some l=>some (b::l)
def idxF (fs:List PF) (c:Nat):Option Nat:=(fs.map PF.letter).findIdx? (λ x=>x==c)
def rdsS (l:List (Nat×Nat)) (o:Option (Nat×Nat)) (c:Nat):Option Nat:=
 match (l.map Prod.fst).findIdx? (λ x=>x==c) with
 | some q=>some q
 | none=>match o with|none=>none|some (u,_)=>(l.map Prod.fst).findIdx? (λ x=>x==u)
def mkF (R:PT->PT->DT->Option DT) (df:PF->Option DT) (fw:List PF) (ds:List DT) (g:PF):Option DT:=
 match idxF fw g.letter with
 | some i=>match fw[i]?,ds[i]? with|some h,some d=>R h.ty g.ty d|_,_=>none
 | none=>df g
def mkB (R:PT->PT->DT->Option DT) (ew er:Nat->Option PB) (df:PF->Option DT):PT->PT->DT->Option DT
 | .leaf c _,.leaf c' _,.mk k n tx ks ds=>
  if zu_ c=true then some (.mk (if c'=108 then 108 else k) n tx ks ds)
  else match ew c,er c' with
   | some (.recd fw),some (.recd fr)=>(mapO (mkF R df fw ds) fr).map (λ l=>.mk 114 0 noB [] l)
   | some (.enum lw _),some (.enum lr o)=>(rdsS lr o ((lw.map Prod.fst).getD n.toNat 0)).map (λ (q:Nat)=>DT.mk 101 (q:Int) noB [] [])
   | some (.bytes _),some (.bytes _)=>some (.mk k n tx ks ds)
   | _,_=>none
 | .wrap _ _ u,.wrap _ _ u',.mk k n tx ks ds=>(mapO (R u u') ds).map (λ l=>.mk k n tx ks l)
 | _,_,_=>none
def mkP (ew er:Nat->Option PB) (df:PF->Option DT):Nat->PT->PT->DT->Option DT
 | 0,_,_,_=>none
 | f+1,w,r,d=>
  match w with
  | .alts _ ws=>match d with | .mk _ n _ _ ds=>match ws[n.toNat]?,ds with|some w1,d1::_=>mkP ew er df f w1 r d1|_,_=>none
  | w=>match r with
   | .alts _ rs=>match vs_ ew er w rs 0 none with
    | none=>none
    | some k=>match rs[k]? with|none=>none|some r1=>(mkB (mkP ew er df f) ew er df w r1 d).map (λ x=>.mk 40 (k:Int) noB [] [x])
   | r=>if matP ew er w r=true then mkB (mkP ew er df f) ew er df w r d else none
theorem zc1 {α β:Type}{g:α->Option β}:∀ {l:List α}{m:List β},mapO g l=some m->m.length=l.length/\∀ (i:Nat) (a:α) (b:β),l[i]?=some a->m[i]?=some b->g a=some b
 | [],m,h=>by simp only[mapO,ad_] at h;subst h;exact⟨rfl,λ i a b ha=>by simp at ha⟩
 | x::r,m,h=>by
  unfold mapO at h;split at h
  ·cases h
  ·rename_i b hb;split at h
   ·cases h
   ·rename_i l hl;simp only[ad_] at h;subst h;obtain⟨h1,h2⟩:=zc1 hl;refine⟨by simp[h1],λ i a c ha hc=>?_⟩
    cases i with
    | zero=>simp at ha hc;subst ha hc;exact hb
    | succ i=>exact h2 i a c (by simpa using ha) (by simpa using hc)
theorem zok {w:PT}:∀ (rs:List PT) (i:Nat) (k:Option Nat) (all:List PT),(∀ j,k=some j->∃ r,all[j]?=some r/\matP ew er w r=true)->(∀ j,rs[j]?=all[i+j]?)->∀ q,vs_ ew er w rs i k=some q->∃ r,all[q]?=some r/\matP ew er w r=true
 | [],i,k,all,hk,_,q,h=>by
  simp only[vs_] at h;exact hk q h
 | r::rs,i,k,all,hk,hr,q,h=>by
  unfold vs_ at h;refine zok rs (i+1) _ all (λ j hj=>?_) (λ j=>?_) q h
  ·split at hj
   ·rename_i hc;simp only[ad_] at hj;subst hj;simp only[a9_] at hc;exact⟨r,by have:=hr 0;simpa using this.symm,hc.1⟩
   ·exact hk j hj
  ·have:=hr (j+1);rw[ac_] at this;rw[this]
   congr 1
   omega
def DfOK (er:Nat->Option PB) (df:PF->Option DT):Prop:=∀ c fs g x,er c=some (.recd fs)->g∈fs->df g=some x->Dat er x g.ty
theorem zm6 {df:PF->Option DT}(hD:DfOK er df){R:PT->PT->DT->Option DT}(hR:∀ w r d x,Dat ew d w->okT er r->fewT r->R w r d=some x->Dat er x r) (hE:zes er) (hW:fewE er){w:PT}{d x:DT}(hd:Dat ew d w) (hr:okT er r) (hf:fewT r) (hm:matP ew er w r=true) (h:mkB R ew er df w r d=some x):Dat er x r:=by
 cases w with
 | alts p l=>simp[matP] at hm
 | wrap c p u=>
  cases r with
  | leaf c' p'=>simp[matP] at hm
  | alts p' l'=>simp[matP] at hm
  | wrap c' p' u'=>
   obtain rfl:c=c':=by simpa[matP] using hm
   unfold okT at hr;unfold fewT at hf
   cases hd with
   | list hl hds=>
    rename_i ds;simp only[mkB] at h
    cases hx:mapO (R u u') ds with
    | none=>rw[hx] at h;cases h
    | some l=>
     rw[hx] at h;simp only[a2_,ad_] at h;subst h;obtain⟨h1,h2⟩:=zc1 hx;refine .list (by omega) (λ y hy=>?_);obtain⟨i,hi⟩:=List.getElem?_of_mem hy;have hlt:=(ao_.1 hi).1;obtain⟨a,ha⟩:∃ a,ds[i]?=some a:=⟨_,am_ (by omega)⟩;exact hR _ _ _ _ (hds a (ak_ ha)) hr.2 hf (h2 i a y ha hi)
   | map hl hk hrs hds=>
    rename_i ks ds;simp only[mkB] at h
    cases hx:mapO (R u u') ds with
    | none=>rw[hx] at h;cases h
    | some l=>
     rw[hx] at h;simp only[a2_,ad_] at h;subst h;obtain⟨h1,h2⟩:=zc1 hx;refine .map (by omega) (by omega) hrs (λ y hy=>?_);obtain⟨i,hi⟩:=List.getElem?_of_mem hy;have hlt:=(ao_.1 hi).1;obtain⟨a,ha⟩:∃ a,ds[i]?=some a:=⟨_,am_ (by omega)⟩;exact hR _ _ _ _ (hds a (ak_ ha)) hr.2 hf (h2 i a y ha hi)
 | leaf c p=>
  cases r with
  | wrap c' p' u'=>simp[matP] at hm
  | alts p' l'=>simp[matP] at hm
  | leaf c' p'=>
   simp only[matP] at hm
   by_cases hb:zu_ c=true
   ·rw[if_pos hb] at hm;simp only[au_,beq_iff_eq,a9_] at hm
    cases hd with
    | null=>
     obtain rfl:c'=110:=by omega
     simp only[mkB,if_pos hb,show ¬ (110:Nat)=108 by decide,if_false,ad_] at h;subst h;exact .null
    | bool hq=>
     obtain rfl:c'=116:=by omega
     simp only[mkB,if_pos hb,show ¬ (116:Nat)=108 by decide,if_false,ad_] at h;subst h;exact .bool hq
    | num h0 h1=>
     rcases hm with rfl|⟨_,rfl⟩
     ·simp only[mkB,if_pos hb,show ¬ (105:Nat)=108 by decide,if_false,ad_] at h;subst h;exact .num h0 h1
     ·simp only[mkB,if_pos hb,if_true,ad_] at h;subst h;exact .long (by omega) (by omega)
    | long h0 h1=>
     obtain rfl:c'=108:=by omega
     simp only[mkB,if_pos hb,if_true,ad_] at h;subst h;exact .long h0 h1
    | text hx h1=>
     obtain rfl:c'=115:=by omega
     simp only[mkB,if_pos hb,show ¬ (115:Nat)=108 by decide,if_false,ad_] at h;subst h;exact .text hx h1
    | bytes he hb' hx=>rw[hb] at hb';cases hb'
    | sym he hb' hn=>rw[hb] at hb';cases hb'
    | recd he hb' hl hh=>rw[hb] at hb';cases hb'
   ·rw[if_neg hb] at hm;simp only[a9_,beq_iff_eq] at hm;obtain⟨rfl,hm⟩:=hm
    have hbf:zu_ c=false:=by simpa using hb
    cases hd with
    | null=>exact absurd rfl (y0_ hbf).1
    | bool _=>exact absurd rfl (y0_ hbf).2.1
    | num _ _=>exact absurd rfl (y0_ hbf).2.2.1
    | long _ _=>exact absurd rfl (y0_ hbf).2.2.2.1
    | text _ _=>exact absurd rfl (y0_ hbf).2.2.2.2
    | bytes he hb' hx=>
     rename_i x0;simp only[mkB,if_neg hb,he] at h;rw[he] at hm
     cases hr2:er c with
     | none=>rw[hr2] at h;cases h
     | some pb=>
      rw[hr2] at h hm
      cases pb with
      | recd fs=>cases h
      | enum l o=>cases h
      | bytes n=>
       simp only[ad_] at h;subst h;simp only[zaz,ab_,true_and,decide_eq_true_eq] at hm;subst hm;exact .bytes hr2 hbf hx
    | sym he hb' hn=>
     rename_i q l o;simp only[mkB,if_neg hb,he] at h
     cases hr2:er c with
     | none=>rw[hr2] at h;cases h
     | some pb=>
      rw[hr2] at h
      cases pb with
      | recd fs=>cases h
      | bytes n=>cases h
      | enum lr o'=>
       simp only at h;generalize (l.map Prod.fst).getD ((q:Int)).toNat 0=cc at h
       cases hq:rdsS lr o' cc with
       | none=>rw[hq] at h;cases h
       | some q'=>
        rw[hq] at h;simp only[a2_,ad_] at h;subst h;refine .sym hr2 hbf ?_;unfold rdsS at hq;split at hq
        ·rename_i q2 hf;simp only[ad_] at hq;subst hq;obtain⟨h1,_⟩:=List.findIdx?_eq_some_iff_getElem.1 hf
         simpa using h1
        ·split at hq
         ·cases hq
         ·obtain⟨h1,_⟩:=List.findIdx?_eq_some_iff_getElem.1 hq
          simpa using h1
    | recd he hb' hl hh=>
     rename_i fw ds;simp only[mkB,if_neg hb,he] at h
     cases hr2:er c with
     | none=>rw[hr2] at h;cases h
     | some pb=>
      rw[hr2] at h
      cases pb with
      | enum l o=>cases h
      | bytes n=>cases h
      | recd fr=>
       simp only at h
       cases hx:mapO (mkF R df fw ds) fr with
       | none=>rw[hx] at h;cases h
       | some l=>
        rw[hx] at h;simp only[a2_,ad_] at h;subst h;obtain⟨h1,h2⟩:=zc1 hx;refine .recd hr2 hbf h1 (λ i y t hy ht=>?_);rw[a4_] at ht
        cases hg:fr[i]? with
        | none=>rw[hg] at ht;cases ht
        | some g=>
         rw[hg] at ht;simp only[a2_,ad_] at ht;subst ht;have hk:=h2 i g y hg hy;have hgm:=ak_ hg;unfold mkF at hk;split at hk
         ·rename_i j hj;split at hk
          ·rename_i hf' hd' e1 e2;exact hR _ _ _ _ (hh j hd' hf'.ty e2 (by rw[a4_,e1];rfl)) (hE c _ hr2 g hgm) ((hW c fr hr2).2 g hgm) hk
          ·cases hk
         ·exact hD c fr g y hr2 hgm hk
theorem zyd {df:PF->Option DT}(hD:DfOK er df) (hE:zes er) (hW:fewE er):∀ (f:Nat) (w r:PT) (d x:DT),Dat ew d w->okT er r->fewT r->mkP ew er df f w r d=some x->Dat er x r:=by
 intro f
 induction f with
 | zero=>intro w r d x _ _ _ h;simp[mkP] at h
 | succ f ih=>
  have ih':∀ w r d x,Dat ew d w->okT er r->fewT r->mkP ew er df f w r d=some x->Dat er x r:=ih;intro w r d x hd hr hf h
  have plain:∀ w:PT,(∀ p l,w≠.alts p l)->Dat ew d w->mkP ew er df (f+1) w r d=some x->Dat er x r:=by
   intro w hw hd h
   cases r with
   | alts p rs=>
    have h':(match vs_ ew er w rs 0 none with|none=>none|some k=>match rs[k]? with|none=>none|some r1=>(mkB (mkP ew er df f) ew er df w r1 d).map (λ x=>DT.mk 40 (k:Int) noB [] [x]))=some x:=by
     cases w with
     | alts p l=>exact absurd rfl (hw p l)
     | leaf c p=>simpa only[mkP] using h
     | wrap c p u=>simpa only[mkP] using h
    clear h;split at h'
    ·cases h'
    ·rename_i k hk;obtain⟨r1,hr1,hm⟩:=zok rs 0 none rs (λ j hj=>by cases hj) (λ j=>by rw[bg_]) k hk;rw[hr1] at h';simp only at h'
     cases hx:mkB (mkP ew er df f) ew er df w r1 d with
     | none=>rw[hx] at h';cases h'
     | some y=>
      rw[hx] at h';simp only[a2_,ad_] at h';subst h';unfold okT at hr;unfold fewT at hf;have hlt:=(ao_.1 hr1).1;have hmem:=ak_ hr1;exact .alts (by omega) hr1 (zm6 hD ih' hE hW hd (j6_ hr.2 r1 hmem).2 (zc9 hf.2 r1 hmem) hm hx)
   | leaf c' p'=>
    have h':(if matP ew er w (.leaf c' p')=true then mkB (mkP ew er df f) ew er df w (.leaf c' p') d else none)=some x:=by
     cases w with
     | alts p l=>exact absurd rfl (hw p l)
     | leaf c p=>simpa only[mkP] using h
     | wrap c p u=>simpa only[mkP] using h
    split at h'
    ·rename_i hm;exact zm6 hD ih' hE hW hd hr hf hm h'
    ·cases h'
   | wrap c' p' u'=>
    have h':(if matP ew er w (.wrap c' p' u')=true then mkB (mkP ew er df f) ew er df w (.wrap c' p' u') d else none)=some x:=by
     cases w with
     | alts p l=>exact absurd rfl (hw p l)
     | leaf c p=>simpa only[mkP] using h
     | wrap c p u=>simpa only[mkP] using h
    split at h'
    ·rename_i hm;exact zm6 hD ih' hE hW hd hr hf hm h'
    ·cases h'
  cases w with
  | leaf c p=>exact plain _ (λ _ _ h=>by cases h) hd h
  | wrap c p u=>exact plain _ (λ _ _ h=>by cases h) hd h
  | alts p ws=>
   cases hd with
   | alts hn hl hd1=>
    rename_i q u d1;simp only[mkP,bc_,hl] at h;exact ih' _ _ _ _ hd1 hr hf h
open Go.RowKit
def optV (o:Option Nat):Value:=.tuple #[.int .i64 ((o.getD 0:Nat):Int),.bool o.isSome]
theorem zvb {w:World}{fs:List PF}{fv:Value}{zs:List Value}{p:Int}(hF:vj_ w P s fs fv zs) (hl:fs.length<=300) :
 Calls prog 241 #[.agg #[.int .i64 p,fv],.int .u8 (c:Int)] w λ e w'=>e=.returned (optV (idxF fs c))/\Fr w w' (λ _=>False):=by
 refine hq_ λ POST Q_=>?_;obtain⟨fa,fc,rfl⟩:=zf_ hF.row;have A0:Fr w (w.alloc (.cells #[.int .i64 p,.slice fa fs.length fc] 263)) (λ _=>False):=(Fr.refl w _).alloc _;have start:H_ (∃ q:Nat,Value.int .i64 0=.int .i64 (q:Int)/\q<=fs.length/\fs.length+1-q<=fs.length+1/\Fr w (w.alloc (.cells #[.int .i64 p,.slice fa fs.length fc] 263)) (λ _=>False)/\c∉(fs.take q).map PF.letter):=q_ ⟨0,rfl,aj_ _,by omega,A0,by simp⟩;replace hF:=q_ hF;clear A0
 go_in
 go_wp2_with fail
 go_loopg [6,11] (fs.length+1) (λ m v6 v W=>∃ q:Nat,v=.int .i64 (q:Int)/\q<=fs.length/\fs.length+1-q<=m/\Fr w W (λ _=>False)/\c∉(fs.take q).map PF.letter)
 case atStart=>exact start.o
 case round=>
  clear start;obtain⟨q,rfl,hq,hm,hf,he⟩:=hrel;have hsz:=hf.size
  by_cases hlt:q<fs.length
  ·have hlt':(q:Int)<(fs.length:Int):=by omega
   have hd:fs[q]?=some fs[q]:=am_ hlt;generalize fs[q]=f at hd;obtain⟨g,cap,hgc⟩:=zk_ hF.o.row (by omega);cases hgc;obtain⟨T,x,d,c0,c1,c2,c3,_,_⟩:=(hF.o.fr hf u_).cells hd;obtain⟨l,hl0⟩:∃ l,f.letter=l:=⟨_,rfl⟩;obtain⟨plq,hpl⟩:∃ q,f.place=q:=⟨_,rfl⟩;rw[hl0] at c1;rw[hpl] at c0;have A1:=q_ (hf.trans ((Fr.refl wr (λ _=>False)).alloc (.cells #[.int .i64 (plq:Int),.int .u8 (l:Int),.iface T x,.pointer d] 220)) u_)
   by_cases hb:l=c
   ·subst hb
    have hb':((l:Int)==(l:Int))=true:=by rw[beq_iff_eq]
    have hr:=q_ (show idxF fs l=some q by unfold idxF;exact zi1 _ q l (by rw[a4_,hd,<- hl0];rfl) (by rw[<- List.map_take];exact he));clear he hf hl0
    go_wp2_with fail
    try go_ret
    rw[Q_.o,hr.o];exact⟨rfl,A1.o⟩
   ·have hb':((l:Int)==(c:Int))=false:=by rw[beq_eq_false_iff_ne];omega
    have he':=q_ (show c∉(fs.take (q+1)).map PF.letter by
     rw[ba_,hd]
     simp only[Option.toList_some,bq_,ap_,a1_,bj_,a6_,not_or]
     exact⟨he,λ e=>hb (by rw[<- hl0];exact e.symm)⟩)
    clear he hf hl0
    go_wp2_with fail
    go_roundg (fs.length+1-(q+1))
    case measure=>omega
    case rel=>exact⟨q+1,rfl,hlt,l_,A1.o,he'.o⟩
  ·have hlt':¬ ((q:Int)<(fs.length:Int)):=by omega
   rw[a3_ (by omega)] at he;have hr:=q_ (show idxF fs c=none by unfold idxF;exact zc8 he);replace hf:=q_ hf;clear he
   go_wp2_with fail
   try go_ret
   rw[Q_.o,hr.o];exact⟨rfl,hf.o⟩
theorem zwn {w:World}{lv:Value}{l:List (Nat×Nat)}{p:Int}(ho:w.ownsRow 0 217 2 lv l.length (yg_ l)) (hu:∃ d,u=.pointer d) (hl:l.length<=300) :
 Calls prog 240 #[.agg #[.int .i64 p,lv,u],.int .u8 (c:Int)] w λ e w'=>e=.returned (optV ((l.map Prod.fst).findIdx? (λ x=>x==c)))/\Fr w w' (λ _=>False):=by
 refine hq_ λ POST Q_=>?_;obtain⟨la,lc,rfl⟩:=zf_ ho;obtain⟨du,rfl⟩:=hu;have A0:Fr w (w.alloc (.cells #[.int .i64 p,.slice la l.length lc,.pointer du] 268)) (λ _=>False):=(Fr.refl w _).alloc _;have start:H_ (∃ q:Nat,Value.int .i64 0=.int .i64 (q:Int)/\q<=l.length/\l.length+1-q<=l.length+1/\Fr w (w.alloc (.cells #[.int .i64 p,.slice la l.length lc,.pointer du] 268)) (λ _=>False)/\c∉(l.take q).map Prod.fst):=q_ ⟨0,rfl,aj_ _,by omega,A0,by simp⟩;replace ho:=q_ ho;clear A0
 go_in
 go_wp2_with fail
 go_loopg [6,11] (l.length+1) (λ m v6 v W=>∃ q:Nat,v=.int .i64 (q:Int)/\q<=l.length/\l.length+1-q<=m/\Fr w W (λ _=>False)/\c∉(l.take q).map Prod.fst)
 case atStart=>exact start.o
 case round=>
  clear start;obtain⟨q,rfl,hq,hm,hf,he⟩:=hrel;have hsz:=hf.size
  by_cases hlt:q<l.length
  ·have hlt':(q:Int)<(l.length:Int):=by omega
   have hd:l[q]?=some l[q]:=am_ hlt;generalize l[q]=f at hd;obtain⟨k,plq⟩:=f;obtain⟨g,cap,hgc⟩:=zk_ ho.o (by omega);cases hgc;have hrow:=zb_ ho.o hf u_;have c0:=zs_ hrow rfl (xp_ hd).1;have c1:=zs_ hrow rfl (xp_ hd).2;have A1:=q_ (hf.trans ((Fr.refl wr (λ _=>False)).alloc (.cells #[.int .i64 (plq:Int),.int .u8 (k:Int)] 217)) u_);clear hrow
   by_cases hb:k=c
   ·subst hb
    have hb':((k:Int)==(k:Int))=true:=by rw[beq_iff_eq]
    have hr:=q_ (show(l.map Prod.fst).findIdx? (λ x=>x==k)=some q from zi1 _ q k (by rw[a4_,hd];rfl) (by rw[<- List.map_take];exact he));clear he hf
    go_wp2_with fail
    try go_ret
    rw[Q_.o,hr.o];exact⟨rfl,A1.o⟩
   ·have hb':((k:Int)==(c:Int))=false:=by rw[beq_eq_false_iff_ne];omega
    have he':=q_ (show c∉(l.take (q+1)).map Prod.fst by
     rw[ba_,hd]
     simp only[Option.toList_some,bq_,ap_,a1_,bj_,a6_,not_or]
     exact⟨he,λ e=>hb e.symm⟩)
    clear he hf
    go_wp2_with fail
    go_roundg (l.length+1-(q+1))
    case measure=>omega
    case rel=>exact⟨q+1,rfl,hlt,l_,A1.o,he'.o⟩
  ·have hlt':¬ ((q:Int)<(l.length:Int)):=by omega
   rw[a3_ (by omega)] at he;have hr:=q_ (show(l.map Prod.fst).findIdx? (λ x=>x==c)=none from zc8 he);replace hf:=q_ hf;clear he
   go_wp2_with fail
   try go_ret
   rw[Q_.o,hr.o];exact⟨rfl,hf.o⟩
theorem zqu {w:World}{lv:Value}{l:List (Nat×Nat)}{o:Option (Nat×Nat)}{p:Int}(ho:w.ownsRow 0 217 2 lv l.length (yg_ l)) (hu:UnkV w P o u) (hl:l.length<=300) :
 Calls prog 194 #[.agg #[.int .i64 p,lv,u],.int .u8 (c:Int)] w λ e w'=>e=.returned (optV (rdsS l o c))/\Fr w w' (λ _=>False):=by
 refine hq_ λ POST Q_=>?_
 obtain⟨du,hdu⟩:∃ d,u=.pointer d:=by
  unfold UnkV at hu;split at hu
  ·exact⟨_,hu⟩
  ·obtain⟨g',_,e,_⟩:=hu;exact⟨_,e⟩
 have hH:=q_ (λ (W:World) (hW:Fr w W (λ _=>False)) (k:Nat)=>zwn (w:=W) (p:=p) (u:=u) (c:=k) (zb_ ho hW u_) ⟨du,hdu⟩ hl);obtain⟨la,lc,rfl⟩:=zf_ ho;have A0:=q_ ((Fr.refl w _).alloc _:Fr w (w.alloc (.cells #[.int .i64 p,.slice la l.length lc,u] 268)) (λ _=>False));have B0:=q_ (Blk.new w #[.int .i64 p,.slice la l.length lc,u] 268)
 cases hq:(l.map Prod.fst).findIdx? (λ x=>x==c) with
 | some q=>
  have hr:=q_ (show rdsS l o c=some q by unfold rdsS;rw[hq]);subst hdu;replace hq:=q_ hq;clear hu ho
  go_in
  go_wp2_with (go_at_call 240;refine(hH.o _ A0.o c).mono ?_;rintro e w1 ⟨rfl,hf1⟩;rw[hq.o];simp only[optV,b0_,Option.isSome_some];have F1:=q_ (A0.o.trans hf1 u_);have b2:=(hf1.blk B0.o id).c2;clear hf1)
  try go_ret
  rw[Q_.o,hr.o];exact⟨rfl,F1.o⟩
 | none=>
  cases o with
  | none=>
   have hr:=q_ (show rdsS l none c=none by unfold rdsS;rw[hq]);obtain rfl:u=.pointer none:=hu;cases hdu;replace hq:=q_ hq;clear ho
   go_in
   go_wp2_with (go_at_call 240;refine(hH.o _ A0.o c).mono ?_;rintro e w1 ⟨rfl,hf1⟩;rw[hq.o];simp only[optV,Option.getD_none,cb_];have F1:=q_ (A0.o.trans hf1 u_);have b2:=(hf1.blk B0.o id).c2;clear hf1)
   try go_ret
   rw[Q_.o,hr.o];exact⟨rfl,F1.o⟩
  | some cp=>
   obtain⟨cu,pu⟩:=cp;have hr:=q_ (show rdsS l (some (cu,pu)) c=(l.map Prod.fst).findIdx? (λ x=>x==cu) by unfold rdsS;rw[hq]);obtain⟨g,hg,rfl,hB⟩:=hu;cases hdu;replace hq:=q_ hq;replace hB:=q_ hB;clear ho
   go_in
   go_wp2_with (go_at_call 240;with_reducible refine(hH.o _ A0.o c).mono ?_;rintro e w1 ⟨rfl,hf1⟩;rw[hq.o];simp only[optV,Option.getD_none,cb_];have F1:=q_ (A0.o.trans hf1 u_);obtain⟨b0,b1,b2⟩:=(hf1.blk B0.o id).d3;have y1:=(F1.o.blk hB.o id).c1;have B1:=q_ (hf1.blk B0.o id);have Y1:=q_ (F1.o.blk hB.o id);clear hf1)
   refine z8_ (λ W=>W.cell? ⟨w.heap.size,0,none⟩=some (.int .i64 p)/\W.cell? ⟨w.heap.size,1,none⟩=some (.slice la l.length lc)/\W.cell? ⟨w.heap.size,2,none⟩=some (.pointer (some ⟨g,0,none⟩))/\W.cell? ⟨g,1,none⟩=some (.int .u8 (cu:Int))) (by kernel_rfl) ?_;refine tA_ 0 rfl (by kernel_rfl) (λ _ _ _ h=>h) (by rintro W ⟨h1,h2,h3,h4⟩;go_simp<;>rfl) ?_;refine tA_ 1 rfl (by kernel_rfl) (λ _ _ _ h=>h) (by rintro W ⟨h1,h2,h3,h4⟩;go_simp<;>rfl) ?_;refine tA_ 2 rfl (by kernel_rfl) (λ _ _ _ h=>h) (by rintro W ⟨h1,h2,h3,h4⟩;go_simp<;>rfl) ?_;refine tA_ 3 rfl (by kernel_rfl) (λ _ _ _ h=>h) (by rintro W ⟨h1,h2,h3,h4⟩;go_simp<;>rfl) ?_;refine tA_ 4 rfl (by kernel_rfl) (λ _ _ _ h=>h) (by rintro W ⟨h1,h2,h3,h4⟩;go_simp<;>rfl) ?_;refine tA_ 5 rfl (by kernel_rfl) (λ _ _ _ h=>h) (by rintro W ⟨h1,h2,h3,h4⟩;go_simp<;>rfl) ?_;refine zr_ 6 rfl (by kernel_rfl) ⟨b0,b1,b2,y1⟩ (λ K hK=>?_);go_simp;refine(hH.o _ (F1.o.drew) cu).mono ?_;rintro e w2 ⟨rfl,hf2⟩;refine hK _ _ ?_;clear hK K;have B2:=hf2.blk B1.o.drew id;have Y2:=hf2.blk Y1.o.drew id;obtain⟨d0,d1,d2⟩:=B2.d3;have z1:=Y2.c1;have F2:=q_ (F1.o.drew.trans hf2 u_);clear hf2 B2 Y2;unfold optV;refine tA_ 7 rfl (by kernel_rfl) (λ _ _ _ h=>h) (by rintro W ⟨h1,h2,h3,h4⟩;go_simp<;>rfl) ?_;refine tA_ 8 rfl (by kernel_rfl) (λ _ _ _ h=>h) (by rintro W ⟨h1,h2,h3,h4⟩;go_simp<;>rfl) ?_;refine tA_ 9 rfl (by kernel_rfl) (λ _ _ _ h=>h) (by rintro W ⟨h1,h2,h3,h4⟩;go_simp<;>rfl) ?_;refine tA_ 10 rfl (by kernel_rfl) (λ _ _ _ h=>h) (by rintro W ⟨h1,h2,h3,h4⟩;go_simp<;>rfl) ?_;refine z5_ (by kernel_rfl) ⟨d0,d1,d2,z1⟩ ?_ _;clear d0 d1 d2 z1 b0 b1 b2 y1
   go_wp2_with fail
   refine bodyPost_ret (v:=.tuple #[.int .i64 ((((l.map Prod.fst).findIdx? (λ x=>x==cu)).getD 0:Nat):Int),.bool ((l.map Prod.fst).findIdx? (λ x=>x==cu)).isSome]) (by simp[results,results194,go_sem];try rfl) rfl ?_;rw[Q_.o,hr.o];exact⟨rfl,F2.o⟩
open Go.RowKit
theorem zl2 (v:Value) (w:World):(Instr.typeAssert (.iface 338 v) 20 338 true).run prog w=.ok (.tuple #[v,.bool true]) w:=by kernel_rfl
theorem znu (u:TypeId) (h:u≠338) (v:Value) (w:World):(Instr.typeAssert (.iface u v) 20 338 true).run prog w=.ok (.tuple #[.agg #[],.bool false]) w:=by
 have e:(Instr.typeAssert (.iface u v) 20 338 true).run prog w=(if u=338 then (pure (Value.tuple #[v,.bool true]):Sem Value) else (do pure (Value.tuple #[<- zeroValue 338,.bool false]))).run prog w:=by kernel_rfl
 have e2:(do pure (Value.tuple #[<- zeroValue 338,.bool false]):Sem Value).run prog w=.ok (.tuple #[.agg #[],.bool false]) w:=by kernel_rfl
 rw[e,if_neg h];exact e2
theorem znw (v:Value) (w:World):(Instr.typeAssert (.iface 278 v) 20 278 true).run prog w=.ok (.tuple #[v,.bool true]) w:=by kernel_rfl
theorem zq5 (u:TypeId) (h:u≠278) (v:Value) (w:World):(Instr.typeAssert (.iface u v) 20 278 true).run prog w=.ok (.tuple #[.agg #[.int .i64 0,.nilIface],.bool false]) w:=by
 have e:(Instr.typeAssert (.iface u v) 20 278 true).run prog w=(if u=278 then (pure (Value.tuple #[v,.bool true]):Sem Value) else (do pure (Value.tuple #[<- zeroValue 278,.bool false]))).run prog w:=by kernel_rfl
 have e2:(do pure (Value.tuple #[<- zeroValue 278,.bool false]):Sem Value).run prog w=.ok (.tuple #[.agg #[.int .i64 0,.nilIface],.bool false]) w:=by kernel_rfl
 rw[e,if_neg h];exact e2
theorem zq6 (v:Value) (w:World):(Instr.typeAssert (.iface 247 v) 20 247 true).run prog w=.ok (.tuple #[v,.bool true]) w:=by kernel_rfl
theorem zum (u:TypeId) (h:u≠247) (v:Value) (w:World):(Instr.typeAssert (.iface u v) 20 247 true).run prog w=.ok (.tuple #[.agg #[.int .i64 0],.bool false]) w:=by
 have e:(Instr.typeAssert (.iface u v) 20 247 true).run prog w=(if u=247 then (pure (Value.tuple #[v,.bool true]):Sem Value) else (do pure (Value.tuple #[<- zeroValue 247,.bool false]))).run prog w:=by kernel_rfl
 have e2:(do pure (Value.tuple #[<- zeroValue 247,.bool false]):Sem Value).run prog w=.ok (.tuple #[.agg #[.int .i64 0],.bool false]) w:=by kernel_rfl
 rw[e,if_neg h];exact e2
theorem zg8 (v:Value) (w:World):(Instr.typeAssert (.iface 244 v) 20 244 true).run prog w=.ok (.tuple #[v,.bool true]) w:=by kernel_rfl
theorem zi8 (u:TypeId) (h:u≠244) (v:Value) (w:World):(Instr.typeAssert (.iface u v) 20 244 true).run prog w=.ok (.tuple #[.agg #[.int .i64 0],.bool false]) w:=by
 have e:(Instr.typeAssert (.iface u v) 20 244 true).run prog w=(if u=244 then (pure (Value.tuple #[v,.bool true]):Sem Value) else (do pure (Value.tuple #[<- zeroValue 244,.bool false]))).run prog w:=by kernel_rfl
 have e2:(do pure (Value.tuple #[<- zeroValue 244,.bool false]):Sem Value).run prog w=.ok (.tuple #[.agg #[.int .i64 0],.bool false]) w:=by kernel_rfl
 rw[e,if_neg h];exact e2
theorem zl1 (v:Value) (w:World):(Instr.typeAssert (.iface 245 v) 20 245 true).run prog w=.ok (.tuple #[v,.bool true]) w:=by kernel_rfl
theorem zns (u:TypeId) (h:u≠245) (v:Value) (w:World):(Instr.typeAssert (.iface u v) 20 245 true).run prog w=.ok (.tuple #[.agg #[.int .i64 0],.bool false]) w:=by
 have e:(Instr.typeAssert (.iface u v) 20 245 true).run prog w=(if u=245 then (pure (Value.tuple #[v,.bool true]):Sem Value) else (do pure (Value.tuple #[<- zeroValue 245,.bool false]))).run prog w:=by kernel_rfl
 have e2:(do pure (Value.tuple #[<- zeroValue 245,.bool false]):Sem Value).run prog w=.ok (.tuple #[.agg #[.int .i64 0],.bool false]) w:=by kernel_rfl
 rw[e,if_neg h];exact e2
theorem znv (v:Value) (w:World):(Instr.typeAssert (.iface 249 v) 20 249 true).run prog w=.ok (.tuple #[v,.bool true]) w:=by kernel_rfl
theorem zq4 (u:TypeId) (h:u≠249) (v:Value) (w:World):(Instr.typeAssert (.iface u v) 20 249 true).run prog w=.ok (.tuple #[.agg #[.int .i64 0],.bool false]) w:=by
 have e:(Instr.typeAssert (.iface u v) 20 249 true).run prog w=(if u=249 then (pure (Value.tuple #[v,.bool true]):Sem Value) else (do pure (Value.tuple #[<- zeroValue 249,.bool false]))).run prog w:=by kernel_rfl
 have e2:(do pure (Value.tuple #[<- zeroValue 249,.bool false]):Sem Value).run prog w=.ok (.tuple #[.agg #[.int .i64 0],.bool false]) w:=by kernel_rfl
 rw[e,if_neg h];exact e2
theorem znt (v:Value) (w:World):(Instr.typeAssert (.iface 250 v) 20 250 true).run prog w=.ok (.tuple #[v,.bool true]) w:=by kernel_rfl
theorem zq3 (u:TypeId) (h:u≠250) (v:Value) (w:World):(Instr.typeAssert (.iface u v) 20 250 true).run prog w=.ok (.tuple #[.agg #[.int .i64 0],.bool false]) w:=by
 have e:(Instr.typeAssert (.iface u v) 20 250 true).run prog w=(if u=250 then (pure (Value.tuple #[v,.bool true]):Sem Value) else (do pure (Value.tuple #[<- zeroValue 250,.bool false]))).run prog w:=by kernel_rfl
 have e2:(do pure (Value.tuple #[<- zeroValue 250,.bool false]):Sem Value).run prog w=.ok (.tuple #[.agg #[.int .i64 0],.bool false]) w:=by kernel_rfl
 rw[e,if_neg h];exact e2
theorem zqk {w:World}(u:TypeId) (h:u≠338) (v:Value):Calls prog 196 #[.iface u v] w λ e w'=>e=.returned (.bool false)/\Fr w w' (λ _=>False):=by
 have a:=znu u h v;have hA:=q_ (λ o=>(Fr.refl w (λ _=>False)).alloc o);clear h
 go_in
 go_wp2_with fail
 try go_ret
 exact⟨rfl,hA.o _⟩
theorem zto {w:World}(u:TypeId) (h:u≠278) (v:Value):Calls prog 197 #[.iface u v] w λ e w'=>e=.returned (.bool false)/\Fr w w' (λ _=>False):=by
 have a:=zq5 u h v;have hA:=q_ (λ o=>(Fr.refl w (λ _=>False)).alloc o);clear h
 go_in
 go_wp2_with fail
 try go_ret
 exact⟨rfl,hA.o _⟩
theorem zfc {w:World}(u:TypeId) (h:u≠247) (v:Value):Calls prog 198 #[.iface u v] w λ e w'=>e=.returned (.bool false)/\Fr w w' (λ _=>False):=by
 have a:=zum u h v;have hA:=q_ (λ o=>(Fr.refl w (λ _=>False)).alloc o);clear h
 go_in
 go_wp2_with fail
 try go_ret
 exact⟨rfl,hA.o _⟩
theorem j4_ {w:World}(u:TypeId) (h:u≠244) (v:Value):Calls prog 200 #[.iface u v] w λ e w'=>e=.returned (.bool false)/\Fr w w' (λ _=>False):=by
 have a:=zi8 u h v;have hA:=q_ (λ o=>(Fr.refl w (λ _=>False)).alloc o);clear h
 go_in
 go_wp2_with fail
 try go_ret
 exact⟨rfl,hA.o _⟩
theorem zbt {w:World}(u:TypeId) (h:u≠245) (v:Value):Calls prog 201 #[.iface u v] w λ e w'=>e=.returned (.bool false)/\Fr w w' (λ _=>False):=by
 have a:=zns u h v;have hA:=q_ (λ o=>(Fr.refl w (λ _=>False)).alloc o);clear h
 go_in
 go_wp2_with fail
 try go_ret
 exact⟨rfl,hA.o _⟩
theorem zc7 {w:World}(u:TypeId) (h:u≠249) (v:Value):Calls prog 202 #[.iface u v] w λ e w'=>e=.returned (.bool false)/\Fr w w' (λ _=>False):=by
 have a:=zq4 u h v;have hA:=q_ (λ o=>(Fr.refl w (λ _=>False)).alloc o);clear h
 go_in
 go_wp2_with fail
 try go_ret
 exact⟨rfl,hA.o _⟩
theorem zc5 {w:World}(u:TypeId) (h:u≠250) (v:Value):Calls prog 203 #[.iface u v] w λ e w'=>e=.returned (.bool false)/\Fr w w' (λ _=>False):=by
 have a:=zq3 u h v;have hA:=q_ (λ o=>(Fr.refl w (λ _=>False)).alloc o);clear h
 go_in
 go_wp2_with fail
 try go_ret
 exact⟨rfl,hA.o _⟩
theorem znf {w:World}:Calls prog 196 #[.iface 338 (.agg #[])] w λ e w'=>e=.returned (.bool true)/\Fr w w' (λ _=>False):=by
 have a:=zl2;have hA:=q_ (λ o=>(Fr.refl w (λ _=>False)).alloc o)
 go_in
 go_wp2_with fail
 try go_ret
 exact⟨rfl,hA.o _⟩
theorem zhm {w:World}{T:TypeId}{x:Value}:Calls prog 197 #[.iface 278 (.agg #[.int .i64 n,.iface T x])] w λ e w'=>e=.returned (.bool true)/\Fr w w' (λ _=>False):=by
 have a:=znw;have hA:=q_ (λ o=>(Fr.refl w (λ _=>False)).alloc o)
 go_in
 go_wp2_with fail
 try go_ret
 exact⟨rfl,hA.o _⟩
theorem ztp {w:World}:Calls prog 198 #[.iface 247 (.agg #[.int .i64 n])] w λ e w'=>e=.returned (.bool true)/\Fr w w' (λ _=>False):=by
 have a:=zq6;have hA:=q_ (λ o=>(Fr.refl w (λ _=>False)).alloc o)
 go_in
 go_wp2_with fail
 try go_ret
 exact⟨rfl,hA.o _⟩
theorem ziz {w:World}:Calls prog 200 #[.iface 244 (.agg #[.int .i64 n])] w λ e w'=>e=.returned (.bool true)/\Fr w w' (λ _=>False):=by
 have a:=zg8;have hA:=q_ (λ o=>(Fr.refl w (λ _=>False)).alloc o)
 go_in
 go_wp2_with fail
 try go_ret
 exact⟨rfl,hA.o _⟩
theorem zne {w:World}:Calls prog 201 #[.iface 245 (.agg #[.int .i64 n])] w λ e w'=>e=.returned (.bool true)/\Fr w w' (λ _=>False):=by
 have a:=zl1;have hA:=q_ (λ o=>(Fr.refl w (λ _=>False)).alloc o)
 go_in
 go_wp2_with fail
 try go_ret
 exact⟨rfl,hA.o _⟩
theorem zqm {w:World}:Calls prog 202 #[.iface 249 (.agg #[.int .i64 n])] w λ e w'=>e=.returned (.bool true)/\Fr w w' (λ _=>False):=by
 have a:=znv;have hA:=q_ (λ o=>(Fr.refl w (λ _=>False)).alloc o)
 go_in
 go_wp2_with fail
 try go_ret
 exact⟨rfl,hA.o _⟩
theorem zqi {w:World}:Calls prog 203 #[.iface 250 (.agg #[.int .i64 n])] w λ e w'=>e=.returned (.bool true)/\Fr w w' (λ _=>False):=by
 have a:=znt;have hA:=q_ (λ o=>(Fr.refl w (λ _=>False)).alloc o)
 go_in
 go_wp2_with fail
 try go_ret
 exact⟨rfl,hA.o _⟩
theorem js_ {w:World}(b:Bool):Calls prog 199 #[.bool b] w λ e w'=>e=.returned (if b=true then .iface 273 (.agg #[]) else .iface 338 (.agg #[]))/\w'=w:=by
 cases b with
 | true=>
  go_in
  go_wp2_with fail
  try go_ret
  exact⟨rfl,rfl⟩
 | false=>
  go_in
  go_wp2_with fail
  try go_ret
  exact⟨rfl,rfl⟩
open Go.RowKit
inductive MbV:PB->PB->Value->Value->Value->Prop
 | flds {fw fr:List PF} {p sv q rv:Value}:MbV (.recd fw) (.recd fr) (.iface 263 (.agg #[p,sv])) (.iface 263 (.agg #[q,rv])) (.iface 286 (.agg #[p,sv,q,rv]))
 | syms {lw lr:List (Nat×Nat)} {ow or':Option (Nat×Nat)} {p sv u q rv u':Value}:MbV (.enum lw ow) (.enum lr or') (.iface 268 (.agg #[p,sv,u])) (.iface 268 (.agg #[q,rv,u'])) (.iface 283 (.agg #[p,sv,u,q,rv,u']))
 | same {n:Nat} {a b:Value}:MbV (.bytes n) (.bytes n) a b (.iface 273 (.agg #[]))
 | never {x y:PB} {a b:Value} (h:zaz x≠zaz y):MbV x y a b (.iface 338 (.agg #[]))
theorem UnkV.ptr {w:World}{o:Option (Nat×Nat)}(hu:UnkV w P o u):∃ d,u=.pointer d:=by
 unfold UnkV at hu;split at hu
 ·exact⟨_,hu⟩
 ·obtain⟨g',_,e,_⟩:=hu;exact⟨_,e⟩
theorem zna {w:World}{Q:Nat->Prop}{x y:PB}{b:Value}(ha:xo_ w P s x a) (hb:xo_ w Q s' y b) :
 Calls prog 204 #[a,b] w λ e w'=>∃ v,e=.returned v/\Fr w w' (λ _=>False)/\MbV x y a b v:=by
 obtain⟨POST,Q_⟩:∃ R,H_ (R=λ (e:Ending) (w':World)=>∃ v,e=.returned v/\Fr w w' (λ _=>False)/\MbV x y a b v):=⟨_,rfl⟩;rw[<- Q_.o];have hA:=q_ (λ o o'=>((Fr.refl w (λ _=>False)).alloc o).alloc o')
 cases ha with
 | recd p ho hP h=>
  obtain⟨sa,sc,rfl⟩:=zf_ ho;clear ho hP h;have a1:=vh_
  cases hb with
  | recd p' ho' hP' h'=>
   obtain⟨ra,rc,rfl⟩:=zf_ ho';clear ho' hP' h'
   go_in
   go_wp2_with fail
   try go_ret
   rw[Q_.o];exact⟨_,rfl,hA.o _ _,.flds⟩
  | enum p' ho' hP' hu'=>
   have a2:=yo_ 268 (by decide);clear ho' hP' hu'
   go_in
   go_wp2_with fail
   try go_ret
   rw[Q_.o];exact⟨_,rfl,hA.o _ _,.never (by simp[zaz])⟩
  | bytes p' n'=>
   have a2:=yo_ 271 (by decide)
   go_in
   go_wp2_with fail
   try go_ret
   rw[Q_.o];exact⟨_,rfl,hA.o _ _,.never (by simp[zaz])⟩
 | enum p ho hP hu=>
  obtain⟨sa,sc,rfl⟩:=zf_ ho;obtain⟨du,rfl⟩:=hu.ptr;clear ho hP hu;have a1:=yo_ 268 (by decide);have a3:=zbz
  cases hb with
  | recd p' ho' hP' h'=>
   have a2:=zah 263 (by decide);clear ho' hP' h'
   go_in
   go_wp2_with fail
   try go_ret
   rw[Q_.o];exact⟨_,rfl,hA.o _ _,.never (by simp[zaz])⟩
  | enum p' ho' hP' hu'=>
   obtain⟨ra,rc,rfl⟩:=zf_ ho';obtain⟨du',rfl⟩:=hu'.ptr;clear ho' hP' hu'
   go_in
   go_wp2_with fail
   try go_ret
   rw[Q_.o];exact⟨_,rfl,hA.o _ _,.syms⟩
  | bytes p' n'=>
   have a2:=zah 271 (by decide)
   go_in
   go_wp2_with fail
   try go_ret
   rw[Q_.o];exact⟨_,rfl,hA.o _ _,.never (by simp[zaz])⟩
 | bytes p n=>
  have a1:=yo_ 271 (by decide);have a3:=zah 271 (by decide);have a4:=zcm;have hI:=q_ (λ (W:World) (b:Bool)=>js_ (w:=W) b)
  cases hb with
  | recd p' ho' hP' h'=>
   have a2:=zhx 263 (by decide);clear ho' hP' h'
   go_in
   go_wp2_with (go_at_call 199;refine(hI.o _ _).mono ?_;rintro e w1 ⟨rfl,rfl⟩)
   try go_ret
   rw[Q_.o];exact⟨_,rfl,hA.o _ _,.never (by simp[zaz])⟩
  | enum p' ho' hP' hu'=>
   have a2:=zhx 268 (by decide);clear ho' hP' hu'
   go_in
   go_wp2_with (go_at_call 199;refine(hI.o _ _).mono ?_;rintro e w1 ⟨rfl,rfl⟩)
   try go_ret
   rw[Q_.o];exact⟨_,rfl,hA.o _ _,.never (by simp[zaz])⟩
  | bytes p' n'=>
   by_cases hnn:n=n'
   ·subst hnn
    have e1:((n:Int)==(n:Int))=true:=by rw[beq_iff_eq]
    go_in
    go_wp2_with (go_at_call 199;refine(hI.o _ _).mono ?_;rintro e w1 ⟨rfl,rfl⟩)
    try go_ret
    rw[Q_.o];exact⟨_,rfl,hA.o _ _,.same⟩
   ·have e1:((n':Int)==(n:Int))=false:=by rw[beq_eq_false_iff_ne];omega
    have hne:=q_ hnn;clear hnn
    go_in
    go_wp2_with (go_at_call 199;refine(hI.o _ _).mono ?_;rintro e w1 ⟨rfl,rfl⟩)
    try go_ret
    rw[Q_.o];exact⟨_,rfl,hA.o _ _,.never (by simp[zaz];exact hne.o)⟩
open Go.RowKit
def jw_:PT->Prop
 | .leaf _ _=>True
 | .wrap c _ _=>c=91\/c=123
 | .alts _ _=>False
theorem zor {w:World}{Q:Nat->Prop}{y:PT}{b:Value}(hb:TyV w Q y b) (hf:jw_ y) :
 Calls prog 198 #[b] w λ e w'=>e=.returned (.bool (y.kind==105))/\Fr w w' (λ _=>False):=by
 cases hb with
 | base c p h=>
  simp only[zu_,au_,beq_iff_eq] at h
  rcases h with(((rfl|rfl)|rfl)|rfl)|rfl
  all_goals first
   | exact ztp
   | exact zfc _ (by decide) _
 | name c p h=>
  have hc:65<=c/\c<=70:=by simpa[z0_] using h
  have e:((PT.leaf c p).kind==105)=false:=by
   rw[beq_eq_false_iff_ne];show c≠105;omega
  rw[e];exact zfc _ (by decide) _
 | wrap c p h=>
  rcases hf with rfl|rfl
  ·exact zfc _ (by decide) _
  ·exact zfc _ (by decide) _
 | alts p X ho hP h=>exact hf.elim
theorem zk6 {w:World}{Q:Nat->Prop}{y:PT}{b:Value}(hb:TyV w Q y b) (hf:jw_ y) :
 Calls prog 200 #[b] w λ e w'=>e=.returned (.bool (y.kind==110))/\Fr w w' (λ _=>False):=by
 cases hb with
 | base c p h=>
  simp only[zu_,au_,beq_iff_eq] at h
  rcases h with(((rfl|rfl)|rfl)|rfl)|rfl
  all_goals first
   | exact ziz
   | exact j4_ _ (by decide) _
 | name c p h=>
  have hc:65<=c/\c<=70:=by simpa[z0_] using h
  have e:((PT.leaf c p).kind==110)=false:=by
   rw[beq_eq_false_iff_ne];show c≠110;omega
  rw[e];exact j4_ _ (by decide) _
 | wrap c p h=>
  rcases hf with rfl|rfl
  ·exact j4_ _ (by decide) _
  ·exact j4_ _ (by decide) _
 | alts p X ho hP h=>exact hf.elim
theorem zqh {w:World}{Q:Nat->Prop}{y:PT}{b:Value}(hb:TyV w Q y b) (hf:jw_ y) :
 Calls prog 201 #[b] w λ e w'=>e=.returned (.bool (y.kind==116))/\Fr w w' (λ _=>False):=by
 cases hb with
 | base c p h=>
  simp only[zu_,au_,beq_iff_eq] at h
  rcases h with(((rfl|rfl)|rfl)|rfl)|rfl
  all_goals first
   | exact zne
   | exact zbt _ (by decide) _
 | name c p h=>
  have hc:65<=c/\c<=70:=by simpa[z0_] using h
  have e:((PT.leaf c p).kind==116)=false:=by
   rw[beq_eq_false_iff_ne];show c≠116;omega
  rw[e];exact zbt _ (by decide) _
 | wrap c p h=>
  rcases hf with rfl|rfl
  ·exact zbt _ (by decide) _
  ·exact zbt _ (by decide) _
 | alts p X ho hP h=>exact hf.elim
theorem zk7 {w:World}{Q:Nat->Prop}{y:PT}{b:Value}(hb:TyV w Q y b) (hf:jw_ y) :
 Calls prog 202 #[b] w λ e w'=>e=.returned (.bool (y.kind==108))/\Fr w w' (λ _=>False):=by
 cases hb with
 | base c p h=>
  simp only[zu_,au_,beq_iff_eq] at h
  rcases h with(((rfl|rfl)|rfl)|rfl)|rfl
  all_goals first
   | exact zqm
   | exact zc7 _ (by decide) _
 | name c p h=>
  have hc:65<=c/\c<=70:=by simpa[z0_] using h
  have e:((PT.leaf c p).kind==108)=false:=by
   rw[beq_eq_false_iff_ne];show c≠108;omega
  rw[e];exact zc7 _ (by decide) _
 | wrap c p h=>
  rcases hf with rfl|rfl
  ·exact zc7 _ (by decide) _
  ·exact zc7 _ (by decide) _
 | alts p X ho hP h=>exact hf.elim
theorem ztn {w:World}{Q:Nat->Prop}{y:PT}{b:Value}(hb:TyV w Q y b) (hf:jw_ y) :
 Calls prog 203 #[b] w λ e w'=>e=.returned (.bool (y.kind==115))/\Fr w w' (λ _=>False):=by
 cases hb with
 | base c p h=>
  simp only[zu_,au_,beq_iff_eq] at h
  rcases h with(((rfl|rfl)|rfl)|rfl)|rfl
  all_goals first
   | exact zqi
   | exact zc5 _ (by decide) _
 | name c p h=>
  have hc:65<=c/\c<=70:=by simpa[z0_] using h
  have e:((PT.leaf c p).kind==115)=false:=by
   rw[beq_eq_false_iff_ne];show c≠115;omega
  rw[e];exact zc5 _ (by decide) _
 | wrap c p h=>
  rcases hf with rfl|rfl
  ·exact zc5 _ (by decide) _
  ·exact zc5 _ (by decide) _
 | alts p X ho hP h=>exact hf.elim
open Go.RowKit
theorem zs6 {p:Nat}{y:PT}(hc:zu_ c=true) (hf:jw_ y):matP ew er (.leaf c p) y=(y.kind==c||(c==105&&y.kind==108)):=by
 cases y with
 | leaf c' p'=>simp only[matP,hc,if_true,PT.kind]
 | wrap c' p' u=>
  simp only[zu_,au_,beq_iff_eq] at hc;have:c'=91\/c'=123:=hf;simp only[matP,PT.kind]
  rcases hc with(((rfl|rfl)|rfl)|rfl)|rfl<;>rcases this with rfl|rfl<;>rfl
 | alts p' l=>exact hf.elim
def zgp (b:Bool):Value:=if b=true then .iface 273 (.agg #[]) else .iface 338 (.agg #[])
section
variable {w:World} {Q:Nat->Prop} {y:PT} {b:Value} {p:Nat} {sa ra:Option Addr} {sn sc rn rc:Nat} {sT rT:TypeId} {sx rx:Value}
theorem zs3 (hb:TyV w Q y b) (hf:jw_ y):Calls prog 148 #[.agg #[.slice sa sn sc,.iface sT sx,.slice ra rn rc,.iface rT rx],.iface 244 (.agg #[.int .i64 (p:Int)]),b] w λ e w'=>e=.returned (zgp (y.kind==110))/\Fr w w' (λ _=>False):=by
 obtain⟨POST,Q_⟩:∃ R,H_ (R=λ (e:Ending) (w':World)=>e=.returned (zgp (y.kind==110))/\Fr w w' (λ _=>False)):=⟨_,rfl⟩;rw[<- Q_.o];have hI:=q_ (λ W (hW:Fr w W (λ _=>False))=>zk6 (hb.fr hW u_) hf);have hA:=q_ (λ (W:World) (b:Bool)=>js_ (w:=W) b);have A:=q_ (λ o o'=>((Fr.refl w (λ _=>False)).alloc o).alloc o');obtain⟨bT,bx,rfl⟩:=hb.iface;clear hb hf;generalize (y.kind==110)=bb at Q_ hI;have ay:=jm_;cases bb
 all_goals
  go_in
  go_wp2_with (first
   |(go_at_call 200;refine(hI.o _ (A.o _ _)).mono ?_;rintro e w1 ⟨rfl,hf1⟩;have F1:=q_ ((A.o _ _).trans hf1 u_);clear hf1)
   |(go_at_call 199;refine(hA.o _ _).mono ?_;rintro e w2 ⟨rfl,rfl⟩))
  try go_ret
  rw[Q_.o];exact⟨rfl,F1.o⟩
theorem zs1 (hb:TyV w Q y b) (hf:jw_ y):Calls prog 148 #[.agg #[.slice sa sn sc,.iface sT sx,.slice ra rn rc,.iface rT rx],.iface 245 (.agg #[.int .i64 (p:Int)]),b] w λ e w'=>e=.returned (zgp (y.kind==116))/\Fr w w' (λ _=>False):=by
 obtain⟨POST,Q_⟩:∃ R,H_ (R=λ (e:Ending) (w':World)=>e=.returned (zgp (y.kind==116))/\Fr w w' (λ _=>False)):=⟨_,rfl⟩;rw[<- Q_.o];have hI:=q_ (λ W (hW:Fr w W (λ _=>False))=>zqh (hb.fr hW u_) hf);have hA:=q_ (λ (W:World) (b:Bool)=>js_ (w:=W) b);have A:=q_ (λ o o'=>((Fr.refl w (λ _=>False)).alloc o).alloc o');obtain⟨bT,bx,rfl⟩:=hb.iface;clear hb hf;generalize (y.kind==116)=bb at Q_ hI;have a0:=zh_ 245 (by decide);have ay:=zau;cases bb
 all_goals
  go_in
  go_wp2_with (first
   |(go_at_call 201;refine(hI.o _ (A.o _ _)).mono ?_;rintro e w1 ⟨rfl,hf1⟩;have F1:=q_ ((A.o _ _).trans hf1 u_);clear hf1)
   |(go_at_call 199;refine(hA.o _ _).mono ?_;rintro e w2 ⟨rfl,rfl⟩))
  try go_ret
  rw[Q_.o];exact⟨rfl,F1.o⟩
theorem zs4 (hb:TyV w Q y b) (hf:jw_ y):Calls prog 148 #[.agg #[.slice sa sn sc,.iface sT sx,.slice ra rn rc,.iface rT rx],.iface 249 (.agg #[.int .i64 (p:Int)]),b] w λ e w'=>e=.returned (zgp (y.kind==108))/\Fr w w' (λ _=>False):=by
 obtain⟨POST,Q_⟩:∃ R,H_ (R=λ (e:Ending) (w':World)=>e=.returned (zgp (y.kind==108))/\Fr w w' (λ _=>False)):=⟨_,rfl⟩;rw[<- Q_.o];have hI:=q_ (λ W (hW:Fr w W (λ _=>False))=>zk7 (hb.fr hW u_) hf);have hA:=q_ (λ (W:World) (b:Bool)=>js_ (w:=W) b);have A:=q_ (λ o o'=>((Fr.refl w (λ _=>False)).alloc o).alloc o');obtain⟨bT,bx,rfl⟩:=hb.iface;clear hb hf;generalize (y.kind==108)=bb at Q_ hI;have a0:=zh_ 249 (by decide);have a1:=zo_ 249 (by decide);have a2:=zz_ 249 (by decide)
 have ay:=zby
 cases bb
 all_goals
  go_in
  go_wp2_with (first
   |(go_at_call 202;refine(hI.o _ (A.o _ _)).mono ?_;rintro e w1 ⟨rfl,hf1⟩;have F1:=q_ ((A.o _ _).trans hf1 u_);clear hf1)
   |(go_at_call 199;refine(hA.o _ _).mono ?_;rintro e w2 ⟨rfl,rfl⟩))
  try go_ret
  rw[Q_.o];exact⟨rfl,F1.o⟩
theorem zs2 (hb:TyV w Q y b) (hf:jw_ y):Calls prog 148 #[.agg #[.slice sa sn sc,.iface sT sx,.slice ra rn rc,.iface rT rx],.iface 250 (.agg #[.int .i64 (p:Int)]),b] w λ e w'=>e=.returned (zgp (y.kind==115))/\Fr w w' (λ _=>False):=by
 obtain⟨POST,Q_⟩:∃ R,H_ (R=λ (e:Ending) (w':World)=>e=.returned (zgp (y.kind==115))/\Fr w w' (λ _=>False)):=⟨_,rfl⟩;rw[<- Q_.o];have hI:=q_ (λ W (hW:Fr w W (λ _=>False))=>ztn (hb.fr hW u_) hf);have hA:=q_ (λ (W:World) (b:Bool)=>js_ (w:=W) b);have A:=q_ (λ o o'=>((Fr.refl w (λ _=>False)).alloc o).alloc o');obtain⟨bT,bx,rfl⟩:=hb.iface;clear hb hf;generalize (y.kind==115)=bb at Q_ hI;have a0:=zh_ 250 (by decide);have a1:=zo_ 250 (by decide);have a2:=zz_ 250 (by decide);have a3:=zw_ 250 (by decide);have ay:=zbx;cases bb
 all_goals
  go_in
  go_wp2_with (first
   |(go_at_call 203;refine(hI.o _ (A.o _ _)).mono ?_;rintro e w1 ⟨rfl,hf1⟩;have F1:=q_ ((A.o _ _).trans hf1 u_);clear hf1)
   |(go_at_call 199;refine(hA.o _ _).mono ?_;rintro e w2 ⟨rfl,rfl⟩))
  try go_ret
  rw[Q_.o];exact⟨rfl,F1.o⟩
end
open Go.RowKit
section
variable {w:World} {Q:Nat->Prop} {y:PT} {b:Value} {p:Nat} {sa ra:Option Addr} {sn sc rn rc:Nat} {sT rT:TypeId} {sx rx:Value}
theorem zs5 (hb:TyV w Q y b) (hf:jw_ y):Calls prog 148 #[.agg #[.slice sa sn sc,.iface sT sx,.slice ra rn rc,.iface rT rx],.iface 247 (.agg #[.int .i64 (p:Int)]),b] w λ e w'=>e=.returned (zgp (y.kind==105||y.kind==108))/\Fr w w' (λ _=>False):=by
 obtain⟨POST,Q_⟩:∃ R,H_ (R=λ (e:Ending) (w':World)=>e=.returned (zgp (y.kind==105||y.kind==108))/\Fr w w' (λ _=>False)):=⟨_,rfl⟩;rw[<- Q_.o];have hI:=q_ (λ W (hW:Fr w W (λ _=>False))=>zor (hb.fr hW u_) hf);have hL:=q_ (λ W (hW:Fr w W (λ _=>False))=>zk7 (hb.fr hW u_) hf);have hA:=q_ (λ (W:World) (b:Bool)=>js_ (w:=W) b);have A:=q_ (λ o o'=>((Fr.refl w (λ _=>False)).alloc o).alloc o');obtain⟨bT,bx,rfl⟩:=hb.iface;clear hb hf;generalize (y.kind==105)=bb at Q_ hI;generalize (y.kind==108)=bl at Q_ hL;have a0:=zh_ 247 (by decide);have a1:=zo_ 247 (by decide);have ay:=zdh;cases bb
 ·cases bl
  all_goals
   go_in
   go_wp2_with (first
    |(go_at_call 198;refine(hI.o _ (A.o _ _)).mono ?_;rintro e w1 ⟨rfl,hf1⟩;have F1:=q_ ((A.o _ _).trans hf1 u_);clear hf1)
    |(go_at_call 202;refine(hL.o _ F1.o).mono ?_;rintro e w3 ⟨rfl,hf3⟩;have F3:=q_ (F1.o.trans hf3 u_);clear hf3)
    |(go_at_call 199;refine(hA.o _ _).mono ?_;rintro e w2 ⟨rfl,rfl⟩))
   try go_ret
   rw[Q_.o];exact⟨rfl,F3.o⟩
 ·go_in
  go_wp2_with (first
   |(go_at_call 198;refine(hI.o _ (A.o _ _)).mono ?_;rintro e w1 ⟨rfl,hf1⟩;have F1:=q_ ((A.o _ _).trans hf1 u_);clear hf1)
   |(go_at_call 199;refine(hA.o _ _).mono ?_;rintro e w2 ⟨rfl,rfl⟩))
  try go_ret
  rw[Q_.o];exact⟨rfl,F1.o⟩
end
open Go.RowKit
section
variable {w:World} {p p':Nat} {sa ra:Option Addr} {sn sc rn rc:Nat} {sT rT uT vT bT:TypeId} {sx rx ux vx bx:Value}
theorem zks:Calls prog 148 #[.agg #[.slice sa sn sc,.iface sT sx,.slice ra rn rc,.iface rT rx],.iface 252 (.agg #[.int .i64 (p:Int),.iface uT ux]),.iface 252 (.agg #[.int .i64 (p':Int),.iface vT vx])] w λ e w'=>e=.returned (.iface 280 (.agg #[.iface uT ux,.iface vT vx]))/\Fr w w' (λ _=>False):=by
 obtain⟨POST,Q_⟩:∃ R,H_ (R=λ (e:Ending) (w':World)=>e=.returned (.iface 280 (.agg #[.iface uT ux,.iface vT vx]))/\Fr w w' (λ _=>False)):=⟨_,rfl⟩;rw[<- Q_.o];have a0:=zh_ 252 (by decide);have a1:=zo_ 252 (by decide);have a2:=zz_ 252 (by decide);have a3:=zw_ 252 (by decide);have a4:=z3_ 252 (by decide);have ay:=v2_
 go_in
 go_wp2
 try go_ret
 rw[Q_.o];exact⟨rfl,(((Fr.refl w (λ _=>False)).alloc _).alloc _).alloc _⟩
theorem zcf (hT:bT≠252):Calls prog 148 #[.agg #[.slice sa sn sc,.iface sT sx,.slice ra rn rc,.iface rT rx],.iface 252 (.agg #[.int .i64 (p:Int),.iface uT ux]),.iface bT bx] w λ e w'=>e=.returned (.iface 338 (.agg #[]))/\Fr w w' (λ _=>False):=by
 obtain⟨POST,Q_⟩:∃ R,H_ (R=λ (e:Ending) (w':World)=>e=.returned (.iface 338 (.agg #[]))/\Fr w w' (λ _=>False)):=⟨_,rfl⟩;rw[<- Q_.o];have a0:=zh_ 252 (by decide);have a1:=zo_ 252 (by decide);have a2:=zz_ 252 (by decide);have a3:=zw_ 252 (by decide);have a4:=z3_ 252 (by decide);have ay:=v2_;have an:=zy_ bT hT
 go_in
 go_wp2
 try go_ret
 rw[Q_.o];exact⟨rfl,(((Fr.refl w (λ _=>False)).alloc _).alloc _).alloc _⟩
theorem zis:Calls prog 148 #[.agg #[.slice sa sn sc,.iface sT sx,.slice ra rn rc,.iface rT rx],.iface 254 (.agg #[.int .i64 (p:Int),.iface uT ux]),.iface 254 (.agg #[.int .i64 (p':Int),.iface vT vx])] w λ e w'=>e=.returned (.iface 280 (.agg #[.iface uT ux,.iface vT vx]))/\Fr w w' (λ _=>False):=by
 obtain⟨POST,Q_⟩:∃ R,H_ (R=λ (e:Ending) (w':World)=>e=.returned (.iface 280 (.agg #[.iface uT ux,.iface vT vx]))/\Fr w w' (λ _=>False)):=⟨_,rfl⟩;rw[<- Q_.o];have a0:=zh_ 254 (by decide);have a1:=zo_ 254 (by decide);have a2:=zz_ 254 (by decide);have a3:=zw_ 254 (by decide);have a4:=z3_ 254 (by decide);have a5:=zy_ 254 (by decide);have ay:=jx_
 go_in
 go_wp2
 try go_ret
 rw[Q_.o];exact⟨rfl,(((Fr.refl w (λ _=>False)).alloc _).alloc _).alloc _⟩
theorem zbd (hT:bT≠254):Calls prog 148 #[.agg #[.slice sa sn sc,.iface sT sx,.slice ra rn rc,.iface rT rx],.iface 254 (.agg #[.int .i64 (p:Int),.iface uT ux]),.iface bT bx] w λ e w'=>e=.returned (.iface 338 (.agg #[]))/\Fr w w' (λ _=>False):=by
 obtain⟨POST,Q_⟩:∃ R,H_ (R=λ (e:Ending) (w':World)=>e=.returned (.iface 338 (.agg #[]))/\Fr w w' (λ _=>False)):=⟨_,rfl⟩;rw[<- Q_.o];have a0:=zh_ 254 (by decide);have a1:=zo_ 254 (by decide);have a2:=zz_ 254 (by decide);have a3:=zw_ 254 (by decide);have a4:=z3_ 254 (by decide);have a5:=zy_ 254 (by decide);have ay:=jx_;have an:=yw_ bT hT
 go_in
 go_wp2
 try go_ret
 rw[Q_.o];exact⟨rfl,(((Fr.refl w (λ _=>False)).alloc _).alloc _).alloc _⟩
theorem zan (hT:bT≠261):Calls prog 148 #[.agg #[.slice sa sn sc,.iface sT sx,.slice ra rn rc,.iface rT rx],.iface 261 (.agg #[.int .i64 (p:Int),.int .u8 (c:Int)]),.iface bT bx] w λ e w'=>e=.returned (.iface 338 (.agg #[]))/\Fr w w' (λ _=>False):=by
 obtain⟨POST,Q_⟩:∃ R,H_ (R=λ (e:Ending) (w':World)=>e=.returned (.iface 338 (.agg #[]))/\Fr w w' (λ _=>False)):=⟨_,rfl⟩;rw[<- Q_.o];have a0:=zh_ 261 (by decide);have a1:=zo_ 261 (by decide);have a2:=zz_ 261 (by decide);have a3:=zw_ 261 (by decide);have a4:=z3_ 261 (by decide);have a5:=zy_ 261 (by decide);have a6:=yw_ 261 (by decide);have ay:=v1_;have an:=jb_ bT hT
 go_in
 go_wp2
 try go_ret
 rw[Q_.o];exact⟨rfl,(((Fr.refl w (λ _=>False)).alloc _).alloc _).alloc _⟩
theorem zet {c':Nat}(hc:¬ ((c':Int)=(c:Int))):Calls prog 148 #[.agg #[.slice sa sn sc,.iface sT sx,.slice ra rn rc,.iface rT rx],.iface 261 (.agg #[.int .i64 (p:Int),.int .u8 (c:Int)]),.iface 261 (.agg #[.int .i64 (p':Int),.int .u8 (c':Int)])] w λ e w'=>e=.returned (.iface 338 (.agg #[]))/\Fr w w' (λ _=>False):=by
 obtain⟨POST,Q_⟩:∃ R,H_ (R=λ (e:Ending) (w':World)=>e=.returned (.iface 338 (.agg #[]))/\Fr w w' (λ _=>False)):=⟨_,rfl⟩;rw[<- Q_.o];have a0:=zh_ 261 (by decide);have a1:=zo_ 261 (by decide);have a2:=zz_ 261 (by decide);have a3:=zw_ 261 (by decide);have a4:=z3_ 261 (by decide);have a5:=zy_ 261 (by decide);have a6:=yw_ 261 (by decide);have ay:=v1_
 have hc1:((c':Int)==(c:Int))=false:=by simpa using hc
 have hc2:decide ((c':Int)=(c:Int))=false:=by simpa using hc
 go_in
 go_wp2
 all_goals first
  |((try go_ret);rw[Q_.o];exact⟨rfl,(((Fr.refl w (λ _=>False)).alloc _).alloc _).alloc _⟩)
  | omega
end
open Go.RowKit
theorem zf3 {w:World}{Q:Nat->Prop}{ds ds':List PD}{sv sv':Value}{xs xs':List Value}{p p':Nat}{sT rT:TypeId}{sx rx:Value}{x y:PB}(D:DRow w P s ds sv xs) (E:DRow w Q s' ds' sv' xs') (hx:za_ ds c=some x) (hy:za_ ds' c=some y) :
 Calls prog 148 #[.agg #[sv,.iface sT sx,sv',.iface rT rx],.iface 261 (.agg #[.int .i64 (p:Int),.int .u8 (c:Int)]),.iface 261 (.agg #[.int .i64 (p':Int),.int .u8 (c:Int)])] w λ e w'=>∃ a b v,e=.returned v/\Fr w w' (λ _=>False)/\xo_ w' P s x a/\xo_ w' Q s' y b/\ZV ds' xs' y b/\MbV x y a b v:=by
 obtain⟨POST,Q_⟩:∃ R,H_ (R=λ (e:Ending) (w':World)=>∃ a b v,e=.returned v/\Fr w w' (λ _=>False)/\xo_ w' P s x a/\xo_ w' Q s' y b/\ZV ds' xs' y b/\MbV x y a b v):=⟨_,rfl⟩;rw[<- Q_.o];have hD:=q_ (λ W (hW:Fr w W (λ _=>False))=>ju_ (rv:=.iface sT sx) c (D.fr hW u_));have hE:=q_ (λ W (hW:Fr w W (λ _=>False))=>zkq (rv:=.iface rT rx) c (E.fr hW u_));have hM:=q_ (λ W a b (ha:xo_ W P s x a) (hb:xo_ W Q s' y b)=>zna ha hb);have hx:=q_ hx;have hy:=q_ hy;obtain⟨sa,sc,rfl⟩:=zf_ D.row;obtain⟨ra,rc,rfl⟩:=zf_ E.row;clear D E;obtain⟨wz,hwz⟩:∃ W,W=((w.alloc (.cells #[.slice sa ds.length sc,.iface sT sx,.slice ra ds'.length rc,.iface rT rx] 127)).alloc (.cells #[.int .i64 (p:Int),.int .u8 (c:Int)] 261)).alloc (.cells #[.int .i64 (p':Int),.int .u8 (c:Int)] 261):=⟨_,rfl⟩
 have Fz:Fr w wz (λ _=>False):=by rw[hwz];exact(((Fr.refl w (λ _=>False)).alloc _).alloc _).alloc _
 have B0:Blk wz w.heap.size [.slice sa ds.length sc,.iface sT sx,.slice ra ds'.length rc,.iface rT rx] 127:=by
  rw[hwz];exact((Blk.new w #[.slice sa ds.length sc,.iface sT sx,.slice ra ds'.length rc,.iface rT rx] 127).alloc _).alloc _
 have B1:Blk wz (w.heap.size+1) [.int .i64 (p:Int),.int .u8 (c:Int)] 261:=by
  rw[hwz];have h:=(Blk.new (w.alloc (.cells #[.slice sa ds.length sc,.iface sT sx,.slice ra ds'.length rc,.iface rT rx] 127)) #[.int .i64 (p:Int),.int .u8 (c:Int)] 261).alloc (.cells #[.int .i64 (p':Int),.int .u8 (c:Int)] 261)
  have hs:∀ (u:World) (o:Obj),(u.alloc o).heap.size=u.heap.size+1:=λ u o=>by show(u.heap.push _).size=_;simp
  simp only[hs] at h;exact h
 have B2:Blk wz (w.heap.size+1+1) [.int .i64 (p':Int),.int .u8 (c:Int)] 261:=by
  rw[hwz];have h:=Blk.new ((w.alloc (.cells #[.slice sa ds.length sc,.iface sT sx,.slice ra ds'.length rc,.iface rT rx] 127)).alloc (.cells #[.int .i64 (p:Int),.int .u8 (c:Int)] 261)) #[.int .i64 (p':Int),.int .u8 (c:Int)] 261
  have hs:∀ (u:World) (o:Obj),(u.alloc o).heap.size=u.heap.size+1:=λ u o=>by show(u.heap.push _).size=_;simp
  simp only[hs] at h;exact h
 obtain⟨CL,hCL⟩:∃ C:World->Prop,C=λ W=>W.cell? ⟨w.heap.size,0,none⟩=some (.slice sa ds.length sc)/\W.cell? ⟨w.heap.size,1,none⟩=some (.iface sT sx)/\W.cell? ⟨w.heap.size,2,none⟩=some (.slice ra ds'.length rc)/\W.cell? ⟨w.heap.size,3,none⟩=some (.iface rT rx)/\W.cell? ⟨w.heap.size+1,1,none⟩=some (.int .u8 (c:Int))/\W.cell? ⟨w.heap.size+1+1,1,none⟩=some (.int .u8 (c:Int)):=⟨_,rfl⟩
 have hC:=q_ (λ W (hW:Fr wz W (λ _=>False))=>show CL W by
  rw[hCL]
  exact⟨(hW.blk B0 id).cell 0,(hW.blk B0 id).cell 1,(hW.blk B0 id).cell 2,(hW.blk B0 id).cell 3,(hW.blk B1 id).cell 1,(hW.blk B2 id).cell 1⟩)
 clear B0 B1 B2;replace Fz:=q_ Fz;replace hwz:=q_ hwz;replace hCL:=q_ hCL;have a0:=zh_ 261 (by decide);have a1:=zo_ 261 (by decide);have a2:=zz_ 261 (by decide);have a3:=zw_ 261 (by decide);have a4:=z3_ 261 (by decide);have a5:=zy_ 261 (by decide);have a6:=yw_ 261 (by decide);have ay:=v1_
 go_in
 go_wp2_with fail
 rw[<- hwz.o];refine z8_ CL (by kernel_rfl) ?_;refine tA_ 0 rfl (by kernel_rfl) (λ _ _ _ h=>h) (by intro W h;rw[hCL.o] at h;obtain⟨c0,c1,c2,c3,c4,c5⟩:=h;go_simp<;>rfl) ?_;refine tA_ 1 rfl (by kernel_rfl) (λ _ _ _ h=>h) (by intro W h;rw[hCL.o] at h;obtain⟨c0,c1,c2,c3,c4,c5⟩:=h;go_simp<;>rfl) ?_;refine tA_ 2 rfl (by kernel_rfl) (λ _ _ _ h=>h) (by intro W h;rw[hCL.o] at h;obtain⟨c0,c1,c2,c3,c4,c5⟩:=h;go_simp<;>rfl) ?_;refine tA_ 3 rfl (by kernel_rfl) (λ _ _ _ h=>h) (by intro W h;rw[hCL.o] at h;obtain⟨c0,c1,c2,c3,c4,c5⟩:=h;go_simp<;>rfl) ?_;refine tA_ 5 rfl (by kernel_rfl) (λ _ _ _ h=>h) (by intro W h;rw[hCL.o] at h;obtain⟨c0,c1,c2,c3,c4,c5⟩:=h;go_simp<;>rfl) ?_;refine tA_ 6 rfl (by kernel_rfl) (λ _ _ _ h=>h) (by intro W h;rw[hCL.o] at h;obtain⟨c0,c1,c2,c3,c4,c5⟩:=h;go_simp<;>rfl) ?_;refine tA_ 7 rfl (by kernel_rfl) (λ _ _ _ h=>h) (by intro W h;rw[hCL.o] at h;obtain⟨c0,c1,c2,c3,c4,c5⟩:=h;go_simp<;>rfl) ?_;refine tA_ 8 rfl (by kernel_rfl) (λ _ _ _ h=>h) (by intro W h;rw[hCL.o] at h;obtain⟨c0,c1,c2,c3,c4,c5⟩:=h;go_simp<;>rfl) ?_;refine zr_ 4 rfl (by kernel_rfl) (hC.o _ (Fr.refl wz _).drew) (λ K1 hK1=>?_);go_simp;refine(hD.o _ Fz.o.drew).mono ?_;rintro e w1 ⟨v1,rfl,hf1,hm1⟩;rw[hx.o] at hm1;have F1:=q_ ((Fr.refl wz (λ _=>False)).drew.trans hf1 u_);replace hm1:=q_ hm1;clear hf1;refine hK1 _ _ ?_;clear hK1 K1;refine zr_ 9 rfl (by kernel_rfl) (hC.o _ F1.o) (λ K1 hK1=>?_);go_simp;refine(hE.o _ (Fz.o.trans F1.o u_)).mono ?_;rintro e w2 ⟨v2,rfl,hf2,hm2⟩;rw[hy.o] at hm2;obtain⟨hm2,hz2⟩:=hm2;replace hz2:=q_ hz2;have F2:=q_ (F1.o.trans hf2 u_);have hm1':=q_ (hm1.o.fr hf2 u_);replace hm2:=q_ hm2;clear hf2;refine hK1 _ _ ?_;clear hK1 K1;refine zr_ 10 rfl (by kernel_rfl) (hC.o _ F2.o) (λ K1 hK1=>?_);go_simp;refine(hM.o _ _ _ hm1'.o hm2.o).mono ?_;rintro e w3 ⟨v3,rfl,hf3,hm3⟩;have F3:=q_ (F2.o.trans hf3 u_);have hq1:=q_ (hm1'.o.fr hf3 u_);have hq2:=q_ (hm2.o.fr hf3 u_);replace hm3:=q_ hm3;clear hf3;refine hK1 _ _ ?_;clear hK1 K1;refine tA_ 11 rfl (by kernel_rfl) (λ _ _ _ h=>h) (by intro W h;go_simp<;>rfl) ?_;refine z5_ (by kernel_rfl) (hC.o _ F3.o) ?_ _
 go_wp2_with fail
 try go_ret
 rw[Q_.o];exact⟨_,_,_,rfl,Fz.o.trans F3.o u_,hq1.o,hq2.o,hz2.o,hm3.o⟩
open Go.RowKit
inductive MtV (w:World) (P Q:Nat->Prop) (s s':BA) (ew er:Nat->Option PB) (Z:PB->Value->Prop):PT->PT->Value->Prop
 | never {x y:PT} (h:matP ew er x y=false):MtV w P Q s s' ew er Z x y (.iface 338 (.agg #[]))
 | same {c p:Nat} {y:PT} (hc:zu_ c=true) (h:matP ew er (.leaf c p) y=true):MtV w P Q s s' ew er Z (.leaf c p) y (.iface 273 (.agg #[]))
 | items {c p p':Nat} {t t':PT} {a b:Value} (hc:c=91\/c=123) (ha:TyV w P t a) (hb:TyV w Q t' b):MtV w P Q s s' ew er Z (.wrap c p t) (.wrap c p' t') (.iface 280 (.agg #[a,b]))
 | body {c p p':Nat} {X Y:PB} {a b v:Value} (hc:z0_ c=true) (hx:ew c=some X) (hy:er c=some Y) (ha:xo_ w P s X a) (hb:xo_ w Q s' Y b) (hz:Z Y b) (hm:MbV X Y a b v) (hs:zaz X=zaz Y):MtV w P Q s s' ew er Z (.leaf c p) (.leaf c p') v
theorem jh_ (h:z0_ c=true):zu_ c=false:=by
 have hc:65<=c/\c<=70:=by simpa[z0_] using h
 cases e:zu_ c with
 | false=>rfl
 | true=>
  simp only[zu_,au_,beq_iff_eq] at e;omega
theorem zlu {c':Nat}(h:z0_ c=true) (h':zu_ c'=true):(c==c')=false:=by
 have hc:65<=c/\c<=70:=by simpa[z0_] using h
 simp only[zu_,au_,beq_iff_eq] at h';rw[beq_eq_false_iff_ne];omega
theorem MbV.sort {X Y:PB}{b:Value}(h:MbV X Y a b v):zaz X=zaz Y\/(zaz X≠zaz Y/\v=.iface 338 (.agg #[])):=by
 cases h with
 | flds=>exact .inl rfl
 | syms=>exact .inl rfl
 | same=>exact .inl rfl
 | never h=>exact .inr ⟨h,rfl⟩
theorem zkr {w:World}{Q:Nat->Prop}{ds ds':List PD}{sv sv':Value}{xs xs':List Value}{sT rT:TypeId}{sx rx:Value}{y:PT}{b:Value}
 (D:DRow w P s ds sv xs) (E:DRow w Q s' ds' sv' xs') (ha:TyV w P x a) (hb:TyV w Q y b) (fx:jw_ x) (fy:jw_ y)
 (ex:∀ c p,x=.leaf c p->z0_ c=true->∃ X,za_ ds c=some X) (ey:∀ c p,y=.leaf c p->z0_ c=true->∃ Y,za_ ds' c=some Y) :
 Calls prog 148 #[.agg #[sv,.iface sT sx,sv',.iface rT rx],a,b] w λ e w'=>∃ v,e=.returned v/\Fr w w' (λ _=>False)/\MtV w' P Q s s' (za_ ds) (za_ ds') (ZV ds' xs') x y v:=by
 obtain⟨sa,sc,hsv⟩:=zf_ D.row;obtain⟨ra,rc,hrv⟩:=zf_ E.row
 have nev:∀ (e:Ending) (w':World),matP (za_ ds) (za_ ds') x y=false->e=.returned (.iface 338 (.agg #[]))/\Fr w w' (λ _=>False)->∃ v,e=.returned v/\Fr w w' (λ _=>False)/\MtV w' P Q s s' (za_ ds) (za_ ds') (ZV ds' xs') x y v:=
  λ e w' hm h=>⟨_,h.1,h.2,.never hm⟩
 cases ha with
 | base c p h=>
  have fin:∀ (e:Ending) (w':World),e=.returned (zgp (y.kind==c||(c==105&&y.kind==108)))/\Fr w w' (λ _=>False)->∃ v,e=.returned v/\Fr w w' (λ _=>False)/\MtV w' P Q s s' (za_ ds) (za_ ds') (ZV ds' xs') (.leaf c p) y v:=by
   rintro e w' ⟨h1,h2⟩;rw[<- zs6 (ew:=za_ ds) (er:=za_ ds') (p:=p) h fy] at h1
   cases hm:matP (za_ ds) (za_ ds') (.leaf c p) y with
   | true=>rw[hm] at h1;exact⟨_,h1,h2,.same h hm⟩
   | false=>rw[hm] at h1;exact⟨_,h1,h2,.never hm⟩
  rw[hsv,hrv];simp only[zu_,au_,beq_iff_eq] at h
  rcases h with(((rfl|rfl)|rfl)|rfl)|rfl
  ·exact(zs3 hb fy).mono (λ e w' q=>fin e w' (by simpa using q))
  ·exact(zs1 hb fy).mono (λ e w' q=>fin e w' (by simpa using q))
  ·exact(zs5 hb fy).mono (λ e w' q=>fin e w' (by simpa using q))
  ·exact(zs4 hb fy).mono (λ e w' q=>fin e w' (by simpa using q))
  ·exact(zs2 hb fy).mono (λ e w' q=>fin e w' (by simpa using q))
 | name c p h=>
  have hnb:=jh_ h
  cases hb with
  | base c' p' h'=>
   rw[hsv,hrv];exact(zan (jl_ c').2.2.2.1).mono (λ e w'=>nev e w' (by simp[matP,hnb,zlu h h']))
  | name c' p' h'=>
   by_cases hcc:c=c'
   ·subst hcc;obtain⟨X,hX⟩:=ex c p rfl h;obtain⟨Y,hY⟩:=ey c p' rfl h;refine(zf3 D E hX hY).mono ?_;rintro e w' ⟨a,b,v,h1,h2,h3,h4,hz,h5⟩
    rcases h5.sort with hs|⟨hs,rfl⟩
    ·exact⟨v,h1,h2,.body h hX hY h3 h4 hz h5 hs⟩
    ·exact⟨_,h1,h2,.never (by simp[matP,hnb,hX,hY,hs])⟩
   ·rw[hsv,hrv];exact(zet (by omega)).mono (λ e w'=>nev e w' (by simp[matP,hnb,hcc]))
  | wrap c' p' h'=>
   rw[hsv,hrv]
   rcases fy with rfl|rfl
   ·exact(zan (by decide)).mono (λ e w'=>nev e w' rfl)
   ·exact(zan (by decide)).mono (λ e w'=>nev e w' rfl)
  | alts p' X ho hP h'=>exact fy.elim
 | wrap c p h=>
  have hfx:c=91\/c=123:=fx;obtain⟨uT,ux,rfl⟩:=h.iface;rw[hsv,hrv]
  cases hb with
  | base c' p' h'=>
   rcases hfx with rfl|rfl
   ·exact(zcf (jl_ c').1).mono (λ e w'=>nev e w' rfl)
   ·exact(zbd (jl_ c').2.1).mono (λ e w'=>nev e w' rfl)
  | name c' p' h'=>
   rcases hfx with rfl|rfl
   ·exact(zcf (by decide)).mono (λ e w'=>nev e w' rfl)
   ·exact(zbd (by decide)).mono (λ e w'=>nev e w' rfl)
  | wrap c' p' h'=>
   obtain⟨vT,vx,rfl⟩:=h'.iface;have hfy:c'=91\/c'=123:=fy
   rcases hfx with rfl|rfl<;>rcases hfy with rfl|rfl
   ·exact zks.mono (λ e w' q=>⟨_,q.1,q.2,.items (.inl rfl) (h.fr q.2 u_) (h'.fr q.2 u_)⟩)
   ·exact(zcf (by decide)).mono (λ e w'=>nev e w' rfl)
   ·exact(zbd (by decide)).mono (λ e w'=>nev e w' rfl)
   ·exact zis.mono (λ e w' q=>⟨_,q.1,q.2,.items (.inr rfl) (h.fr q.2 u_) (h'.fr q.2 u_)⟩)
  | alts p' X ho hP h'=>exact fy.elim
 | alts p X ho hP h=>exact fx.elim
open Go.RowKit
section
variable {w:World} {p:Nat} {sa ra:Option Addr} {sn sc rn rc:Nat} {sT rT aT bT:TypeId} {sx rx ax bx:Value}
theorem zv6 {ua:Option Addr}{un uc:Nat}:Calls prog 92 #[.agg #[.slice sa sn sc,.iface sT sx,.slice ra rn rc,.iface rT rx],.iface 258 (.agg #[.int .i64 (p:Int),.slice ua un uc]),.iface bT bx] w λ e w'=>e=.returned (.iface 275 (.agg #[.slice ua un uc,.iface bT bx]))/\Fr w w' (λ _=>False):=by
 obtain⟨POST,Q_⟩:∃ R,H_ (R=λ (e:Ending) (w':World)=>e=.returned (.iface 275 (.agg #[.slice ua un uc,.iface bT bx]))/\Fr w w' (λ _=>False)):=⟨_,rfl⟩;rw[<- Q_.o];have A:=q_ (λ o o'=>((Fr.refl w (λ _=>False)).alloc o).alloc o');have ay:=x1_
 go_in
 go_wp2_with fail
 try go_ret
 rw[Q_.o];exact⟨rfl,A.o _ _⟩
theorem zsz {R:Ending->World->Prop}(ha:aT≠258) (hb:bT≠258) (h:∀ W,Fr w W (λ _=>False)->Calls prog 148 #[.agg #[.slice sa sn sc,.iface sT sx,.slice ra rn rc,.iface rT rx],.iface aT ax,.iface bT bx] W (λ e w'=>∃ v,e=.returned v/\R (.returned v) w')) :
 Calls prog 92 #[.agg #[.slice sa sn sc,.iface sT sx,.slice ra rn rc,.iface rT rx],.iface aT ax,.iface bT bx] w R:=by
 refine hq_ λ POST Q_=>?_;have A:=q_ (λ o o' o''=>(((Fr.refl w (λ _=>False)).alloc o).alloc o').alloc o'');replace h:=q_ h;have an:=ym_ aT ha;have bn:=ym_ bT hb
 go_in
 go_wp2_with (go_at_call 148;refine(h.o _ (A.o _ _ _)).mono ?_;rintro e w1 ⟨v,rfl,hR⟩;replace hR:=q_ hR)
 try go_ret
 rw[Q_.o];exact hR.o
end
open Go.RowKit
theorem zd7 :∀ (l:List PT) (i:Nat) (k:Option Nat),vs_ ew er x (l++[r]) i k=(if (matP ew er x r&&((vs_ ew er x l i k).isNone||r.kind==105))=true then some (i+l.length) else vs_ ew er x l i k)
 | [],i,k=>by simp[vs_]
 | a::l,i,k=>by
  show vs_ ew er x (l++[r]) (i+1) _=_;rw[zd7 l]
  have:i+1+l.length=i+(a::l).length:=by simp only[ar_];omega
  rw[this]
  rfl
theorem zpm {rs:List PT}{q:Nat}(h:rs[q]?=some r):vs_ ew er x (rs.take (q+1)) 0 none=(if (matP ew er x r&&((vs_ ew er x (rs.take q) 0 none).isNone||r.kind==105))=true then some q else vs_ ew er x (rs.take q) 0 none):=by
 have hq:q<rs.length:=by
  rcases Nat.lt_or_ge q rs.length with h'|h'
  ·exact h'
  ·rw[bm_ h'] at h;exact absurd h (by simp)
 have e:rs.take (q+1)=rs.take q++[r]:=by rw[ba_,h];rfl
 have l:(rs.take q).length=q:=by rw[b3_];omega
 rw[e,zd7,l,bg_]
theorem MtV.fr {w w':World}{Q S:Nat->Prop}{y:PT}(h:MtV w P Q s s' ew er Z x y v) (hf:Fr w w' S) (hP:∀ g,P g->¬ S g) (hQ:∀ g,Q g->¬ S g):MtV w' P Q s s' ew er Z x y v:=by
 cases h with
 | never h=>exact .never h
 | same hc h=>exact .same hc h
 | items hc ha hb=>exact .items hc (ha.fr hf hP) (hb.fr hf hQ)
 | body hc hx hy ha hb hz hm hs=>exact .body hc hx hy (ha.fr hf hP) (hb.fr hf hQ) hz hm hs
theorem MtV.kind {w:World}{Q:Nat->Prop}{y:PT}(h:MtV w P Q s s' ew er Z x y v):(matP ew er x y=false/\v=.iface 338 (.agg #[]))\/(matP ew er x y=true/\∃ T u,v=.iface T u/\T≠338/\T≠278):=by
 cases h with
 | never h=>exact .inl ⟨h,rfl⟩
 | same hc h=>exact .inr ⟨h,_,_,rfl,by decide,by decide⟩
 | items hc ha hb=>exact .inr ⟨by simp[matP],_,_,rfl,by decide,by decide⟩
 | body hc hx hy ha hb hz hm hs=>
  refine .inr ⟨by simp[matP,jh_ hc,hx,hy,hs],?_⟩
  cases hm with
  | flds=>exact⟨_,_,rfl,by decide,by decide⟩
  | syms=>exact⟨_,_,rfl,by decide,by decide⟩
  | same=>exact⟨_,_,rfl,by decide,by decide⟩
  | never h=>exact absurd hs h
def BrV (w:World) (P Q:Nat->Prop) (s s':BA) (ew er:Nat->Option PB) (Z:PB->Value->Prop) (x:PT) (rs:List PT) (k:Option Nat) (v:Value):Prop:=
 match k with
 | none=>v=.iface 338 (.agg #[])
 | some i=>∃ r T u,rs[i]?=some r/\v=.iface 278 (.agg #[.int .i64 (i:Int),.iface T u])/\matP ew er x r=true/\MtV w P Q s s' ew er Z x r (.iface T u)
theorem BrV.fr {w w':World}{Q S:Nat->Prop}{rs:List PT}{k:Option Nat}(h:BrV w P Q s s' ew er Z x rs k v) (hf:Fr w w' S) (hP:∀ g,P g->¬ S g) (hQ:∀ g,Q g->¬ S g):BrV w' P Q s s' ew er Z x rs k v:=by
 cases k with
 | none=>exact h
 | some i=>
  obtain⟨r,T,u,h1,h2,h3,h4⟩:=h;exact⟨r,T,u,h1,h2,h3,h4.fr hf hP hQ⟩
end Go.Proofs.YthmjjpkjgjklmaaGreatDoor
