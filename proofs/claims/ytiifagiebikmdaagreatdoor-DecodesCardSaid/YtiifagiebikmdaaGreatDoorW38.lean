import Derived.Test.YtiifagiebikmdaaGreatDoorW36
import Derived.Test.YtiifagiebikmdaaGreatDoorW33
import Derived.Test.YtiifagiebikmdaaGreatDoorA00
set_option maxHeartbeats 16000000
set_option maxRecDepth 100000
set_option linter.unusedSimpArgs false
open Go.Proofs.Tryz
namespace Go.Proofs.YtiifagiebikmdaaGreatDoor
open Go.RowKit
variable {ds:List DT}{la:Option Addr}{lc:Nat}{Y:Nat->Value}
theorem zkw (v:Value) (w:World):(Instr.typeAssert (.iface 188 v) 89 188 true).run prog w=.ok (.tuple #[v,.bool true]) w:=by kernel_rfl
theorem xp_ (u:TypeId) (h:u≠188) (v:Value) (w:World):(Instr.typeAssert (.iface u v) 89 188 true).run prog w=.ok (.tuple #[.agg #[],.bool false]) w:=by
 have e:(Instr.typeAssert (.iface u v) 89 188 true).run prog w=(if u=188 then (pure (Value.tuple #[v,.bool true]):Sem Value) else (do pure (Value.tuple #[<- zeroValue 188,.bool false]))).run prog w:=by kernel_rfl
 have a:(do pure (Value.tuple #[<- zeroValue 188,.bool false]):Sem Value).run prog w=.ok (.tuple #[.agg #[],.bool false]) w:=by kernel_rfl
 rw[e,if_neg h];exact a
section
variable {w0 w:World} {env:Nat->Option PB} {m:Nat} {P:Nat->Prop} {B:Nat} {u:Value} {b:BA} {t:PT}
theorem zoy (hB:B<=w.heap.size) (hu:BufV w B u b) (hs:b.size+8022<=90000000) :
 Calls prog 67 #[u,.iface 188 (.agg #[])] w (xf_ w B (b++txT env (.mk 110 0 noB [] []) t)):=by
 refine hq_ λ g a=>?_
 have d:txT env (.mk 110 0 noB [] []) t=bts [78]:=by
  conv=>lhs;unfold txT
  rw[if_pos rfl]
 have h:=zkw;have A:Fr w (w.alloc (.cells #[] 188)) (λ _=>False):=(Fr.refl w _).alloc _;have f:=q_ (BufV.fr hu A u_);have i:=A.size;replace A:=q_ A;clear hu
 go_in
 go_wp2_with (at_builtin;refine zaz rfl _ _ rfl 78 rfl (by decide) f.o (by omega) (by omega) (by simp) rfl rfl ?_;intro j k c e)
 try go_ret
 rw[a.o,d];exact⟨_,rfl,c,(FrU.of A.o).trans e⟩
theorem zt5 {c:Bool}(hB:B<=w.heap.size) (hu:BufV w B u b) (hs:b.size+8022<=90000000) :
 Calls prog 67 #[u,.iface 164 (.bool c)] w (xf_ w B (b++txT env (.mk 116 (if c=true then 1 else 0) noB [] []) t)):=by
 refine hq_ λ g a=>?_
 have f:txT env (.mk 116 (if c=true then 1 else 0) noB [] []) t=(if c=true then bts [84] else bts [70]):=by
  conv=>lhs;unfold txT
  rw[if_neg (by decide),if_pos rfl];cases c<;>rfl
 have h:=xp_ 164 (by decide);have i:=zpn;have d:=q_ (zyr (t:=c) hu hB (by omega));clear hu
 go_in
 go_wp2_with (go_at_call 92;refine d.o.mono ?_;rintro e w1 h1;replace h1:=q_ h1;obtain⟨j,rfl,_⟩:=h1.o)
 try go_ret
 rw[a.o,f];exact h1.o
theorem zyo (a:je_ w0){c:Nat}{n:Int}(hc:c=105\/c=108) (i : -9223372036854775808<=n) (j:n<=9223372036854775807) (h0:w0.heap.size<=B) (hB:B<=w.heap.size) (d:xd_ w0 w) (hu:BufV w B u b) (hs:b.size+8022<=90000000) :
 Calls prog 67 #[u,.iface 166 (.int .i64 n)] w (xf_ w B (b++txT env (.mk c n noB [] []) t)):=by
 refine hq_ λ k f=>?_
 have h:txT env (.mk c n noB [] []) t=decB n:=by
  conv=>lhs;unfold txT
  rw[if_neg (by omega),if_neg (by omega),if_pos (by omega)]
 have l:=xp_ 166 (by decide);have p:=v0_ 166 (by decide);have q:=zmn;have g:=q_ (a w B h0 hB d u b n i j hu (by omega));clear hu d a
 go_in
 go_wp2_with (go_at_call 93;refine g.o.mono ?_;rintro e w1 h1;replace h1:=q_ h1;obtain⟨r,rfl,_⟩:=h1.o)
 try go_ret
 rw[f.o,h];exact h1.o
theorem zwk {tx:BA}(g:tx.size<=4000) (hB:B<=w.heap.size) (hu:BufV w B u b) (hs:b.size+8022<=90000000) :
 Calls prog 67 #[u,.iface 168 (.string tx)] w (xf_ w B (b++txT env (.mk 115 0 tx [] []) t)):=by
 refine hq_ λ h a=>?_
 have f:txT env (.mk 115 0 tx [] []) t=bts [34]++(tx++bts [34]):=by
  conv=>lhs;unfold txT
  rw[if_neg (by decide),if_neg (by decide),if_neg (by decide),if_pos rfl]
 have i:=xp_ 168 (by decide);have j:=v0_ 168 (by decide);have k:=vs_ 168 (by decide);have l:=zsi;have d:=q_ (zrj (c:=34) (y:=34) rfl (by decide) g hu hB (by omega));clear hu
 go_in
 go_wp2_with (go_at_call 94;refine d.o.mono ?_;rintro e w1 h1;replace h1:=q_ h1;obtain⟨n,rfl,_⟩:=h1.o)
 try go_ret
 rw[a.o,f];exact h1.o
theorem zt6 {tx:BA}(g:tx.size<=4000) (hB:B<=w.heap.size) (hu:BufV w B u b) (hs:b.size+8022<=90000000) :
 Calls prog 67 #[u,.iface 174 (.string tx)] w (xf_ w B (b++txT env (.mk 102 0 tx [] []) t)):=by
 refine hq_ λ h a=>?_
 have f:txT env (.mk 102 0 tx [] []) t=bts [39]++(tx++bts [39]):=by
  conv=>lhs;unfold txT
  rw[if_neg (by decide),if_neg (by decide),if_neg (by decide),if_neg (by decide),if_pos rfl]
 have i:=xp_ 174 (by decide);have j:=v0_ 174 (by decide);have k:=vs_ 174 (by decide);have l:=zbw 174 (by decide);have n:=zc8 174 (by decide);have p:=zim 174 (by decide);have q:=zdx 174 (by decide);have r:=zha 174 (by decide);have s:=zpo 174 (by decide);have v:=zpp;have d:=q_ (zrj (c:=39) (y:=39) rfl (by decide) g hu hB (by omega));clear hu
 go_in
 go_wp2_with (go_at_call 94;refine d.o.mono ?_;rintro e w1 h1;replace h1:=q_ h1;obtain⟨x,rfl,_⟩:=h1.o)
 try go_ret
 rw[a.o,f];exact h1.o
theorem zyn {n l:Nat}(hl:symL env t n=l) (f:l<256) (hB:B<=w.heap.size) (hu:BufV w B u b) (hs:b.size+8022<=90000000) :
 Calls prog 67 #[u,.iface 173 (.agg #[.int .u8 (l:Int),.int .i64 (n:Int)])] w (xf_ w B (b++txT env (.mk 101 (n:Int) noB [] []) t)):=by
 refine hq_ λ h a=>?_
 have d:txT env (.mk 101 (n:Int) noB [] []) t=bts [l]:=by
  conv=>lhs;unfold txT
  rw[if_neg (by decide),if_neg (by decide),if_neg (by decide),if_neg (by decide),if_neg (by decide),if_pos rfl,bm_,hl]
 have i:=xp_ 173 (by decide);have j:=v0_ 173 (by decide);have k:=vs_ 173 (by decide);have p:=zbw 173 (by decide);have q:=zc8 173 (by decide);have r:=zim 173 (by decide);have s:=zdx 173 (by decide);have v:=zha 173 (by decide);have x:=zml;have A:Fr w (w.alloc (.cells #[.int .u8 (l:Int),.int .i64 (n:Int)] 173)) (λ _=>False):=(Fr.refl w _).alloc _;have g:=q_ (BufV.fr hu A u_);have y:=A.size;replace A:=q_ A;clear hu hl
 go_in
 go_wp2_with (at_builtin;refine zaz rfl _ _ rfl l rfl f g.o (by omega) (by omega) (by simp) rfl rfl ?_;intro z C c e)
 try go_ret
 rw[a.o,d];exact⟨_,rfl,c,(FrU.of A.o).trans e⟩
theorem zwm (f:NrOK w0 env m)(l:ndTs ds<=m) (hP:∀ g,P g->g<B) (h0:w0.heap.size<=B) (hB:B<=w.heap.size) (a:xd_ w0 w) (hu:BufV w B u b) (hs:b.size+8022*(1+ndTs ds)<=90000000) (ho:w.ownsRow 0 89 1 (.slice la ds.length lc) ds.length ((List.range ds.length).flatMap λ i=>[Y i])) (hl:∀ g,(Value.slice la ds.length lc).ownBlock=some g->P g) (hd:∀ i d,ds[i]?=some d->DaV env w P d (xl_ env t 0 i) (Y i)) :
 Calls prog 67 #[u,.iface 156 (.slice la ds.length lc)] w (xf_ w B (b++txT env (.mk 91 0 noB [] ds) t)):=by
 refine hq_ λ n h=>?_
 have k:txT env (.mk 91 0 noB [] ds) t=bts [91]++(jn 0 (txTs env t 0 0 false [] ds)++bts [93]):=by
  conv=>lhs;unfold txT
  rw[if_neg (by decide),if_neg (by decide),if_neg (by decide),if_neg (by decide),if_neg (by decide),if_neg (by decide),if_neg (by decide)]
  rfl
 have p:=xp_ 156 (by decide);have q:=v0_ 156 (by decide);have r:=vs_ 156 (by decide);have s:=zbw 156 (by decide);have v:=zsj;have j:=q_ (nAll f (t:=t) (o:=91) (c:=93) (y:=91) (z:=93) rfl rfl (by decide) (by decide) l hP h0 hB a hu hs ho hl hd);clear f hP hu ho hl hd a
 go_in
 go_wp2_with (go_at_call 95;refine j.o.mono ?_;rintro e w1 h1;replace h1:=q_ h1;obtain⟨x,rfl,_⟩:=h1.o)
 try go_ret
 rw[h.o,k];exact h1.o
theorem zwl (f:NrOK w0 env m)(l:ndTs ds<=m) (hP:∀ g,P g->g<B) (h0:w0.heap.size<=B) (hB:B<=w.heap.size) (a:xd_ w0 w) (hu:BufV w B u b) (hs:b.size+8022*(1+ndTs ds)<=90000000) (ho:w.ownsRow 0 89 1 (.slice la ds.length lc) ds.length ((List.range ds.length).flatMap λ i=>[Y i])) (hl:∀ g,(Value.slice la ds.length lc).ownBlock=some g->P g) (hd:∀ i d,ds[i]?=some d->DaV env w P d (xl_ env t 0 i) (Y i)) :
 Calls prog 67 #[u,.iface 163 (.slice la ds.length lc)] w (xf_ w B (b++txT env (.mk 114 0 noB [] ds) t)):=by
 refine hq_ λ n h=>?_
 have k:txT env (.mk 114 0 noB [] ds) t=bts [40]++(jn 0 (txTs env t 0 0 false [] ds)++bts [41]):=by
  conv=>lhs;unfold txT
  rw[if_neg (by decide),if_neg (by decide),if_neg (by decide),if_neg (by decide),if_neg (by decide),if_neg (by decide),if_neg (by decide)]
  rfl
 have p:=xp_ 163 (by decide);have q:=v0_ 163 (by decide);have r:=vs_ 163 (by decide);have s:=zbw 163 (by decide);have v:=zc8 163 (by decide);have x:=zim 163 (by decide);have A:=zdx 163 (by decide);have C:=zmm;have j:=q_ (nAll f (t:=t) (o:=40) (c:=41) (y:=40) (z:=41) rfl rfl (by decide) (by decide) l hP h0 hB a hu hs ho hl hd);clear f hP hu ho hl hd a
 go_in
 go_wp2_with (go_at_call 95;refine j.o.mono ?_;rintro e w1 h1;replace h1:=q_ h1;obtain⟨D,rfl,_⟩:=h1.o)
 try go_ret
 rw[h.o,k];exact h1.o
theorem zyp (c:NrOK w0 env m){ks:List BA}(l:ndTs ds<=m) (hP:∀ g,P g->g<B) (h0:w0.heap.size<=B) (hB:B<=w.heap.size) (a:xd_ w0 w) (hu:BufV w B u b) (hs:b.size+8022*(1+ndTs ds)<=90000000) (hk:∀ k∈ks,k.size<=4000) (ho:w.ownsRow 0 160 2 (.slice la ds.length lc) ds.length ((List.range ds.length).flatMap λ i=>[.string (ks.getD i noB),Y i])) (hl:∀ g,(Value.slice la ds.length lc).ownBlock=some g->P g) (hd:∀ i d,ds[i]?=some d->DaV env w P d (xl_ env t 0 i) (Y i)) :
 Calls prog 67 #[u,.iface 158 (.slice la ds.length lc)] w (xf_ w B (b++txT env (.mk 123 0 noB ks ds) t)):=by
 refine hq_ λ n f=>?_
 have j:txT env (.mk 123 0 noB ks ds) t=bts [123]++(jn 0 (txTs env t 0 0 true ks ds)++bts [125]):=by
  conv=>lhs;unfold txT
  rw[if_neg (by decide),if_neg (by decide),if_neg (by decide),if_neg (by decide),if_neg (by decide),if_neg (by decide),if_neg (by decide)]
  rfl
 have p:=xp_ 158 (by decide);have q:=v0_ 158 (by decide);have r:=vs_ 158 (by decide);have s:=zbw 158 (by decide);have v:=zc8 158 (by decide);have x:=zux;have h:=q_ (nMap c (t:=t) l hP h0 hB a hu hs hk ho hl hd);clear c hP hu ho hl hd a hk
 go_in
 go_wp2_with (go_at_call 96;refine h.o.mono ?_;rintro e w1 h1;replace h1:=q_ h1;obtain⟨y,rfl,_⟩:=h1.o)
 try go_ret
 rw[f.o,j];exact h1.o
theorem zrc (i:NrOK w0 env m) (c:je_ w0){n:Nat}(hn:n<=4000){d:DT}{v:Value}(p:ndT d<=m) (a:DaV env w P d (xl_ env t n 0) v) (hP:∀ g,P g->g<B) (h0:w0.heap.size<=B) (hB:B<=w.heap.size) (h:xd_ w0 w) (hu:BufV w B u b) (hs:b.size+8022*(1+ndT d)<=90000000) :
 Calls prog 67 #[u,.iface 162 (.agg #[.int .i64 (n:Int),v])] w (xf_ w B (b++txT env (.mk 40 (n:Int) noB [] [d]) t)):=by
 refine hq_ λ q j=>?_;have l:True:=trivial;obtain⟨T,x,rfl⟩:=a.iface;have r:=xp_ 162 (by decide);have s:=v0_ 162 (by decide);have y:=vs_ 162 (by decide);have z:=zbw 162 (by decide);have C:=zc8 162 (by decide);have D:=zim 162 (by decide);have E:=zmo;have A:Fr w (w.alloc (.cells #[.int .i64 (n:Int),.iface T x] 162)) (λ _=>False):=(Fr.refl w _).alloc _;have F:=A.size;have k:=q_ (zwt i c hn p (a.fr A u_) hP h0 (by omega) (h.fr A (by omega) (λ g f=>f.elim)) (BufV.fr hu A u_) hs);replace A:=q_ A
 clear i hP hu h c a l
 go_in
 go_wp2_with (go_at_call 97;refine k.o.mono ?_;rintro e w1 h1;replace h1:=q_ h1;obtain⟨G,rfl,_⟩:=h1.o)
 try go_ret
 rw[j.o];exact h1.o.pre (FrU.of A.o)
theorem zyq (f:je_ w0):∀ m,NrOK w0 env m:=by
 intro m
 induction m with
 | zero=>intro d h;obtain⟨_,_,_,_,_⟩:=d;unfold ndT at h;omega
 | succ m ih=>
  intro d e w P B t v u b g hP h0 hB a hu hs
  cases g with
  | flat h hsy=>
   have i:1<=ndT d:=by obtain⟨_,_,_,_,_⟩:=d;unfold ndT;omega
   cases h with
   | nothing=>exact zoy hB hu (by omega)
   | truth b=>exact zt5 hB hu (by omega)
   | num c n hc i0 i1=>exact zyo f hc i0 i1 h0 hB a hu (by omega)
   | text tx h=>exact zwk h hB hu (by omega)
   | bytes tx h=>exact zt6 h hB hu (by omega)
   | sym n l h=>exact zyn (hsy n l rfl).1 (hsy n l rfl).2 hB hu (by omega)
  | branch n h hd=>
   unfold ndT at e hs;simp only[ndTs,bp_] at e hs;exact zrc ih f h (by omega) hd hP h0 hB a hu hs
  | row Y hc ho hl hd=>
   unfold ndT at e hs;obtain⟨la,lc,rfl⟩:=zo_ ho
   rcases hc with⟨rfl,rfl⟩|⟨rfl,rfl⟩
   ·exact zwm ih (by omega) hP h0 hB a hu hs ho hl hd
   ·exact zwl ih (by omega) hP h0 hB a hu hs ho hl hd
  | map Y hl hk ho hl2 hd=>
   unfold ndT at e hs;obtain⟨la,lc,rfl⟩:=zo_ ho;exact zyp ih (by omega) hP h0 hB a hu hs hk ho hl2 hd
theorem zot (i:je_ w0){d:DT}{v:Value}(f:DaV env w P d t v) (hk:w0.heap.size<=w.heap.size) (j:xd_ w0 w) (hs:8022*ndT d<=90000000) :
 Calls prog 37 #[v] w λ e w'=>e=.returned (.string (txT env d t))/\Fr w w' (λ _=>False):=by
 refine hq_ λ n k=>?_;obtain⟨T,x,rfl⟩:=f.iface;have a:=zyq i (ndT d) d l_ w (λ g=>P g/\g<w.heap.size) w.heap.size t _ (.slice none 0 0) noB (f.mono (λ g h1 l=>⟨l,h1⟩)) (λ g h=>h.2) hk l_ j (World.ownsRow_nil _ _ _ _) (by show 0+_<=_;omega);rw[ja_] at a;replace a:=q_ a;clear f j i
 go_in
 go_wp2_with (go_at_call 67;refine a.o.mono ?_;rintro e w1 ⟨q,rfl,h1,c⟩;have p:=zuy h1;replace c:=q_ c;replace h1:=q_ h1)
 try go_ret
 rw[k.o];exact⟨rfl,c.o.all.mono (λ g hg e=>by omega)⟩
end
end Go.Proofs.YtiifagiebikmdaaGreatDoor
