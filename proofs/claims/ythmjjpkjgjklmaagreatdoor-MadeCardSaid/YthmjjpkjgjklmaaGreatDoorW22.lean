import Derived.Test.YthmjjpkjgjklmaaGreatDoorW20
import Derived.Test.YthmjjpkjgjklmaaGreatDoorW11
import Derived.Test.YthmjjpkjgjklmaaGreatDoorA00
set_option maxHeartbeats 16000000
set_option maxRecDepth 100000
set_option linter.unusedSimpArgs false
open Go.Proofs.Tryz
namespace Go.Proofs.YthmjjpkjgjklmaaGreatDoor
open Go.RowKit
variable {w:World}{Y:Nat->Value}{m n lc:Nat}{P:Nat->Prop}{ds:List DT}{la:Option Addr}
theorem zhq (v:Value) (w:World):(Instr.typeAssert (.iface 179 v) 94 179 true).run prog w=.ok (.tuple #[v,.bool true]) w:=by kernel_rfl
theorem yz_ (u:TypeId) (h:u≠179) (v:Value) (w:World):(Instr.typeAssert (.iface u v) 94 179 true).run prog w=.ok (.tuple #[.bool false,.bool false]) w:=by
 have e:(Instr.typeAssert (.iface u v) 94 179 true).run prog w=(if u=179 then (pure (Value.tuple #[v,.bool true]):Sem Value) else (do pure (Value.tuple #[<- zeroValue 179,.bool false]))).run prog w:=by kernel_rfl
 have e2:(do pure (Value.tuple #[<- zeroValue 179,.bool false]):Sem Value).run prog w=.ok (.tuple #[.bool false,.bool false]) w:=by kernel_rfl
 rw[e,if_neg h];exact e2
theorem zgf (v:Value) (w:World):(Instr.typeAssert (.iface 181 v) 94 181 true).run prog w=.ok (.tuple #[v,.bool true]) w:=by kernel_rfl
theorem yv_ (u:TypeId) (h:u≠181) (v:Value) (w:World):(Instr.typeAssert (.iface u v) 94 181 true).run prog w=.ok (.tuple #[.int .i64 0,.bool false]) w:=by
 have e:(Instr.typeAssert (.iface u v) 94 181 true).run prog w=(if u=181 then (pure (Value.tuple #[v,.bool true]):Sem Value) else (do pure (Value.tuple #[<- zeroValue 181,.bool false]))).run prog w:=by kernel_rfl
 have e2:(do pure (Value.tuple #[<- zeroValue 181,.bool false]):Sem Value).run prog w=.ok (.tuple #[.int .i64 0,.bool false]) w:=by kernel_rfl
 rw[e,if_neg h];exact e2
theorem zlp (v:Value) (w:World):(Instr.typeAssert (.iface 183 v) 94 183 true).run prog w=.ok (.tuple #[v,.bool true]) w:=by kernel_rfl
theorem x4_ (u:TypeId) (h:u≠183) (v:Value) (w:World):(Instr.typeAssert (.iface u v) 94 183 true).run prog w=.ok (.tuple #[.string ⟨#[]⟩,.bool false]) w:=by
 have e:(Instr.typeAssert (.iface u v) 94 183 true).run prog w=(if u=183 then (pure (Value.tuple #[v,.bool true]):Sem Value) else (do pure (Value.tuple #[<- zeroValue 183,.bool false]))).run prog w:=by kernel_rfl
 have e2:(do pure (Value.tuple #[<- zeroValue 183,.bool false]):Sem Value).run prog w=.ok (.tuple #[.string ⟨#[]⟩,.bool false]) w:=by kernel_rfl
 rw[e,if_neg h];exact e2
theorem zdc (v:Value) (w:World):(Instr.typeAssert (.iface 169 v) 94 169 true).run prog w=.ok (.tuple #[v,.bool true]) w:=by kernel_rfl
theorem xk_ (u:TypeId) (h:u≠169) (v:Value) (w:World):(Instr.typeAssert (.iface u v) 94 169 true).run prog w=.ok (.tuple #[.slice none 0 0,.bool false]) w:=by
 have e:(Instr.typeAssert (.iface u v) 94 169 true).run prog w=(if u=169 then (pure (Value.tuple #[v,.bool true]):Sem Value) else (do pure (Value.tuple #[<- zeroValue 169,.bool false]))).run prog w:=by kernel_rfl
 have e2:(do pure (Value.tuple #[<- zeroValue 169,.bool false]):Sem Value).run prog w=.ok (.tuple #[.slice none 0 0,.bool false]) w:=by kernel_rfl
 rw[e,if_neg h];exact e2
theorem zff (v:Value) (w:World):(Instr.typeAssert (.iface 171 v) 94 171 true).run prog w=.ok (.tuple #[v,.bool true]) w:=by kernel_rfl
theorem je_ (u:TypeId) (h:u≠171) (v:Value) (w:World):(Instr.typeAssert (.iface u v) 94 171 true).run prog w=.ok (.tuple #[.slice none 0 0,.bool false]) w:=by
 have e:(Instr.typeAssert (.iface u v) 94 171 true).run prog w=(if u=171 then (pure (Value.tuple #[v,.bool true]):Sem Value) else (do pure (Value.tuple #[<- zeroValue 171,.bool false]))).run prog w:=by kernel_rfl
 have e2:(do pure (Value.tuple #[<- zeroValue 171,.bool false]):Sem Value).run prog w=.ok (.tuple #[.slice none 0 0,.bool false]) w:=by kernel_rfl
 rw[e,if_neg h];exact e2
theorem zas (v:Value) (w:World):(Instr.typeAssert (.iface 175 v) 94 175 true).run prog w=.ok (.tuple #[v,.bool true]) w:=by kernel_rfl
theorem x5_ (u:TypeId) (h:u≠175) (v:Value) (w:World):(Instr.typeAssert (.iface u v) 94 175 true).run prog w=.ok (.tuple #[.agg #[.int .i64 0,.nilIface],.bool false]) w:=by
 have e:(Instr.typeAssert (.iface u v) 94 175 true).run prog w=(if u=175 then (pure (Value.tuple #[v,.bool true]):Sem Value) else (do pure (Value.tuple #[<- zeroValue 175,.bool false]))).run prog w:=by kernel_rfl
 have e2:(do pure (Value.tuple #[<- zeroValue 175,.bool false]):Sem Value).run prog w=.ok (.tuple #[.agg #[.int .i64 0,.nilIface],.bool false]) w:=by kernel_rfl
 rw[e,if_neg h];exact e2
theorem zar (v:Value) (w:World):(Instr.typeAssert (.iface 176 v) 94 176 true).run prog w=.ok (.tuple #[v,.bool true]) w:=by kernel_rfl
theorem jr_ (u:TypeId) (h:u≠176) (v:Value) (w:World):(Instr.typeAssert (.iface u v) 94 176 true).run prog w=.ok (.tuple #[.slice none 0 0,.bool false]) w:=by
 have e:(Instr.typeAssert (.iface u v) 94 176 true).run prog w=(if u=176 then (pure (Value.tuple #[v,.bool true]):Sem Value) else (do pure (Value.tuple #[<- zeroValue 176,.bool false]))).run prog w:=by kernel_rfl
 have e2:(do pure (Value.tuple #[<- zeroValue 176,.bool false]):Sem Value).run prog w=.ok (.tuple #[.slice none 0 0,.bool false]) w:=by kernel_rfl
 rw[e,if_neg h];exact e2
theorem zcl (v:Value) (w:World):(Instr.typeAssert (.iface 189 v) 94 189 true).run prog w=.ok (.tuple #[v,.bool true]) w:=by kernel_rfl
theorem zdy (u:TypeId) (h:u≠189) (v:Value) (w:World):(Instr.typeAssert (.iface u v) 94 189 true).run prog w=.ok (.tuple #[.agg #[.int .u8 0,.int .i64 0],.bool false]) w:=by
 have e:(Instr.typeAssert (.iface u v) 94 189 true).run prog w=(if u=189 then (pure (Value.tuple #[v,.bool true]):Sem Value) else (do pure (Value.tuple #[<- zeroValue 189,.bool false]))).run prog w:=by kernel_rfl
 have e2:(do pure (Value.tuple #[<- zeroValue 189,.bool false]):Sem Value).run prog w=.ok (.tuple #[.agg #[.int .u8 0,.int .i64 0],.bool false]) w:=by kernel_rfl
 rw[e,if_neg h];exact e2
theorem zhr (v:Value) (w:World):(Instr.typeAssert (.iface 190 v) 94 190 true).run prog w=.ok (.tuple #[v,.bool true]) w:=by kernel_rfl
theorem zub (u:TypeId) (h:u≠190) (v:Value) (w:World):(Instr.typeAssert (.iface u v) 94 190 true).run prog w=.ok (.tuple #[.string ⟨#[]⟩,.bool false]) w:=by
 have e:(Instr.typeAssert (.iface u v) 94 190 true).run prog w=(if u=190 then (pure (Value.tuple #[v,.bool true]):Sem Value) else (do pure (Value.tuple #[<- zeroValue 190,.bool false]))).run prog w:=by kernel_rfl
 have e2:(do pure (Value.tuple #[<- zeroValue 190,.bool false]):Sem Value).run prog w=.ok (.tuple #[.string ⟨#[]⟩,.bool false]) w:=by kernel_rfl
 rw[e,if_neg h];exact e2
open Go.RowKit
def NdOK (m:Nat):Prop:=∀ (d:DT),ndT d<=m->ndT d<=1000000000->∀ (w:World) (P:Nat->Prop) (v:Value),DatV w P d v->
 Calls prog 64 #[v] w λ e w'=>e=.returned (.int .i64 (ndT d:Int))/\Fr w w' (λ _=>False)
theorem zbl {g c:Nat}(ho:w.ownsRow 0 94 1 (.slice (some ⟨g,0,none⟩) n c) n ((List.range n).flatMap λ i=>[Y i])){q:Nat}(hq:q<n):w.cell? ⟨g,q,none⟩=some (Y q):=
 zs_ ho rfl (by have:=zcj n (λ i=>[Y i]) (m:=1) (λ _ _=>rfl) q 0 hq (by decide);simpa using this)
theorem ze9 {g c:Nat}{K:Nat->BA}(ho:w.ownsRow 0 173 2 (.slice (some ⟨g,0,none⟩) n c) n ((List.range n).flatMap λ i=>[.string (K i),Y i])){q:Nat}(hq:q<n):w.cell? ⟨g,q*2,none⟩=some (.string (K q))/\w.cell? ⟨g,q*2+1,none⟩=some (Y q):=by
 have h:=zcj n (λ i=>[.string (K i),Y i]) (m:=2) (λ _ _=>rfl) q;exact⟨zs_ ho rfl (by have:=h 0 hq (by decide);simpa using this),zs_ ho rfl (by have:=h 1 hq (by decide);simpa using this)⟩
theorem zds {d:DT}{T:TypeId}{x:Value}(hT:T≠169/\T≠171/\T≠175/\T≠176) (hd:ndT d=1) (w:World) :
 Calls prog 64 #[.iface T x] w λ e w'=>e=.returned (.int .i64 (ndT d:Int))/\Fr w w' (λ _=>False):=by
 refine hq_ λ POST Q_=>?_;have a0:=xk_ T hT.1;have a1:=je_ T hT.2.1;have a2:=x5_ T hT.2.2.1;have a3:=jr_ T hT.2.2.2;replace hd:=q_ hd;clear hT
 go_in
 go_wp2_with fail
 try go_ret
 rw[Q_.o,hd.o];exact⟨rfl,Fr.refl _ _⟩
theorem zst (ih:NdOK m){d:DT}{v:Value}(hm:ndT d<=m) (hb:ndT d<=1000000000) (hv:DatV w P d v) :
 Calls prog 64 #[.iface 175 (.agg #[.int .i64 (n:Int),v])] w λ e w'=>e=.returned (.int .i64 (ndT (.mk 40 (n:Int) noB [] [d]):Int))/\Fr w w' (λ _=>False):=by
 refine hq_ λ POST Q_=>?_;obtain⟨T,x,rfl⟩:=hv.iface;have hnd:=q_ (show ndT (.mk 40 (n:Int) noB [] [d])=1+ndT d by simp only[ndT,ndTs,a7_]);have A:Fr w (w.alloc (.cells #[.int .i64 (n:Int),.iface T x] 175)) (λ _=>False):=(Fr.refl w _).alloc _;have hC:=q_ (ih d hm hb _ P _ (hv.fr A u_));have a0:=xk_ 175 (by decide);have a1:=je_ 175 (by decide);have a2:=zas;obtain⟨D,hD⟩:∃ D,ndT d=D:=⟨_,rfl⟩;rw[hD] at hC hnd hb;replace hD:=q_ hD;replace A:=q_ A;clear hv ih hm
 go_in
 go_wp2_with (go_at_call 64;refine hC.o.mono ?_;rintro e w2 ⟨rfl,hf2⟩;replace hf2:=q_ hf2)
 try go_ret
 rw[Q_.o,hnd.o];exact⟨by simp,A.o.trans hf2.o u_⟩
theorem zx9 (ih:NdOK m)(hm:1+ndTs ds<=m+1) (hb:1+ndTs ds<=1000000000) (ho:w.ownsRow 0 94 1 (.slice la ds.length lc) ds.length ((List.range ds.length).flatMap λ i=>[Y i])) (hd:∀ i d,ds[i]?=some d->DatV w P d (Y i)) :
 Calls prog 64 #[.iface 169 (.slice la ds.length lc)] w λ e w'=>e=.returned (.int .i64 (ndT (.mk 91 0 noB [] ds):Int))/\Fr w w' (λ _=>False):=by
 refine hq_ λ POST Q_=>?_;have hnd:=q_ (show ndT (.mk 91 0 noB [] ds)=1+ndTs ds by unfold ndT;rfl);have a0:=zdc;have start:H_ (∃ q:Nat,Value.int .i64 1=.int .i64 ((1+ndTs (ds.take q):Nat):Int)/\Value.int .i64 0=.int .i64 (q:Int)/\q<=ds.length/\ds.length+1-q<=ds.length+1/\Fr w w (λ _=>False)):=q_ ⟨0,by simp[ndTs],rfl,aj_ _,by omega,Fr.refl _ _⟩;replace ho:=q_ ho;replace hd:=q_ hd
 go_in
 go_wp2_with fail
 go_loopg [3,6,20] (ds.length+1) (λ m v3 v6 v W=>∃ q:Nat,v3=.int .i64 ((1+ndTs (ds.take q):Nat):Int)/\v=.int .i64 (q:Int)/\q<=ds.length/\ds.length+1-q<=m/\Fr w W (λ _=>False))
 case atStart=>exact start.o
 case round=>
  clear start;obtain⟨q,rfl,rfl,hq,hmq,hFw⟩:=hrel
  by_cases hlt:q<ds.length
  ·have hlt':(q:Int)<(ds.length:Int):=by omega
   have hdq:ds[q]?=some ds[q]:=am_ hlt;generalize ds[q]=d at hdq;obtain⟨t1,t2⟩:=xm_ hdq;obtain⟨g,cap,hgc⟩:=zk_ ho.o (by omega);cases hgc;have hv:=hd.o q d hdq;obtain⟨T,x,hx⟩:=hv.iface;rw[hx] at hv
   have e0:wr.cell? ⟨g,q,none⟩=some (.iface T x):=by
    rw[<- hx];exact zbl (zb_ ho.o hFw u_) hlt
   have hC:=q_ (ih d (by omega) (by omega) wr P _ (hv.fr hFw u_))
   have hq5:q<=1000000000:=by have:=x3_ ds;omega
   obtain⟨S,hS⟩:∃ S,ndTs (ds.take q)=S:=⟨_,rfl⟩;obtain⟨D,hDn⟩:∃ D,ndT d=D:=⟨_,rfl⟩;rw[hS] at t1 t2;rw[hDn] at t1 t2 hC;rw[hS];replace t1:=q_ t1;replace hS:=q_ hS;replace hDn:=q_ hDn;replace hFw:=q_ hFw;replace hdq:=q_ hdq;replace hv:=q_ hv;clear hx
   go_wp2_with (go_at_call 64;refine hC.o.mono ?_;rintro e w2 ⟨rfl,hf2⟩;replace hf2:=q_ hf2)
   go_roundg (ds.length+1-(q+1))
   case measure=>omega
   case rel=>exact⟨q+1,by rw[t1.o];simp;omega,by simp,hlt,l_,hFw.o.trans hf2.o u_⟩
  ·have hlt':¬ ((q:Int)<(ds.length:Int)):=by omega
   rw[a3_ (by omega)];replace hFw:=q_ hFw
   go_wp2_with fail
   try go_ret
   rw[Q_.o,hnd.o];exact⟨rfl,hFw.o⟩
theorem zx8 (ih:NdOK m)(hm:1+ndTs ds<=m+1) (hb:1+ndTs ds<=1000000000) (ho:w.ownsRow 0 94 1 (.slice la ds.length lc) ds.length ((List.range ds.length).flatMap λ i=>[Y i])) (hd:∀ i d,ds[i]?=some d->DatV w P d (Y i)) :
 Calls prog 64 #[.iface 176 (.slice la ds.length lc)] w λ e w'=>e=.returned (.int .i64 (ndT (.mk 114 0 noB [] ds):Int))/\Fr w w' (λ _=>False):=by
 refine hq_ λ POST Q_=>?_;have hnd:=q_ (show ndT (.mk 114 0 noB [] ds)=1+ndTs ds by unfold ndT;rfl);have a0:=xk_ 176 (by decide);have a1:=je_ 176 (by decide);have a2:=x5_ 176 (by decide);have a3:=zar;have start:H_ (∃ q:Nat,Value.int .i64 1=.int .i64 ((1+ndTs (ds.take q):Nat):Int)/\Value.int .i64 0=.int .i64 (q:Int)/\q<=ds.length/\ds.length+1-q<=ds.length+1/\Fr w w (λ _=>False)):=q_ ⟨0,by simp[ndTs],rfl,aj_ _,by omega,Fr.refl _ _⟩;replace ho:=q_ ho;replace hd:=q_ hd
 go_in
 go_wp2_with fail
 go_loopg [3,13,57] (ds.length+1) (λ m v3 v6 v W=>∃ q:Nat,v3=.int .i64 ((1+ndTs (ds.take q):Nat):Int)/\v=.int .i64 (q:Int)/\q<=ds.length/\ds.length+1-q<=m/\Fr w W (λ _=>False))
 case atStart=>exact start.o
 case round=>
  clear start;obtain⟨q,rfl,rfl,hq,hmq,hFw⟩:=hrel
  by_cases hlt:q<ds.length
  ·have hlt':(q:Int)<(ds.length:Int):=by omega
   have hdq:ds[q]?=some ds[q]:=am_ hlt;generalize ds[q]=d at hdq;obtain⟨t1,t2⟩:=xm_ hdq;obtain⟨g,cap,hgc⟩:=zk_ ho.o (by omega);cases hgc;have hv:=hd.o q d hdq;obtain⟨T,x,hx⟩:=hv.iface;rw[hx] at hv
   have e0:wr.cell? ⟨g,q,none⟩=some (.iface T x):=by
    rw[<- hx];exact zbl (zb_ ho.o hFw u_) hlt
   have hC:=q_ (ih d (by omega) (by omega) wr P _ (hv.fr hFw u_))
   have hq5:q<=1000000000:=by have:=x3_ ds;omega
   obtain⟨S,hS⟩:∃ S,ndTs (ds.take q)=S:=⟨_,rfl⟩;obtain⟨D,hDn⟩:∃ D,ndT d=D:=⟨_,rfl⟩;rw[hS] at t1 t2;rw[hDn] at t1 t2 hC;rw[hS];replace t1:=q_ t1;replace hS:=q_ hS;replace hDn:=q_ hDn;replace hFw:=q_ hFw;replace hdq:=q_ hdq;replace hv:=q_ hv;clear hx
   go_wp2_with (go_at_call 64;refine hC.o.mono ?_;rintro e w2 ⟨rfl,hf2⟩;replace hf2:=q_ hf2)
   go_roundg (ds.length+1-(q+1))
   case measure=>omega
   case rel=>exact⟨q+1,by rw[t1.o];simp;omega,by simp,hlt,l_,hFw.o.trans hf2.o u_⟩
  ·have hlt':¬ ((q:Int)<(ds.length:Int)):=by omega
   rw[a3_ (by omega)];replace hFw:=q_ hFw
   go_wp2_with fail
   try go_ret
   rw[Q_.o,hnd.o];exact⟨rfl,hFw.o⟩
theorem zzx (ih:NdOK m){ks:List BA}{K:Nat->BA}(hm:1+ndTs ds<=m+1) (hb:1+ndTs ds<=1000000000) (ho:w.ownsRow 0 173 2 (.slice la ds.length lc) ds.length ((List.range ds.length).flatMap λ i=>[.string (K i),Y i])) (hd:∀ i d,ds[i]?=some d->DatV w P d (Y i)) :
 Calls prog 64 #[.iface 171 (.slice la ds.length lc)] w λ e w'=>e=.returned (.int .i64 (ndT (.mk 123 0 noB ks ds):Int))/\Fr w w' (λ _=>False):=by
 refine hq_ λ POST Q_=>?_;have hnd:=q_ (show ndT (.mk 123 0 noB ks ds)=1+ndTs ds by unfold ndT;rfl);have a0:=xk_ 171 (by decide);have a1:=zff;have start:H_ (∃ q:Nat,Value.int .i64 1=.int .i64 ((1+ndTs (ds.take q):Nat):Int)/\Value.int .i64 0=.int .i64 (q:Int)/\q<=ds.length/\ds.length+1-q<=ds.length+1/\Fr w w (λ _=>False)):=q_ ⟨0,by simp[ndTs],rfl,aj_ _,by omega,Fr.refl _ _⟩;replace ho:=q_ ho;replace hd:=q_ hd
 go_in
 go_wp2_with fail
 go_loopg [3,9,34] (ds.length+1) (λ m v3 v6 v W=>∃ q:Nat,v3=.int .i64 ((1+ndTs (ds.take q):Nat):Int)/\v=.int .i64 (q:Int)/\q<=ds.length/\ds.length+1-q<=m/\Fr w W (λ _=>False))
 case atStart=>exact start.o
 case round=>
  clear start;obtain⟨q,rfl,rfl,hq,hmq,hFw⟩:=hrel
  by_cases hlt:q<ds.length
  ·have hlt':(q:Int)<(ds.length:Int):=by omega
   have hdq:ds[q]?=some ds[q]:=am_ hlt;generalize ds[q]=d at hdq;obtain⟨t1,t2⟩:=xm_ hdq;obtain⟨g,cap,hgc⟩:=zk_ ho.o (by omega);cases hgc;have hv:=hd.o q d hdq;obtain⟨T,x,hx⟩:=hv.iface;rw[hx] at hv;obtain⟨m0,m1⟩:=ze9 (zb_ ho.o hFw u_) hlt;rw[hx] at m1;have A:Fr wr (wr.alloc (.cells #[.string (K q),.iface T x] 173)) (λ _=>False):=(Fr.refl wr _).alloc _;have hC:=q_ (ih d (by omega) (by omega) (wr.alloc (.cells #[.string (K q),.iface T x] 173)) P _ ((hv.fr hFw u_).fr A u_));replace A:=q_ A
   have hq5:q<=1000000000:=by have:=x3_ ds;omega
   obtain⟨S,hS⟩:∃ S,ndTs (ds.take q)=S:=⟨_,rfl⟩;obtain⟨D,hDn⟩:∃ D,ndT d=D:=⟨_,rfl⟩;rw[hS] at t1 t2;rw[hDn] at t1 t2 hC;rw[hS];replace t1:=q_ t1;replace hS:=q_ hS;replace hDn:=q_ hDn;replace hFw:=q_ hFw;replace hdq:=q_ hdq;replace hv:=q_ hv;clear hx
   go_wp2_with (go_at_call 64;refine hC.o.mono ?_;rintro e w2 ⟨rfl,hf2⟩;replace hf2:=q_ hf2)
   go_roundg (ds.length+1-(q+1))
   case measure=>omega
   case rel=>exact⟨q+1,by rw[t1.o];simp;omega,by simp,hlt,l_,(hFw.o.trans A.o u_).trans hf2.o u_⟩
  ·have hlt':¬ ((q:Int)<(ds.length:Int)):=by omega
   rw[a3_ (by omega)];replace hFw:=q_ hFw
   go_wp2_with fail
   try go_ret
   rw[Q_.o,hnd.o];exact⟨rfl,hFw.o⟩
theorem zp2:∀ m,NdOK m:=by
 intro m
 induction m with
 | zero=>intro d h;obtain⟨_,_,_,_,_⟩:=d;unfold ndT at h;omega
 | succ m ih=>
  intro d hm hb w P v hv
  cases hv with
  | flat h=>
   cases h with
   | nothing=>exact zds (by decide) (by unfold ndT;simp[ndTs]) w
   | truth b=>exact zds (by decide) (by unfold ndT;simp[ndTs]) w
   | num c n hc h0 h1=>exact zds (by decide) (by unfold ndT;simp[ndTs]) w
   | text tx h=>exact zds (by decide) (by unfold ndT;simp[ndTs]) w
   | bytes tx h=>exact zds (by decide) (by unfold ndT;simp[ndTs]) w
   | sym n l h=>exact zds (by decide) (by unfold ndT;simp[ndTs]) w
  | branch n h hd=>
   unfold ndT at hm hb;simp only[ndTs,a7_] at hm hb;exact zst ih (by omega) (by omega) hd
  | row Y hc ho hP hd=>
   unfold ndT at hm hb;obtain⟨la,lc,rfl⟩:=zf_ ho
   rcases hc with⟨rfl,rfl⟩|⟨rfl,rfl⟩
   ·exact zx9 ih hm hb ho hd
   ·exact zx8 ih hm hb ho hd
  | map Y hl hk ho hP hd=>
   unfold ndT at hm hb;obtain⟨la,lc,rfl⟩:=zf_ ho;exact zzx ih (K:=λ i=>_) hm hb ho hd
end Go.Proofs.YthmjjpkjgjklmaaGreatDoor
