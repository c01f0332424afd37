import Derived.Test.YtjkiencmjggakaaGreatDoorW29
import Derived.Stop.LaidErr
import Derived.ProofKit
import Derived.Lay
import Derived.LaidHandle
import Derived.PinnedBridge
import Derived.Lib.LaidPrint
import Derived.Lib.LaidTab
import Derived.Stop.Joined
import Derived.Test.YtjkiencmjggakaaGreatDoorTie
import Derived.Test.YtjkiencmjggakaaGreatDoorCards
import Derived.SevenTiedAt
set_option maxHeartbeats 16000000
set_option maxRecDepth 100000
set_option linter.unusedVariables false
set_option linter.defProp false
set_option linter.unusedSimpArgs false
open Go.Proofs.Tryz
namespace Go.Proofs.YtjkiencmjggakaaGreatDoor
open Go.RowKit
variable {w:World}{n nm:String}{g:Nat}{P:Program}{ti tp:TypeId}{text:List UInt8}
def cQ.fr{W W':World}{P:Nat->Prop}{bz root:Nat}{ds:List PD}{t:PT}{ts:List TR}{kd:Nat->KD}(h:cQ W P bz root ds t ts kd)(hf:Fr W W' N_):cQ W' P bz root ds t ts kd:=
 ⟨h.Z.fr hf u_,h.B,h.K,h.d,hf.ke h.rt,h.ty,λg hg=>bb_ (h.lt g hg) hf.size⟩
def pd(w:World)(sw sr:BA)(e:Ending)(w':World):Prop:=
 Fr w w' N_/\(((zg sw).1=0/\(zg sr).1=0/\∃ba bb,e=.returned (.tuple #[P_ ba,P_ bb,O_])/\∀ds t ds' t',ze sw=.ok (ds,t)->ze sr=.ok (ds',t')->Calls prog 7 #[P_ ba,P_ bb] w' (nU w' (zx ds) (zx ds') t t'))\/
  (¬((zg sw).1=0/\(zg sr).1=0)/\∃pa pb,e=.returned (.tuple #[.pointer pa,.pointer pb,z_ (if (zg sw).1=0 then (zg sr).1 else (zg sw).1)])))
def xV.bad{w':World}{s:BA}{e:Ending}(h:xV w s e w')(h0:(zg s).1≠0):e=.returned (.tuple #[.pointer none,z_ (zg s).1,z_ (zg s).2])/\Fr w w' N_:=by
 obtain⟨a,rfl,hf,hz⟩:=h;rw[n_ h0]at hz;subst hz;exact⟨rfl,hf⟩
def xV.good{w':World}{s:BA}{e:Ending}{ds:List PD}{t:PT}(h:xV w s e w')(h0:(zg s).1=0)(hp:ze s=.ok (ds,t)):∃bz root P ts kd,e=.returned (.tuple #[P_ bz,O_,z_ (zg s).2])/\Fr w w' N_/\cQ w' P bz root ds t ts kd:=by
 obtain⟨a,rfl,hf,hz⟩:=h;rw[i_ h0]at hz;obtain⟨bz,root,P,ts,kd,rfl,M⟩:=KO h0 hp hz;exact⟨bz,root,P,ts,kd,by rw[h0],hf,M⟩
def Xa{sw sr:BA}:Calls prog 5 #[.string sw,.string sr] w (pd w sw sr):=by
 refine hq_ λx m=>?_;have y:=zy (sM (w:=w) (s:=sw));have hB:=zy (λV=>sM (w:=V) (s:=sr));by_cases h0:(zg sw).1=0
 .obtain⟨_,ds,t,hp⟩:=wB h0;have p:H_ (∀e w1,xV w sw e w1->∃bz j,e=.returned (.tuple #[P_ bz,O_,z_ j])/\Fr w w1 N_/\∃root P ts kd,cQ w1 P bz root ds t ts kd):=zy (λe w1 h=>by
   obtain⟨bz,root,P,ts,kd,rfl,hf,M⟩:=h.good h0 hp
   exact⟨bz,_,rfl,hf,root,P,ts,kd,M⟩)
  by_cases h1:(zg sr).1=0
  .obtain⟨_,ds',t',u⟩:=wB h1;have q:H_ (∀w1 e a,xV w1 sr e a->∃bz j,e=.returned (.tuple #[P_ bz,O_,z_ j])/\Fr w1 a N_/\∃root P ts kd,cQ a P bz root ds' t' ts kd):=zy (λw1 e a h=>by
    obtain⟨bz,root,P,ts,kd,rfl,hf,M⟩:=h.good h1 u
    exact⟨bz,_,rfl,hf,root,P,ts,kd,M⟩)
   have fin:H_ (∀w1 a ba bb,Fr w w1 N_->Fr w1 a N_->(∃root P ts kd,cQ w1 P ba root ds t ts kd)->(∃root P ts kd,cQ a P bb root ds' t' ts kd)->x (.returned (.tuple #[P_ ba,P_ bb,O_])) a):=zy (λw1 a ba bb b d c i=>by
    rw[m.o]
    obtain⟨D,P,ta,ka,c⟩:=c
    obtain⟨E,Q,tb,kb,i⟩:=i
    refine⟨b.trans d u_,.inl ⟨h0,h1,ba,bb,rfl,λd1 F B G r z=>?_⟩⟩
    rw[hp]at r
    cases r
    rw[u]at z
    cases z
    exact Wu h0 hp h1 u (c.fr d) i)
   go_in;go_upto_region 4 with(go_at_call 10;apply y.o.mono;intro e w1 h;obtain⟨ba,A,rfl,b,c⟩:=p.o e w1 h;replace b:=zy b;replace c:=zy c);go_wp2_with (go_at_call 10;apply(hB.o _).mono;intro e a h;obtain⟨bb,C,rfl,d,i⟩:=q.o _ e a h;have f:=zy (fin.o _ _ _ _ b d c i));refine bodyPost_ret (v:=.tuple #[P_ ba,P_ bb,O_]) (by simp[results,results5,go_sem]) rfl ?_;exact f
  .have q:H_ (∀w1 e a,xV w1 sr e a->e=.returned (.tuple #[.pointer none,z_ (zg sr).1,z_ (zg sr).2])/\Fr w1 a N_):=zy (λw1 e a h=>h.bad h1);have fin:H_ (∀w1 a ba,Fr w w1 N_->Fr w1 a N_->x (.returned (.tuple #[P_ ba,.pointer none,z_ (zg sr).1])) a):=zy (λw1 a ba b d=>by
    rw[m.o]
    exact⟨b.trans d u_,.inr ⟨λh=>h1 h.2,_,_,by rw[i_ h0]⟩⟩)
   generalize (zg sr).1=k at q fin;generalize (zg sr).2=l at q;go_in;go_upto_region 4 with(go_at_call 10;apply y.o.mono;intro e w1 h;obtain⟨ba,A,rfl,b,c⟩:=p.o e w1 h;replace b:=zy b);go_wp2_with (go_at_call 10;apply(hB.o _).mono;intro e a h;obtain⟨rfl,d⟩:=q.o _ e a h;have f:=zy (fin.o _ _ ba b d));refine bodyPost_ret (v:=.tuple #[P_ ba,.pointer none,z_ k]) (by simp[results,results5,go_sem]) rfl ?_;exact f
 .have p:H_ (∀e w1,xV w sw e w1->e=.returned (.tuple #[.pointer none,z_ (zg sw).1,z_ (zg sw).2])/\x (.returned (.tuple #[.pointer none,.pointer none,z_ (zg sw).1])) w1):=zy (λe w1 h=>by
   obtain⟨r,b⟩:=h.bad h0
   refine⟨r,?_⟩
   rw[m.o]
   exact⟨b,.inr ⟨λh=>h0 h.1,_,_,by rw[n_ h0]⟩⟩)
  have i:((zg sw).1==0)=false:=by simp;exact h0
  generalize (zg sw).1=k at p i;generalize (zg sw).2=l at p;go_in;go_wp2_with (go_at_call 10;apply y.o.mono;intro e w1 h;obtain⟨rfl,f⟩:=p.o e w1 h;replace f:=zy f);refine bodyPost_ret (v:=.tuple #[.pointer none,.pointer none,z_ k]) (by simp[results,results5,go_sem]) rfl ?_;exact f
def oO{A:Nat->Addr}{sw sr:BA}(K:Kit A w)(C:jM):Calls prog 3 #[.string sw,.string sr] w λe w'=>e=.returned (.bool true)/\Fr w w' N_:=by
 refine hq_ λF y=>?_;obtain⟨S,B,hQ,hP,z⟩:=K;have x:=zy (oZ (sw:=sw) (sr:=sr) S B hQ hP z C);have hB:=zy (λV=>Xa (w:=V) (sw:=sw) (sr:=sr));have fin:H_ (∀V,Fr w V N_->F (.returned (.bool true)) V):=zy (λV G=>by rw[y.o];exact⟨rfl,G⟩);clear S B hQ hP z C y;go_in;go_upto_region 2 with(go_at_call 4;apply x.o.mono;rintro e w1 ⟨ok,tx,k,rfl,r,s⟩;replace r:=zy r;replace s:=zy s);rcases s.o with⟨h0,h1,ds,t,ds',t',m,hp,E,hm,hw⟩|⟨v,rfl,rfl,hk⟩
 .have p:H_ (∀e d,pd w1 sw sr e d->∃ba bb,e=.returned (.tuple #[P_ ba,P_ bb,O_])/\Fr w d N_/\Calls prog 7 #[P_ ba,P_ bb] d λe u=>e=.returned (z_ (enc m:Int))/\Fr w u N_):=zy (λe d h=>by
   obtain⟨f,⟨_,_,ba,bb,rfl,i⟩|⟨hn,_⟩⟩:=h
   .refine⟨ba,bb,rfl,r.o.trans f u_,(i ds t ds' t' hp E).mono ?_⟩
    rintro e u ⟨H,rfl,j,a,b,c⟩
    have D:Few (zx ds) (zx ds') t t' H:=⟨a,b,c⟩
    rw[D.uniq hm]
    exact⟨rfl,(r.o.trans f u_).trans j u_⟩
   .exact absurd ⟨h0,h1⟩ hn)
  clear s h0 h1 hp E r x;rcases hw with⟨rfl,rfl,rfl,rfl⟩|⟨rfl,rfl,rfl,rfl⟩|⟨J,L,rfl,I,rfl⟩
  .have he:(enc 0:Int)=602:=rfl;rw[he]at p;clear hm he;go_wp2_with (first
    |(go_at_call 5;apply(hB.o _).mono;intro e d h;obtain⟨ba,bb,rfl,f,i⟩:=p.o e d h;replace i:=zy i;clear h f)
    |(go_at_call 7;apply i.o.mono;rintro e u ⟨rfl,j⟩;have q:=zy (fin.o _ j);clear j)
    |go_in)
   exact q
  .have he:(enc 301:Int)=301:=rfl;rw[he]at p;clear hm he;go_wp2_with (first
    |(go_at_call 5;apply(hB.o _).mono;intro e d h;obtain⟨ba,bb,rfl,f,i⟩:=p.o e d h;replace i:=zy i;clear h f)
    |(go_at_call 7;apply i.o.mono;rintro e u ⟨rfl,j⟩;have q:=zy (fin.o _ j);clear j)
    |go_in)
   exact q
  .have he:(enc m:Int)=(m:Int):=by unfold enc;rw[n_ M_]
   rw[he]at p;have Q:((m:Int)==602)=false:=by simp;omega
   have R:((m:Int)==301)=false:=by simp;omega
   have H:=WS (b:=tx) M_;have M:tx.toList.isEmpty=false:=by
    cases h:tx.toList with
    |nil=>exact absurd h H
    |cons a l=>rfl
   clear hm he J L I;go_wp2_with (first
    |(go_at_call 5;apply(hB.o _).mono;intro e d h;obtain⟨ba,bb,rfl,f,i⟩:=p.o e d h;replace i:=zy i;clear h f)
    |(go_at_call 7;apply i.o.mono;rintro e u ⟨rfl,j⟩;have q:=zy (fin.o _ j);clear j)
    |go_in)
   exact q
 .have p:H_ (∀e d,pd w1 sw sr e d->∃pa pb,e=.returned (.tuple #[.pointer pa,.pointer pb,z_ k])/\Fr w d N_):=zy (λe d h=>by
   obtain⟨f,⟨a,b,_⟩|⟨_,pa,pb,rfl⟩⟩:=h
   .exact absurd ⟨a,b⟩ v
   .exact⟨pa,pb,by rw[hk],r.o.trans f u_⟩)
  have D:k≠0:=by
   rw[hk];by_cases h0:(zg sw).1=0
   .rw[i_ h0];exact λh1=>v ⟨h0,h1⟩
   .rw[n_ h0];exact h0
  have O:(k==k)=true:=by simp
  have N:(k==0)=false:=by simp;exact D
  clear s v hk D r x;go_wp2_with (first
   |(go_at_call 5;apply(hB.o _).mono;intro e d h;obtain⟨pa,pb,rfl,f⟩:=p.o e d h;have q:=zy (fin.o _ f);clear h f)
   |go_in)
  exact q
def Zg(P:Program)(W:World)(ps:List MemPlace):Prop:=∀b off,MemPlace.cell b off∈ps->
 (∃c t,W.heap[b]?=some (.cells c t (0,0)))/\∀u v,W.cell? ⟨b,off,none⟩=some (.iface u v)->Value.okWide P W .any 0 u v
def Qg(nm:String)(text:List UInt8):DataW Unit:=.iface nm (.ptr (.agg [.lit (.string text)]))
structure ph(P:Program)(nm:String)(ti tp:TypeId):Prop where
 all:∃te ts ms f,P.underlying ti=some (.interface ms)/\(∀u,P.typeName? 3 u=some nm->u=tp)/\P.underlying tp=some (.pointer te)/\P.underlying te=some (.struct #[f])/\f.type=ts/\f.offset=0/\P.underlying ts=some .string/\P.cellsOf te=1/\P.cellsOf ts=1
def qG{W:World}{r:List (String×DataW Unit)}{b:List MemPlace}(T:ph P nm ti tp)(h:DataW.LaidVars P W ((n,Qg nm text)::r) b)(l:Zg P W b)(hg:P.globalNamed n=some g)(z:(P.globals[g]?).map (·.type)=some ti):∃a q,W.var? P n=some #[.iface tp (.pointer (some a))]/\DataW.LaidVars P W r q/\b=[.cell g 0,.cell a.block a.off]++q:=by
 obtain⟨te,ts,ms,f,hi,y,hp,he,s,p,hs,hc,m⟩:=T.all;obtain⟨F,L,k,E,J,D,d,A,i,o,x,c⟩:=h;obtain rfl:=Option.some.inj (hg.symm.trans d);obtain rfl:=Option.some.inj (z.symm.trans A);obtain⟨B⟩:=k;have C:∀u v,B=[.iface u v]->Value.okWide P W .any 0 u v:=λu v e=>by
  subst e;exact(l g 0 (by rw[c];simp[MemPlace.row])).2 u v (by simpa using World.var?_cell d i 0)
 obtain⟨j,K,rfl,G,H,I,t⟩:=errorString_of_trod hi y hp he s p hs hc m o C;refine⟨j,D,i,x,?_⟩;rw[c,t];simp[MemPlace.row]
def fU{W:World}(T:ph P nm ti tp)(hg:P.globalNamed n=some g)(c:(P.globals[g]?).map (·.type)=some ti):∀{l:List (String×DataW Unit)} {ps:List MemPlace},DataW.LaidVars P W l ps->Zg P W ps->(n,Qg nm text)∈l->
  ∃a,W.var? P n=some #[.iface tp (.pointer (some a))]/\.cell a.block a.off∈ps
 | [],_,_,_,hm=>by cases hm
 |(n',d')::r,ps,h,hR,hm=>by
  rcases ao_.1 hm with e|hm
  .cases e;obtain⟨a,q,hv,_,rfl⟩:=qG T h hR hg c;exact⟨a,hv,by simp⟩
  .obtain⟨k,p,i,j,m,o,_,_,_,_,f,rfl⟩:=h;obtain⟨a,hv,d⟩:=fU T hg c f (λb off hb=>hR b off (by simp[hb])) hm;exact⟨a,hv,by simp[d]⟩
def bM{W:World}(T:ph P nm ti tp){m:String}(y:n≠m){z:List UInt8}{g':Nat}(hg:P.globalNamed n=some g)(u:(P.globals[g]?).map (·.type)=some ti)(s:P.globalNamed m=some g')(v:(P.globals[g']?).map (·.type)=some ti){a i:Addr}(ha:W.var? P n=some #[.iface tp (.pointer (some a))])(p:W.var? P m=some #[.iface tp (.pointer (some i))]):∀{l:List (String×DataW Unit)} {ps:List MemPlace},DataW.LaidVars P W l ps->Zg P W ps->ps.Nodup->(n,Qg nm text)∈l->(m,Qg nm z)∈l->a≠i
 | [],_,_,_,_,hm,_=>by cases hm
 |(n',d')::r,ps,h,hR,hn,hm,c=>by
  rcases ao_.1 hm with e|hr
  .cases e;rcases ao_.1 c with e'|c
   .cases e';exact absurd rfl y
   .obtain⟨b,q,hv,d,rfl⟩:=qG T h hR hg u;obtain⟨j,f,t⟩:=fU T s v d (λx off hb=>hR x off (by simp[hb])) c;rw[ha]at hv;rw[p]at f;have k:a=b:=by simpa using hv
    have o:i=j:=by simpa using f
    subst k;subst o;rintro rfl;simp[t]at hn
  .rcases ao_.1 c with e'|c
   .cases e';obtain⟨b,q,hv,d,rfl⟩:=qG T h hR s v;obtain⟨j,f,t⟩:=fU T hg u d (λx off hb=>hR x off (by simp[hb])) hr;rw[p]at hv;rw[ha]at f;have k:i=b:=by simpa using hv
    have o:a=j:=by simpa using f
    subst k;subst o;rintro rfl;simp[t]at hn
   .obtain⟨C,F,A,B,D,E,_,_,_,_,d,rfl⟩:=h;exact bM T y hg u s v ha p d (λb off hb=>hR b off (by simp[hb])) (List.Nodup.sublist (List.sublist_append_right _ _) hn) hr c
open Go.ChangeShapes Go.WideShapes Go.ChangeAt
def zU:List (String×DataW Unit):=Rows.checksRow.laid
def mK:(zU.filter λx=>x.2.handleName?.isNone)=zU:=K_
def fB:(zU.filter λx=>x.2.handleName?.isSome)=[]:=K_
def tF(os:Os):((World.holding prog os ⟨#[],#[],[]⟩).layVars prog zU).os=os:=World.layVars_os _ _ _
def mG(os:Os):(World.holding prog os ⟨#[],#[],[]⟩).layFits prog zU []=true:=by kernel_rfl
def pN(os:Os):(World.holding prog os ⟨#[],#[],[]⟩).layIfaces prog zU ((World.holding prog os ⟨#[],#[],[]⟩).layVars prog zU)=true:=by kernel_rfl
def lq(os:Os)(b:Array Value):laidMetH prog zU (((World.holding prog os ⟨#[],#[],[]⟩).layVars prog zU).forCall (λ_ _=>0) ⟨#[],b,[]⟩).memory:=by
 have a:(zU.filter λx=>(zU.map (·.1)).contains x.1)=zU:=List.filter_eq_self.2 λx hx=>List.contains_iff_mem.2 (ay_.2 ⟨x,hx,rfl⟩);have c:(zU.filter λx=>!(zU.map (·.1)).contains x.1)=[]:=List.filter_eq_nil_iff.2 λx hx=>by rw[List.contains_iff_mem.2 (ay_.2 ⟨x,hx,rfl⟩)];simp
 have h:laidMet prog zU ((World.holding prog os ⟨#[],#[],[]⟩).layVars prog zU):=laidMet_layVars (w0:=World.holding prog os ⟨#[],#[],[]⟩) (zU.map (·.1)) [] (by rw[a]) (by rw[a];exact mG os) (by rw[a];exact pN os) (by rw[c];exact LaidIn.none);refine laidMetH_of_parts ?_ ?_
 .rw[mK];exact h.of_heap (by simp[World.memory,World.forCall,Input.heap])
 .rw[fB];rfl
def pR(os:Os)(a:Array Value):(((World.holding prog os ⟨#[],#[],[]⟩).layVars prog zU).forCall (λ_ _=>0) ⟨#[],a,[]⟩).Shaped prog:=World.shaped_of_ZipB K_ K_
def sg: "*" ++ "errors.errorString" = "*errors.errorString":=D_
def Wl(u:TypeId)(h:Tryz.prog.typeName? 3 u=some "*errors.errorString"):u=383:=
 typeName_ptr_named (nm:= "errors.errorString") (by rw[sg];kernel_rfl) K_ D_ u (by rw[sg];exact h)
def ep:ph prog "*errors.errorString" 32 383:=
 ⟨⟨_,_,_,_,underlying32,Wl,underlying383,underlying385,rfl,rfl,underlying9,K_,K_⟩⟩
def yN:List (Nat×String×Nat):=[(7,"kin/schemas.ErrLong",9),(0,"kin/schemas.ErrGrammar",10),(1,"kin/schemas.ErrName",11),(2,"kin/schemas.ErrUnion",12),(3,"kin/notation.ErrNotOf",8),(4,"kin/wire.ErrData",14),(5,"kin/data.ErrBig",6),(6,"kin/reading.ErrNothing",15),(8,"kin/notation.ErrLong",7),(9,"kin/wire.ErrLong",13),(15,"strconv.ErrRange",4),(14,"strconv.ErrSyntax",5)]
def jh:∀x∈yN,Tryz.prog.globalNamed x.2.1=some x.1:=by
 intro x hx;simp only[yN,ao_,List.mem_nil_iff,or_false]at hx;rcases hx with rfl|rfl|rfl|rfl|rfl|rfl|rfl|rfl|rfl|rfl|rfl|rfl<;>kernel_rfl
def gG:∀x∈yN,(Tryz.prog.globals[x.1]?).map (·.type)=some 32:=by
 intro x hx;simp only[yN,ao_,List.mem_nil_iff,or_false]at hx;rcases hx with rfl|rfl|rfl|rfl|rfl|rfl|rfl|rfl|rfl|rfl|rfl|rfl<;>kernel_rfl
def gF:∀x∈yN,∃text,(x.2.1,Qg "*errors.errorString" text)∈zU:=by
 intro x hx;simp only[yN,ao_,List.mem_nil_iff,or_false]at hx;rcases hx with rfl|rfl|rfl|rfl|rfl|rfl|rfl|rfl|rfl|rfl|rfl|rfl<;>first
  |exact⟨_,aj_ (i:=4) rfl⟩|exact⟨_,aj_ (i:=5) rfl⟩|exact⟨_,aj_ (i:=6) rfl⟩|exact⟨_,aj_ (i:=7) rfl⟩|exact⟨_,aj_ (i:=8) rfl⟩|exact⟨_,aj_ (i:=9) rfl⟩|exact⟨_,aj_ (i:=10) rfl⟩|exact⟨_,aj_ (i:=11) rfl⟩|exact⟨_,aj_ (i:=12) rfl⟩|exact⟨_,aj_ (i:=13) rfl⟩|exact⟨_,aj_ (i:=14) rfl⟩|exact⟨_,aj_ (i:=15) rfl⟩
def tO:∀x∈yN,∀y∈yN,x.1=y.1->x.2.1=y.2.1:=D_
section
variable {W:World}
def tA(h:laidMet prog zU W):∃A:Nat->Addr,(∀x∈yN,W.var? prog x.2.1=some #[.iface 383 (.pointer (some (A x.1)))])/\(∀x∈yN,∃c t,W.heap[(A x.1).block]?=some (.cells c t (0,0)))/\
 ∀x∈yN,∀y∈yN,x.1≠y.1->A x.1≠A y.1:=by
 obtain⟨f,hv,l,d⟩:=h;have i:∀x∈yN,∃a,W.var? prog x.2.1=some #[.iface 383 (.pointer (some a))]/\.cell a.block a.off∈f:=λx hx=>by
  obtain⟨text,hm⟩:=gF x hx;exact fU ep (jh x hx) (gG x hx) hv d hm
 have b:∀g:Nat,∃a:Addr,∀x∈yN,x.1=g->W.var? prog x.2.1=some #[.iface 383 (.pointer (some a))]/\.cell a.block a.off∈f:=λg=>by
  by_cases hg:∃x∈yN,x.1=g
  .obtain⟨x,hx,rfl⟩:=hg;obtain⟨a,ha⟩:=i x hx;refine⟨a,λy hy e=>?_⟩;have:y.2.1=x.2.1:=tO y hy x hx e;rw[this];exact ha
  .exact⟨⟨0,0,none⟩,λx hx e=>absurd ⟨x,hx,e⟩ hg⟩
 refine⟨λg=>Classical.choose (b g),λx hx=>(Classical.choose_spec (b x.1) x hx rfl).1,λx hx=>(d _ _ (Classical.choose_spec (b x.1) x hx rfl).2).1,λx hx y hy m=>?_⟩;obtain⟨o,j⟩:=gF x hx;obtain⟨p,k⟩:=gF y hy;refine bM ep (λe=>m ?_) (jh x hx) (gG x hx) (jh y hy) (gG y hy) (Classical.choose_spec (b x.1) x hx rfl).1 (Classical.choose_spec (b y.1) y hy rfl).1 hv d l j k;have h1:=jh x hx;rw[e,jh y hy]at h1;exact(Option.some.inj h1).symm
def gg(h:laidMet prog zU W):Lib.TabIs prog W "internal/strconv.uint64pow10" .u64 Lib.pow10Tab:=by
 have e:(Rows.laid_internal_strconv_uint64pow10:DataW Unit)=Lib.tabData .u64 Lib.pow10Tab:=K_
 have a:laidMet prog (("internal/strconv.uint64pow10",Rows.laid_internal_strconv_uint64pow10)::zU.drop 3) W:=h.tail.tail
 rw[e]at a;exact Lib.tabIs_of_head (g:=10) (t:=341) (e:=287) (n:=20) K_ K_ K_ K_ K_ K_ a
def dr(h:laidMet prog zU W):Lib.Utf8Tabs 16 17 W:=by
 have e:Rows.laid_unicode_utf8_acceptRanges=Lib.acceptData:=K_
 have h1:=Lib.laidMet.reads h (n:= "unicode/utf8.first") (d:=Pinned.utf8First) (aj_ (i:=21) rfl)
 have a:=Lib.laidMet.reads h (n:= "unicode/utf8.acceptRanges") (d:=Rows.laid_unicode_utf8_acceptRanges) (aj_ (i:=3) rfl)
 rw[Pinned.utf8First_eq]at h1;rw[e]at a;exact utf8Tabs_of_reads (ρ:=Tryz.lays177_ren) { Tryz.lays177 with } ⟨K_,K_,K_,K_,K_,K_,K_⟩ h1 a
def cS(h:laidMet prog zU W):Lib.PrintTabsAt 18 19 20 21 Lib.goPrintTabs W:=by
 have h1:=Lib.laidMet.reads h (n:= "strconv.isPrint16") (d:=Pinned.isPrint16) (aj_ (i:=19) rfl)
 have a:=Lib.laidMet.reads h (n:= "strconv.isNotPrint16") (d:=Pinned.isNotPrint16) (aj_ (i:=17) rfl)
 have b:=Lib.laidMet.reads h (n:= "strconv.isPrint32") (d:=Pinned.isPrint32) (aj_ (i:=20) rfl)
 have c:=Lib.laidMet.reads h (n:= "strconv.isNotPrint32") (d:=Pinned.isNotPrint32) (aj_ (i:=18) rfl)
 rw[Pinned.isPrint16_eq]at h1;rw[Pinned.isNotPrint16_eq]at a;rw[Pinned.isPrint32_eq]at b;rw[Pinned.isNotPrint32_eq]at c;exact printTabs_of_reads (ρ:=Tryz.lays177_ren) { Tryz.lays177 with } ⟨K_,K_,K_,K_,K_,K_,K_,K_,K_,K_⟩ h1 a b c
def ou(h:laidMetH prog zU W):laidMet prog zU W:=by
 unfold laidMetH at h;rw[mK,fB]at h;exact h
def VX{v:Value}(hg:Tryz.prog.globalNamed n=some g)(h:W.var? prog n=some #[v]):W.cell? ⟨g,0,none⟩=some v:=by simpa using World.var?_cell hg h 0
end
def Tryz.own:ownKnob Tryz.prog.godebug=none:=K_
def qn:∀g∈gA,∃x∈yN,x.1=g:=D_
def oc{W:World}(h:laidMetH prog zU W):∃A,xh A W/\yO W/\yA W/\vh W/\Lib.TabIs prog W "internal/strconv.uint64pow10" .u64 Lib.pow10Tab:=by
 have a:=ou h;obtain⟨A,hv,hr,d⟩:=tA a;have S:xh A W:=by
  refine⟨λg hg=>?_,λg hg=>?_,λg hg g' c e=>?_⟩
  .obtain⟨x,hx,rfl⟩:=qn g hg;exact VX (jh x hx) (hv x hx)
  .obtain⟨x,hx,rfl⟩:=qn g hg;exact hr x hx
  .obtain⟨x,hx,rfl⟩:=qn g hg;obtain⟨y,hy,rfl⟩:=qn g' c;exact d x hx y hy e
 have h1:=hv (14,"strconv.ErrSyntax",5) D_
 have b:=hv (15,"strconv.ErrRange",4) D_
 exact⟨A,S,Wg (gg a),Jv (cS a) (dr a),sC h1 b,gg a⟩
def Fr.kept{W W':World}(h:Fr W W' N_):Below W.heap.size W W':=⟨h.os,h.tape,h.output,h.size,λk hk=>h.block k hk id⟩
open Go.ChangeMaps (open_string shut_string)
def GH:∀n,n<10->∀k,k<n->97<=bt ⟨(Lib.repeatL [97] n).toArray⟩ k/\bt ⟨(Lib.repeatL [97] n).toArray⟩ k<=122:=D_
def GL:jM:=λW n hn=>by
 apply(Tryz.strings_Repeat ⟨#[97]⟩ n W M_ (by show 1*n<=_;omega)).mono;rintro e w' ⟨rfl,hb⟩;have hz:(⟨(Lib.repeatL [97] n).toArray⟩:BA).size=n:=by
  show(Lib.repeatL [97] n).toArray.size=n;rw[List.size_toArray,Lib.repeatL_length];simp
 exact⟨_,rfl,Fr.ofBelow hb,hz,λk hk=>GH n M_ k (by have e:k<(⟨(Lib.repeatL [97] n).toArray⟩:BA).size:=hk;rw[hz]at e;exact e)⟩
def eV{W:World}(s d:BA)(h:laidMetH prog Rows.checksRow.laid W):Calls prog 3 #[.string s,.string d] W λe w'=>e=.returned (.bool true)/\Fr W w' N_:=by
 obtain⟨A,S,a,hQ,hP,b⟩:=oc h;exact oO ⟨S,a,hQ,hP,Vw b⟩ GL
def lX(os:Os)(x:os.Started)(k:Type)(enc:TypeId×Value->k):ReturnsInHanded {} Tryz.checked os 3 .any (λw a=>(Rows.checksSpec.pre enc prog Tryz.f3 [] false w a/\laidMetH prog Rows.checksRow.laid w)/\sizedMet enc prog Tryz.f3 (OpenSpec.ofChange Rows.checksSpec) false w a)
  (Rows.checksSpec.post enc prog Tryz.f3 false true false false):=by
 refine returnsInHanded_of_change_and (C:=Tryz.checked) (X:=λw _=>laidMetH prog Rows.checksRow.laid w) (λ_ _ _ r h=>laidMetH.of_heap r h) Tryz.own x K_ func3
  (ChangeSpec.witness_shaped (enc:=enc) (C:=Tryz.checked) (os:=os) (X:=λw _=>laidMetH prog Rows.checksRow.laid w) false ((World.holding prog os ⟨#[],#[],[]⟩).layVars prog zU) #[.string ⟨#[]⟩,.string ⟨#[]⟩] 8 (tF os)
   (pR os _) K_ K_ K_ (lq os _)) ?_
 intro W base a ds D B u f _ _ m _;have b:∀(j:Nat) t v,Tryz.f3.params[j]?=some t->a[j]?=some v->Value.okWide prog W .any base t v:=u;have i:=f;obtain⟨p,q,l,o,rfl,_,_⟩:=f;have c:DataW.TrodAll enc prog W 0 (λ_=>true) true Tryz.f3.params.toList a.toList ds p:=l;rw[Tryz.params3]at c b;obtain⟨y,z,d0,d1,E,F,rfl,rfl,rfl,h0,h1⟩:=trodAll_two c;obtain⟨rfl,rfl⟩:=trodVars_none o;obtain⟨s,rfl,rfl,rfl,ws⟩:=open_string underlying9 (b 0 9 y rfl rfl) h0;obtain⟨d,rfl,rfl,rfl,A⟩:=open_string underlying9 (b 1 9 z rfl rfl) h1;simp only[b3_]at i;refine(eV s d m).mono λe W' ⟨he,hf⟩=>?_;subst he;exact⟨_,rfl,_,_,_,[],[],[],i,trodAll_mk1 (shut_bool underlying4 _),trodAll_mk2 (shut_string underlying9 ws) (shut_string underlying9 A),rfl,hf.kept.frame _,λh=>by cases h⟩
def lV:joinedFacts prog 3 Tryz.f3 Rows.checksSpec Rows.checksRow=true:=by
 unfold joinedFacts;simp only[ax_]
 repeat' apply And.intro
 .as_aux_lemma=>kernel_rfl
 .as_aux_lemma=>kernel_rfl
 .as_aux_lemma=>kernel_rfl
 .as_aux_lemma=>kernel_rfl
 .as_aux_lemma=>kernel_rfl
 .as_aux_lemma=>kernel_rfl
 .as_aux_lemma=>kernel_rfl
 .as_aux_lemma=>kernel_rfl
 .as_aux_lemma=>kernel_rfl
 .as_aux_lemma=>kernel_rfl
 .as_aux_lemma=>kernel_rfl
 .as_aux_lemma=>kernel_rfl
 .as_aux_lemma=>kernel_rfl
 .as_aux_lemma=>kernel_rfl
 .as_aux_lemma=>kernel_rfl
 .as_aux_lemma=>kernel_rfl
 .as_aux_lemma=>kernel_rfl
 .as_aux_lemma=>kernel_rfl
 .as_aux_lemma=>kernel_rfl
 .as_aux_lemma=>kernel_rfl
 .as_aux_lemma=>kernel_rfl
 .as_aux_lemma=>kernel_rfl
 .as_aux_lemma=>kernel_rfl
 .as_aux_lemma=>kernel_rfl
 .as_aux_lemma=>kernel_rfl
 .as_aux_lemma=>kernel_rfl
 .as_aux_lemma=>kernel_rfl
 .as_aux_lemma=>kernel_rfl
 .as_aux_lemma=>kernel_rfl
 .as_aux_lemma=>kernel_rfl
 .as_aux_lemma=>kernel_rfl
 .as_aux_lemma=>kernel_rfl
def ni:Tryz.prog.funcNamed Rows.checksRow.func=some 3:=K_
def eJ:Tryz.f3.isInstance prog Rows.checksRow.origin Rows.checksRow.targs:=of_decide_eq_true K_
def eX:Tryz.f3.isWrapper prog Rows.checksRow.wrapper Rows.checksRow.mainSum:=by unfold Func.isWrapper;rw[n_ (of_decide_eq_false K_)];exact⟨rfl,rfl⟩
def na:Rows.ChecksSaid:=
 OpenClaim.holds_of_wide 3 Tryz.f3 rfl rfl rfl rfl rfl rfl rfl ⟨rfl,rfl,rfl,rfl,rfl⟩ rfl rfl rfl rfl rfl ni func3 lV eJ eX
  (λos b a enc _=>lX os b a enc)
open Go
theorem checks_card:Rows.ChecksCardSaid:=
 Claim7.holds_tied_plain_at .later [] Rows.checksCard.laidKinds true Rows.checksCard.stood.harness true
  na (λ_ h=>by cases h) K_ (λ_ h=>by cases h) checks_row_tie rfl ⟨rfl,rfl⟩ K_ rfl
  (λf b hf d=>by
   obtain rfl:f=3:=Option.some.inj ((show Tryz.prog.funcNamed "kin/kinlaw.Checks" = some 3 by kernel_rfl).symm.trans hf) |>.symm
   obtain rfl:b=Tryz.f3:=(Option.some.inj (func3.symm.trans d)).symm
   exact⟨K_,λj t a=>by
    rw[Tryz.params3]at a
    have c:t=9:=by
     rcases j with _|_|j
     .simpa using a.symm
     .simpa using a.symm
     .simp at a
    subst c
    exact(show Tryz.prog.wantsStandIn 9=false by kernel_rfl)⟩)
  K_
end Go.Proofs.YtjkiencmjggakaaGreatDoor
