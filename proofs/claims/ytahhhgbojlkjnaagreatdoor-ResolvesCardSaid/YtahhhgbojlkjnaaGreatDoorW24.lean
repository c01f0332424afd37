import Derived.Test.YtahhhgbojlkjnaaGreatDoorW23
import Derived.LaidEql
import Derived.Stop.Asserts
set_option maxHeartbeats 16000000
set_option maxRecDepth 100000
set_option linter.defProp false
set_option linter.unusedSimpArgs false
set_option linter.unusedVariables false
open Go.Proofs.Tryz
namespace Go.Proofs.YtahhhgbojlkjnaaGreatDoor
open Go.RowKit
variable {j lo c:Nat}{ev v:Ax}{keyed:Ap}{W w':Aw}{a:Addr}
def yk.pre2{env:Ay}{t:PT}{w w1:Aw}{sv rv:Ax}{s:BA}{E:jJ}{br:Nat}{res:Except Nat (DT×Nat×Nat)}{e:Ah}(hf:Fr w w1 (· = br))(h:yk env t w1 sv rv s E br res e w'):yk env t w sv rv s E br res e w':=by
 have cc1:=Nat
 exact cq35_
section
variable {w0:Aw} {P:Au} {ss:BA} {ds:Ar} {sv rv:Ax} {xs:Az} {s:BA} {E:jJ} {br i n:Nat} {f p:Nat} {t:PT}
def Wi(l:n<300->dB w0 P ss ds sv rv xs s E br f t i (n+1)):rF w0 P ss ds sv rv xs s E br (f+1) t i n:=by
 intro w v M hn h;refine hq_ λr d=>?_;rw[Jw]at d;have c4:=M.R.c4;have f4:=M.R.th 4;obtain⟨r,r,rfl⟩:=h.iface;by_cases m:n=300
 .subst m;rw[i_ l_]at d;have hB:=M.big;have b:=zy M;go_in;go_wp2;go_quiet (fail);go_wp2;try go_ret
  rw[d.o];exact⟨_,_,rfl,(A_ w _).si (zw.drewN _ _),rfl,.base,i,300,b.o.R.si (zw.drewN _ _),b.o.il⟩
 .rw[n_ M_]at d;have m:((n:Int)==300)=false:=x4_
  have b:Fr w (w.setCell ⟨br,4,none⟩ (Z_ ((n:Int)+1))) (· = br):=(A_ w (· = br)).setCell _ _ (λ_=>rfl);have m:=M.call M.R.node b M.il;have r:=zy (l M_ _ _ m M_ (h.fr b (λg hg e=>M.brP (e▸hg))));replace b:=zy b;go_in;go_wp2_with (go_at_call 57;apply r.o.mono;intro e h u;obtain⟨x,q,rfl,k⟩:=u;replace k:=zy k);try go_ret
  rw[d.o];exact yk.pre2 b ⟨x,q,rfl,k⟩
def PV(r:jj ds)(y:uM (zx ds))(q:yV w0)(x:yJ w0):∀(f:Nat) (t:PT) (i n:Nat),okT (zx ds) t->xM t->n<=300->301<=f+n->rF w0 P ss ds sv rv xs s E br f t i n:=by
 intro f;induction f with
 |zero=>intro t i n _ _ h1 e;omega
 |succ f ih=>
  intro t i n b d hn hm;refine Wi (λm=>?_);have next:∀u,okT (zx ds) u->xM u->∀j nn,n+1<=nn->nn<=300->j<=s.size->rF w0 P ss ds sv rv xs s E br f u j nn:=λu hu m j nn h1 e B=>ih u j nn hu m e M_;cases t with
  |leaf c p=>
   unfold okT at b;rcases b with hb|⟨z,pb,he⟩
   .simp only[zY,av_,beq_iff_eq]at hb;rcases hb with(((rfl|rfl)|rfl)|rfl)|rfl
    .exact WU
    .exact WP
    .exact WL
    .exact WC
    .exact WB
   .obtain⟨e,m⟩:=r c pb he;refine QX z he ?_;cases pb with
    |recd fs=>exact Qc he e.2.1 e.1 (λg hg=>next g.ty (m g hg) ((y c fs he).2 g hg))
    |enum l o=>exact Ql he e.2.1 e.1
    |bytes k=>exact Vk m
  |wrap c p t=>
   unfold okT at b;unfold xM at d;rcases b.1 with rfl|rfl
   .exact FD q (next t b.2 d)
   .exact WG x (next t b.2 d)
  |alts p l=>
   unfold okT at b;unfold xM at d;exact FT q (by have:=d.1;omega) (λt h j e=>next t (xC b.2 t h).2 (wy d.2 t h) j (n+1) l_ M_ e)
end
def ZH(env:Ay)(t:PT)(w:Aw)(E:jJ)(res:Except Nat (DT×Nat×Nat))(e:Ah)(w':Aw):Prop:=
 ∃(v:Value) (k:Nat) (ev:Value),e=.returned (.tuple #[v,I_ k,ev])/\Fr w w' N_/\
 match res with
 | .ok (d,j,_)=>ev=.nilIface/\k=j/\DaV env w' (λg=>w.heap.size<=g) d t v
 | .error e0=>v=.nilIface/\k=0/\jp w' w.heap.size (E.t e0) (E.x e0) ev
def aD{w:Aw}{sa:Ao}{sn sc:Nat}{rT:As}{rx:Ax}{s:BA}{lt:As}{lx:Ax}(b:vt 7 w lt lx)(hs:4000<s.size):Calls prog 17 #[.agg #[.slice sa sn sc,.iface rT rx],.string s] w λe w'=>e=.returned (.tuple #[.nilIface,O_,.iface lt lx])/\Fr w w' N_:=by
 refine hq_ λd d=>?_;have A:Fr w (w.alloc (.cells #[.slice sa sn sc,.iface rT rx] 65)) N_:=(A_ w _).alloc _;have he:=b.fr A (λf=>f);unfold vt at he;have g:(4000:Int)<(s.size:Int):=M_;replace A:=zy A;go_in;go_wp2;go_quiet (fail);go_wp2;refine bodyPost_ret (v:=.tuple #[.nilIface,O_,.iface lt lx]) yt_ rfl ?_;rw[d.o];exact⟨rfl,A.o.si (zw.drewN _ _)⟩
def YW{w0 w:Aw}{P:Au}{ss:BA}{ds:Ar}{sv:Ax}{rT:As}{rx:Ax}{xs:Az}{s:BA}{E:jJ}{t:PT}(D:xf w P ss ds sv xs)(G:TyV w P t (.iface rT rx))(F:yt w0 w)(hk:w0.heap.size<=w.heap.size)(M:∀g,P g->g<w.heap.size)(E1:vt 4 w0 E.dt E.dx)(E2:vt 5 w0 E.bt E.bx)(hs:s.size<=4000)(S:okT (zx ds) t)(R:xM t)(Q:jj ds)(O:uM (zx ds))(L:yV w0)(N:yJ w0):Calls prog 17 #[.agg #[sv,.iface rT rx],.string s] w (ZH (zx ds) t w E (rdB s (zx ds) 301 t 0 0)):=by
 refine hq_ λz x=>?_;obtain⟨b,h,rfl⟩:=zh D.row;have A:Fr w ((w.alloc (.cells #[.slice b ds.length h,.iface rT rx] 65)).alloc (.cells #[.slice b ds.length h,.iface rT rx,.string s,O_,O_] 98)) N_:=((A_ w _).alloc _).alloc _;have H:(w.alloc (.cells #[.slice b ds.length h,.iface rT rx] 65)).heap.size=w.heap.size+1:=x8_
 have z:=B_ (w.alloc (.cells #[.slice b ds.length h,.iface rT rx] 65)) #[.slice b ds.length h,.iface rT rx,.string s,O_,O_] 98;rw[H]at z;have C:YC w0 P ss ds (.slice b ds.length h) (.iface rT rx) xs s E (w.heap.size+1) 0 0 ((w.alloc (.cells #[.slice b ds.length h,.iface rT rx] 65)).alloc (.cells #[.slice b ds.length h,.iface rT rx,.string s,O_,O_] 98)):=
  ⟨z,D.fr A u_,F.fr A hk (λg f=>f.elim),E1,E2,λg hg=>by have:=M g hg;omega,M_,M_,aj_ _⟩
 have k:=PV Q O L N 301 t 0 0 S R M_ M_ _ _ C M_ (G.fr A u_);have L:¬(4000:Int)<(s.size:Int):=M_;have hz:=zy (by simp:((w.alloc (.cells #[.slice b ds.length h,.iface rT rx] 65)).alloc (.cells #[.slice b ds.length h,.iface rT rx,.string s,O_,O_] 98)).heap.size=w.heap.size+2);replace A:=zy A;cases u:rdB s (zx ds) 301 t 0 0 with
 |error e0=>
  rw[u]at k x;replace k:=zy k;replace u:=zy u;go_in;go_wp2_with (go_at_call 33;apply k.o.mono;rintro e w1 ⟨T,J,rfl,l,B,y,r⟩;subst B;obtain⟨I,K,rfl⟩:=y.iface;replace l:=zy l;replace y:=zy y;replace r:=zy r);refine bodyPost_ret (v:=.tuple #[.nilIface,O_,.iface I K]) yt_ rfl ?_;rw[x.o];exact⟨_,0,_,rfl,A.o.trans l (λg hg e=>M_),rfl,rfl,y.o.ls z2_⟩
 |ok q=>
  obtain⟨d,j,m⟩:=q;rw[u]at k x;replace k:=zy k;replace u:=zy u;go_in;go_wp2_with (go_at_call 33;apply k.o.mono;rintro e w1 ⟨T,J,rfl,l,B,y,r,b⟩;subst B;obtain⟨I,dx,rfl⟩:=y.iface;have c3:=r.c3;replace l:=zy l;replace y:=zy y;replace r:=zy r);go_quiet (fail);go_wp2;refine bodyPost_ret (v:=.tuple #[.iface I dx,I_ j,.nilIface]) yt_ rfl ?_;rw[x.o];exact⟨_,j,_,rfl,(A.o.trans l (λg hg e=>M_)).si (zw.drewN _ _),rfl,rfl,(y.o.mono (λg _ hg=>by have:=hz.o;omega)).fr ((A_ _ N_).si (zw.drewN _ _)) u_⟩
open Go.Extern.Stop Go.Stop Go.Extern
def Qy(v:Ax)(w:Aw):(Extern.ReflectliteType.typeOf #[.iface 364 v]).run prog w=.ok (.iface 152 (.agg #[.pointer (some ⟨22,364,none⟩)])) w:=by kernel_rfl
def sR:∃M:Array Value->Sem Value,(∀(b:Array Value) (w:World),(callFunc 248 b).run prog w=((M b).run prog w).andThen λv w'=>.ok (.value v) w')/\∀w,(M #[.agg #[.pointer (some ⟨22,364,none⟩)]]).run prog w=.ok (.bool true) w:=
 ⟨Extern.ReflectliteType.method λt=>do Go.Extern.Rtype.noPackHeld "Comparable" t;pure (.bool (<- typeInfo t).comparable),@run_callFunc_extern prog 248 _ (Extern.ReflectliteType.method λt=>do Go.Extern.Rtype.noPackHeld "Comparable" t;pure (.bool (<- typeInfo t).comparable)) func248 K_ K_ K_ K_,λw=>K_⟩
def pf(v:Ax)(w:Aw):(Go.method 496 152 v "Comparable").run prog w=.ok (248,v) w:=by kernel_rfl
def FW:(Tryz.prog.info? 364).map (·.comparable)=some true:=K_
def FK:(Tryz.prog.info? 366).map (·.size)=some 1:=K_
def PR(v:Ax)(b:As)(w:Aw):(Instr.typeAssert (.iface 364 v) b 154 true).run prog w=.ok (.tuple #[.nilIface,.bool false]) w:=run_typeAssert_lacksB underlying154 K_ K_ v b w
def Xn(v:Ax)(b:As)(w:Aw):(Instr.typeAssert (.iface 364 v) b 156 true).run prog w=.ok (.tuple #[.nilIface,.bool false]) w:=run_typeAssert_lacksB underlying156 K_ K_ v b w
def oS(v:Ax)(b:As)(w:Aw):(Instr.typeAssert (.iface 364 v) b 158 true).run prog w=.ok (.tuple #[.nilIface,.bool false]) w:=run_typeAssert_lacksB underlying158 K_ K_ v b w
def PH(v:Ax)(b:As)(w:Aw):(Instr.typeAssert (.iface 175 v) b 154 true).run prog w=.ok (.tuple #[.nilIface,.bool false]) w:=run_typeAssert_lacksB underlying154 K_ K_ v b w
def Zr(v:Ax)(b:As)(w:Aw):(Instr.typeAssert (.iface 175 v) b 156 true).run prog w=.ok (.tuple #[.iface 175 v,.bool true]) w:=run_typeAssert_hasB underlying156 K_ v b w
def dr(v:Ax)(w:Aw):(Go.method 496 175 v "Unwrap").run prog w=.ok (258,v) w:=by kernel_rfl
def PL(v:Ax)(b:As)(w:Aw):(Instr.typeAssert (.iface 291 v) b 154 true).run prog w=.ok (.tuple #[.nilIface,.bool false]) w:=run_typeAssert_lacksB underlying154 K_ K_ v b w
def Zh(v:Ax)(b:As)(w:Aw):(Instr.typeAssert (.iface 291 v) b 156 true).run prog w=.ok (.tuple #[.iface 291 v,.bool true]) w:=run_typeAssert_hasB underlying156 K_ v b w
def dh(v:Ax)(w:Aw):(Go.method 496 291 v "Unwrap").run prog w=.ok (279,v) w:=by kernel_rfl
inductive xE (W:Aw) (a:Addr):Nat->Value->Prop
 |leaf:xE W a 0 (.iface 364 (.pointer (some a)))
 |fault (g:Nat) (p:Int) (v:Value) (n:Nat) (hb:Blk W g [.int .i64 p,v] 177) (h:xE W a n v):xE W a (n+1) (.iface 175 (P_ g))
 |within (g:Nat) (tx:BA) (v:Value) (n:Nat) (hb:Blk W g [.string tx,v] 293) (h:xE W a n v):xE W a (n+1) (.iface 291 (P_ g))
def xE.iface{n:Nat}(h:xE W a n v):∃T x,v=.iface T x:=by
 cases h<;>exact⟨_,_,rfl⟩
def Wc{b:Addr}{l y:Ci}{ta tb:As}(ha:W.heap[a.block]?=some (.cells l ta (0,0)))(hb:W.heap[b.block]?=some (.cells y tb (0,0))){n:Nat}{E:Ax}(l:xE W a n E):Calls prog 38 #[E,.iface 364 (.pointer (some b)),.bool true] W λe w'=>e=.returned (.bool (decide (a=b)))/\w'=W:=by
 refine hq_ λy h=>?_;obtain⟨i,r,q⟩:=b9_.1 FW;obtain⟨j,u,B⟩:=b9_.1 FK;have y:=PR;have y:=Xn;have y:=oS;have y:=PH;have y:=Zr;have y:=dr;have y:=PL;have y:=Zh;have y:=dh;have x:H_ (∃k,k<n+1/\xE W a k E):=zy ⟨n,M_,l⟩;go_in;go_wp2;go_loopg [0] (n+1) (λm v l=>∃k,k<m/\xE W a k v/\l=W);case atStart=>(obtain⟨k,h1,l⟩:=x.o;exact⟨k,h1,l,rfl⟩)
 case round=>
  obtain⟨k,hk,hc,rfl⟩:=hrel;cases hc with
  |leaf=>
   by_cases d:a=b
   .subst d;have z:=run_eql_iface_ptr_same (P:=prog) wr a underlying45 underlying364 r q u;go_wp2;rw[h.o];exact⟨by simp,rfl⟩
   .have z:=run_eql_iface_ptr_other (P:=prog) wr underlying45 underlying364 r q u (by rw[B];decide) d ha hb;go_wp2;rw[h.o];exact⟨by simp[d],rfl⟩
  |fault g p v k' hB h1=>
   have z:=run_eql_iface_types (P:=prog) 175 364 (P_ g) (.pointer (some b)) underlying45 D_ wr;obtain⟨d,C,rfl⟩:=h1.iface;have c1:=hB.c1;replace h1:=zy h1;go_wp2;go_roundg (k'+1);case measure=>omega
   case rel=>exact⟨k',M_,h1,rfl⟩
  |within g tx v k' hB h1=>
   have z:=run_eql_iface_types (P:=prog) 291 364 (P_ g) (.pointer (some b)) underlying45 D_ wr;obtain⟨d,C,rfl⟩:=h1.iface;have c1:=hB.c1;replace h1:=zy h1;go_wp2;go_roundg (k'+1);case measure=>omega
   case rel=>exact⟨k',M_,h1,rfl⟩
def Wr{b:Addr}{g h:Ci}{ta tb:As}(ha:W.heap[a.block]?=some (.cells g ta (0,0)))(hb:W.heap[b.block]?=some (.cells h tb (0,0))){n:Nat}{E:Ax}(d:xE W a n E):Calls prog 22 #[E,.iface 364 (.pointer (some b))] W λe w'=>e=.returned (.bool (decide (a=b)))/\w'=W:=by
 have k:=zy (Wc ha hb d);obtain⟨g,g,rfl⟩:=d.iface;have d:=@run_callFunc_extern prog 37 _ Extern.ReflectliteType.typeOf func37 K_ K_ K_ K_;have d:=Qy;obtain⟨d,d,d⟩:=sR;have d:=pf;go_in;go_wp2_with (go_at_call 38;apply k.o.mono;rintro e w' ⟨rfl,rfl⟩);go_ret;exact⟨rfl,rfl⟩
def Yl(b:Addr)(w:Aw):Calls prog 22 #[.nilIface,.iface 364 (.pointer (some b))] w λe w'=>e=.returned (.bool false)/\w'=w:=by
 have hn:=run_eql_iface_nil_left (P:=prog) w 364 (.pointer (some b)) underlying45;go_in;go_wp2;go_ret;exact⟨rfl,rfl⟩
def pS:List Nat:=[8,0,1,2,3,4,5,6,9,7]
structure xg(A:Cs)(w:Aw):Prop where
 var:∀g∈pS,vt g w 364 (.pointer (some (A g)))
 row:∀g∈pS,∃c t,w.heap[(A g).block]?=some (.cells c t (0,0))
 ne:∀g∈pS,∀g'∈pS,g≠g'->A g≠A g'
def xg.fr{A:Cs}{w:Aw}(h:xg A w)(b:Fr w w' N_):xg A w':=by
 refine⟨λg hg=>(h.var g hg).fr b id,λg hg=>?_,h.ne⟩;obtain⟨c,t,hr⟩:=h.row g hg;have hl:(A g).block<w.heap.size:=by
  by_cases d:(A g).block<w.heap.size
  .exact d
  .rw[Array.getElem?_eq_none M_]at hr;cases hr
 exact⟨c,t,(b.block _ hl id).trans hr⟩
def Qp{A:Cs}{w:Aw}(S:xg A w){g b n:Nat}{E:Ax}(d:b∈pS)(hg:g∈pS)(h:xE w (A b) n E):Calls prog 22 #[E,.iface 364 (.pointer (some (A g)))] w λe w'=>e=.returned (.bool (decide (b=g)))/\w'=w:=by
 obtain⟨c,t,ha⟩:=S.row b d;obtain⟨k,t',hb⟩:=S.row g hg;apply(Wr ha hb h).mono;rintro e w' ⟨rfl,rfl⟩;refine⟨?_,rfl⟩;by_cases e:b=g
 .subst e;simp
 .simp[e,S.ne b d g hg e]
def Gc:List (Nat×Int):=[(8,1),(0,2),(1,3),(2,4),(3,5),(4,6),(5,7),(6,8),(9,1),(7,1)]
def vy{A:Cs}{w:Aw}(S:xg A w){b n:Nat}{k:Int}{E:Ax}(hp:(b,k)∈Gc)(d:b∈pS)(h:xE w (A b) n E):Calls prog 10 #[E] w λe w'=>e=.returned (Z_ k)/\w'=w:=by
 have l:=zy (λg (hg:g∈pS)=>Qp S d hg h);have V:=zy S.var;have v0:=V.o 8 D_;have b:=V.o 0 D_;have d:=V.o 1 D_;have m:=V.o 2 D_;have q:=V.o 3 D_;have r:=V.o 4 D_;have u:=V.o 5 D_;have x:=V.o 6 D_;have y:=V.o 9 D_;have z:=V.o 7 D_;unfold vt at v0 b d m q r u x y z;obtain⟨b,b,rfl⟩:=h.iface;simp only[Gc,aq_,ac_,bk_,or_false]at hp;rcases hp with⟨rfl,rfl⟩|⟨rfl,rfl⟩|⟨rfl,rfl⟩|⟨rfl,rfl⟩|⟨rfl,rfl⟩|⟨rfl,rfl⟩|⟨rfl,rfl⟩|⟨rfl,rfl⟩|⟨rfl,rfl⟩|⟨rfl,rfl⟩;all_goals
  go_in;go_wp2_with (first
   |(go_at_call 22;apply(l.o _ D_).mono;rintro e w' ⟨rfl,rfl⟩)
   |go_in)
  go_ret;exact⟨rfl,rfl⟩
section
variable {A:Cs} {w:Aw} {n:Nat} {E:Ax}
def wO(S:xg A w)(h:xE w (A 8) n E):Calls prog 10 #[E] w λe w'=>e=.returned (Z_ 1)/\w'=w:=vy S D_ D_ h
def kY(S:xg A w)(h:xE w (A 0) n E):Calls prog 10 #[E] w λe w'=>e=.returned (Z_ 2)/\w'=w:=vy S D_ D_ h
def wE(S:xg A w)(h:xE w (A 1) n E):Calls prog 10 #[E] w λe w'=>e=.returned (Z_ 3)/\w'=w:=vy S D_ D_ h
def wJ(S:xg A w)(h:xE w (A 2) n E):Calls prog 10 #[E] w λe w'=>e=.returned (Z_ 4)/\w'=w:=vy S D_ D_ h
def kT(S:xg A w)(h:xE w (A 3) n E):Calls prog 10 #[E] w λe w'=>e=.returned (Z_ 5)/\w'=w:=vy S D_ D_ h
def px(S:xg A w)(h:xE w (A 4) n E):Calls prog 10 #[E] w λe w'=>e=.returned (Z_ 6)/\w'=w:=vy S D_ D_ h
def km(S:xg A w)(h:xE w (A 5) n E):Calls prog 10 #[E] w λe w'=>e=.returned (Z_ 7)/\w'=w:=vy S D_ D_ h
def kX(S:xg A w)(h:xE w (A 6) n E):Calls prog 10 #[E] w λe w'=>e=.returned (Z_ 8)/\w'=w:=vy S D_ D_ h
def py(S:xg A w)(h:xE w (A 7) n E):Calls prog 10 #[E] w λe w'=>e=.returned (Z_ 1)/\w'=w:=vy S D_ D_ h
end
def gM{w:Aw}{P:Au}{d:DT}{bt:As}{bx:Ax}(h:kP w P d v)(hn:ndT d<=1000000000)(q:vt 5 w bt bx):Calls prog 19 #[v] w λe w'=>e=.returned (if ndT d > 300 then .iface bt bx else .nilIface)/\Fr w w' N_:=by
 refine hq_ λu g=>?_;have l:=zy (oN (ndT d) d l_ hn w P v h);obtain⟨T,x,rfl⟩:=h.iface;by_cases k:ndT d > 300
 .have m:(ndT d:Int) > 300:=M_;rw[i_ k]at g;go_in;go_wp2_with (go_at_call 35;apply l.o.mono;rintro e r ⟨rfl,b⟩;have h:=q.fr b id;unfold vt at h;replace b:=zy b);try go_ret
  rw[g.o];exact⟨rfl,b⟩
 .have m:¬(ndT d:Int) > 300:=M_;rw[n_ k]at g;go_in;go_wp2_with (go_at_call 35;apply l.o.mono;rintro e r ⟨rfl,b⟩;replace b:=zy b);try go_ret
  rw[g.o];exact⟨rfl,b⟩
def Zl{A:Cs}{w:Aw}(S:xg A w):Calls prog 21 #[.nilIface] w λe w'=>e=.returned (.bool false)/\w'=w:=by
 have d:=S.var 8 D_;have g:=S.var 9 D_;have h:=S.var 7 D_;unfold vt at d g h;have b:=Yl;go_in;go_wp2_with (go_at_call 22;apply(b _ _).mono;rintro e w' ⟨rfl,rfl⟩);try go_ret
 exact⟨rfl,rfl⟩
def oH{A:Cs}{w:Aw}(S:xg A w):Calls prog 10 #[.nilIface] w λe w'=>e=.returned (O_)/\w'=w:=by
 have g:=S.var 0 D_;have h:=S.var 1 D_;have k:=S.var 2 D_;have l:=S.var 3 D_;have m:=S.var 4 D_;have q:=S.var 5 D_;have r:=S.var 6 D_;unfold vt at g h k l m q r;have b:=Yl;have d:=zy (Zl S);go_in;go_wp2_with (first
  |(go_at_call 21;apply d.o.mono;rintro e w' ⟨rfl,rfl⟩)
  |(go_at_call 22;apply(b _ _).mono;rintro e w' ⟨rfl,rfl⟩))
 try go_ret
 exact⟨rfl,rfl⟩
def uC(A:Cs):dF:=
 ⟨364,.pointer (some (A 8)),364,.pointer (some (A 0)),364,.pointer (some (A 1)),364,.pointer (some (A 2)),364,.pointer (some (A 3))⟩
def xg.errs{A:Cs}{w:Aw}(S:xg A w):(uC A).At w:=
 ⟨S.var _ D_,S.var _ D_,S.var _ D_,S.var _ D_,S.var _ D_⟩
def jp.chain{A:Cs}{w:Aw}(h:jp w lo (uC A).nt (uC A).nx v):∃n,xE w (A 3) n v:=by
 induction h with
 |base=>exact⟨0,.leaf⟩
 |within g hg tx hb h b=>
  obtain⟨n,b⟩:=b;exact⟨n+1,.within g tx _ n hb b⟩
def jQ.fr{E:dF}{w:Aw}{a:Int×Int}(h:jQ E w lo ev a)(d:Fr w w' N_):jQ E w' lo ev a:=by
 rcases h with h|h|⟨h1,b⟩|⟨h1,b⟩|⟨h1,b⟩|⟨h1,e,b,g⟩
 .exact .inl h
 .exact .inr (.inl h)
 .exact .inr (.inr (.inl ⟨h1,b.fr d u_⟩))
 .exact .inr (.inr (.inr (.inl ⟨h1,b.fr d u_⟩)))
 .exact .inr (.inr (.inr (.inr (.inl ⟨h1,b.fr d u_⟩))))
 .exact .inr (.inr (.inr (.inr (.inr ⟨h1,e,b.fr d u_,g.fr d u_⟩))))
def jQ.zero{E:dF}{w:Aw}{a:Int×Int}(h:jQ E w lo ev a)(h0:a.1=0):a.2=0/\ev=.nilIface:=by
 rcases h with⟨_,b,d⟩|⟨h1,_⟩|⟨h1,_⟩|⟨h1,_⟩|⟨h1,_⟩|⟨h1,_⟩
 .exact⟨b,d⟩
 all_goals (rw[h1]at h0;exact absurd h0 D_)
def jQ.num{A:Cs}{w:Aw}{a:Int×Int}(S:xg A w)(h:jQ (uC A) w lo ev a)(h0:a.1≠0):∃T x,ev=.iface T x/\Calls prog 10 #[ev] w λe w'=>e=.returned (Z_ a.1)/\w'=w:=by
 have key:∀(v:Value) (p:Int) (k:Value),yq w lo v p k->∃T x,v=.iface T x:=λv p k ⟨g,_,h,_⟩=>⟨_,_,h⟩;have l:∀(v:Value) (p:Int) (k:Value) (b:Addr) (n:Nat),yq w lo v p k->xE w b n k->xE w b (n+1) v:=λv p k b n ⟨g,_,h,hb⟩ hc=>h▸.fault g p k n hb hc;rcases h with⟨h1,_⟩|⟨h1,d,m⟩|⟨h1,d⟩|⟨h1,d⟩|⟨h1,d⟩|⟨h1,k,d,m⟩
 .exact absurd h1 h0
 .refine⟨_,_,m,?_⟩;rw[h1,m];exact wO S .leaf
 .obtain⟨T,x,k⟩:=key _ _ _ d;refine⟨T,x,k,?_⟩;rw[h1];exact kY S (l _ _ _ _ _ d .leaf)
 .obtain⟨T,x,k⟩:=key _ _ _ d;refine⟨T,x,k,?_⟩;rw[h1];exact wE S (l _ _ _ _ _ d .leaf)
 .obtain⟨T,x,k⟩:=key _ _ _ d;refine⟨T,x,k,?_⟩;rw[h1];exact wJ S (l _ _ _ _ _ d .leaf)
 .obtain⟨T,x,k⟩:=key _ _ _ d;obtain⟨n,hc⟩:=m.chain;refine⟨T,x,k,?_⟩;rw[h1];exact kT S (l _ _ _ _ _ d hc)
mutual
def cW:∀t:PT,vo t->brT false t
 | .leaf _ _,_=>by unfold brT;trivial
 | .wrap _ _ t,h=>by unfold brT;unfold vo at h;exact cW t h
 | .alts _ l,h=>by unfold brT;unfold vo at h;exact⟨.inr h.1,aZ l h.2⟩
def aZ:∀l:List PT,(∀t∈l,vo t)->dW false l
 | [],_=>by unfold dW;trivial
 |t::r,h=>by unfold dW;exact⟨cW t (h t (bi_ ..)),aZ r (λu hu=>h u (cb_ _ hu))⟩
end
def ky{s:BA}(hs:s.size<=300){ds:Ar}{t:PT}(h:zQ s=.ok (ds,t))(hn:vf ds t=[])(hu:xH ds t=[]):jj ds/\brE false ds/\brT false t/\okT (zx ds) t/\jr (zx ds):=by
 obtain⟨b,d,_,_,_⟩:=jc h;rw[hn]at b;rw[hu]at d;have g:wrU (zx ds) (ja ds++zK t) (qp [] ds (-1))<0:=by rw[b];decide
 have hm:mix t (qt ds (-1))<0:=by rw[d];decide
 obtain⟨b,d,_,_⟩:=uu hs h g hm;have hg:=(mh hs h hn hu).1;refine⟨hg,λc fs e f g=>cW _ ((hg c _ e).1.2.2 f g),cW t (jh hs h).2.1,d,b⟩
def uq(w:Aw)(ev:Ax)(n:Int):Prop:=∀W,Fr w W N_->Calls prog 10 #[ev] W λe w'=>e=.returned (Z_ n)/\w'=W
def uq.fr{w:Aw}{n:Int}(h:uq w ev n)(d:Fr w W N_):uq W ev n:=λV b=>h V (d.trans b u_)
def jQ.numIs{A:Cs}{w:Aw}{a:Int×Int}(S:xg A w)(h:jQ (uC A) w lo ev a)(h0:a.1≠0):uq w ev a.1:=λW b=>by
 obtain⟨_,_,_,h⟩:=(h.fr b).num (S.fr b) h0;exact h
def Xa{A:Cs}{w:Aw}(S:xg A w):uq w .nilIface 0:=λ_ b=>oH (S.fr b)
def Kx(R:Nat->Nat->Except Nat (DT×Nat×Nat)):Prop:=∀i n e,R i n=.error e->e=6\/e=7
def rh{s:BA}{R:Nat->Nat->Except Nat (DT×Nat×Nat)}(d:Kx R):∀(c:Nat) (b:Option BA) (i n e:Nat),yS R s keyed c b i n=.error e->e=6\/e=7
 | 0,b,i,n,e,h=>by simp[yS]at h
 |c+1,b,i,n,e,h=>by
  unfold yS at h;split at h
  .cases h;exact .inl rfl
  .split at h
   .rename_i he;cases h;exact d _ _ _ he
   .split at h
    .rename_i he;cases h;exact rh d c _ _ _ _ he
    .cases h
def mC{R:PT->Nat->Nat->Except Nat (DT×Nat×Nat)}(b:∀t,Kx (R t)):∀(ts:List PT) (i n e:Nat),ym R ts i n=.error e->e=6\/e=7
 | [],i,n,e,h=>by simp[ym]at h
 |t::r,i,n,e,h=>by
  unfold ym at h;split at h
  .rename_i he;cases h;exact b _ _ _ _ he
  .split at h
   .rename_i he;cases h;exact mC b r _ _ _ he
   .cases h
def Yz(s:BA)(env:Ay):∀(f:Nat) (t:PT),Kx (rdB s env f t):=by
 intro f;induction f with
 |zero=>intro t i n e h;simp only[rdB]at h;cases h;exact .inr rfl
 |succ f ih=>
  intro t i n e h;unfold rdB at h;split at h
  .cases h;exact .inr rfl
  .split at h
   .unfold vO at h;split at h
    .cases h
    .split at h
     .split at h
      .cases h
      .cases h;exact .inl rfl
     .split at h
      .split at h
       .cases h;exact .inl rfl
       .cases h
      .split at h
       .split at h
        .cases h;exact .inl rfl
        .cases h
       .split at h
        .split at h
         .cases h;exact .inl rfl
         .cases h
        .split at h
         .cases h;exact .inl rfl
         .unfold yX at h;split at h
          .split at h
           .rename_i he;cases h;exact mC ih _ _ _ _ he
           .cases h
          .split at h
           .cases h;exact .inl rfl
           .cases h
          .split at h
           .cases h;exact .inl rfl
           .cases h
   .unfold qi at h;split at h
    .cases h;exact .inl rfl
    .split at h
     .rename_i he;cases h;exact rh (ih _) _ _ _ _ _ he
     .cases h
   .unfold vH at h;split at h
    .cases h;exact .inl rfl
    .split at h
     .cases h;exact .inl rfl
     .split at h
      .rename_i he;cases h;exact ih _ _ _ _ he
      .cases h
def aI(A:Cs):jJ:=⟨364,.pointer (some (A 4)),364,.pointer (some (A 5))⟩
def jp.chainOf{w:Aw}(h:jp w lo 364 (.pointer (some a)) v):∃n,xE w a n v:=by
 induction h with
 |base=>exact⟨0,.leaf⟩
 |within g hg tx hb h b=>
  obtain⟨n,b⟩:=b;exact⟨n+1,.within g tx _ n hb b⟩
def aS{A:Cs}{w:Aw}{e0:Nat}(S:xg A w)(he:e0=6\/e0=7)(h:jp w lo ((aI A).t e0) ((aI A).x e0) ev):uq w ev (e0:Int):=λW b=>by
 have d:=h.fr b u_;rcases he with rfl|rfl
 .obtain⟨n,hc⟩:=jp.chainOf d;exact px (S.fr b) hc
 .obtain⟨n,hc⟩:=jp.chainOf d;exact km (S.fr b) hc
mutual
def wv:∀t:PT,vo t->xM t
 | .leaf _ _,_=>by unfold xM;trivial
 | .wrap _ _ t,h=>by unfold xM;unfold vo at h;exact wv t h
 | .alts _ l,h=>by unfold xM;unfold vo at h;exact⟨h.1,tG l h.2⟩
def tG:∀l:List PT,(∀t∈l,vo t)->lA l
 | [],_=>by unfold lA;trivial
 |t::r,h=>by unfold lA;exact⟨wv t (h t (bi_ ..)),tG r (λu hu=>h u (cb_ _ hu))⟩
end
def cK{ds:Ar}(hg:jj ds):uM (zx ds):=λc _ e=>⟨(hg c _ e).1.1,λg b=>wv _ ((hg c _ e).1.2.2 g b)⟩
def gC(s:BA)(i:Nat):bt s i=(s.data.toList.getD i 0).toNat:=by
 unfold bt;rw[az_];split
 .rename_i h;have b:i<s.data.toList.length:=by rw[Array.length_toList];exact h
  rw[ak_ b];rfl
 .rename_i h;rw[bq_ (by rw[Array.length_toList];exact Nat.le_of_not_lt h)];rfl
def ZW(a b:BA)(k:Nat):bt (a++b) k=if k<a.size then bt a k else bt b (k-a.size):=by
 have e:(a++b).data.toList=a.data.toList++b.data.toList:=x8_
 have hl:a.data.toList.length=a.size:=Array.length_toList;rw[gC,e];split
 .rw[gC,az_,az_,ay_ M_]
 .rw[gC,az_,az_,ax_ M_,hl]
def At(s:BA)(i:Nat)(b:BA):Prop:=i+b.size<=s.size/\∀k,k<b.size->bt s (i+k)=bt b k
def At.app{s a b:BA}{i:Nat}:At s i (a++b)↔At s i a/\At s (i+a.size) b:=by
 unfold At;rw[as_];constructor
 .rintro⟨h1,d⟩;refine⟨⟨M_,λk hk=>?_⟩,M_,λk hk=>?_⟩
  .rw[d k M_,ZW,i_ hk]
  .rw[bv_,d (a.size+k) M_,ZW,n_ M_,ck_]
 .rintro⟨⟨h1,d⟩,e,e⟩;refine⟨M_,λk hk=>?_⟩;rw[ZW];split
  .exact d k zv_
  .rw[<- e (k-a.size) M_]
   congr 1
   omega
def uD{s:BA}{i k:Nat}(h:i+k<j)(b:j<=s.size):bt (s.extract i j) k=bt s (i+k):=by
 rw[gC,gC]
 congr 1
 rw[az_,az_]
 congr 1
 rw[cj_,Array.toList_extract,List.extract_eq_take_drop,List.getElem?_take_of_lt M_,List.getElem?_drop]
def At.ext{s:BA}{i:Nat}(h:i<=j)(b:j<=s.size):At s i (s.extract i j):=by
 have hs:(s.extract i j).size=j-i:=y6_
 exact⟨M_,λk hk=>(uD M_ b).symm⟩
def JW:noB.size=0:=rfl
def At.nil{s:BA}{i:Nat}(h:i<=s.size):At s i noB:=⟨h,λk hk=>absurd hk (by rw[JW];omega)⟩
def Qo:∀(l:List Nat) (k:Nat),bt (bts l) k=l.getD k 0 % 256:=by
 intro l k;rw[gC];show(((l.map UInt8.ofNat)).getD k 0).toNat=_;rw[az_,az_,a1_];cases l[k]?<;>simp
def At.cons{s:BA}{i:Nat}{l:Ai}(hc:c<256):At s i (bts (c::l))↔i<s.size/\bt s i=c/\At s (i+1) (bts l):=by
 have e:bts (c::l)=bts [c]++bts l:=ZK [c] l;have h1:(bts [c]).size=1:=zE [c];rw[e,At.app,h1];constructor
 .rintro⟨⟨a,b⟩,d⟩;have:=b 0 M_;rw[Qo]at this;refine⟨M_,?_,d⟩;simpa[cg_ hc] using this
 .rintro⟨a,b,d⟩;refine⟨⟨M_,λk hk=>?_⟩,d⟩;obtain rfl:k=0:=M_;rw[Qo];simpa[cg_ hc] using b
def At.one{s:BA}{i:Nat}(hc:c<256):At s i (bts [c])↔i<s.size/\bt s i=c:=by
 rw[At.cons hc];constructor
 .rintro⟨a,b,_⟩;exact⟨a,b⟩
 .rintro⟨a,b⟩;exact⟨a,b,At.nil a⟩
def aU(x:BA):Prop:=∀k,k<x.size->97<=bt x k/\bt x k<=122
def QU:Option BA->List BA->Prop
 | _,[]=>True
 |last,k::r=>kH last k=true/\aU k/\k.size<=9223372036854775807/\QU (some k) r
inductive Dat (env:Ay):DT->PT->Prop
 |null {p:Nat}:Dat env (.mk 110 0 noB [] []) (.leaf 110 p)
 |bool {p n:Nat} (h:n<=1):Dat env (.mk 116 (n:Int) noB [] []) (.leaf 116 p)
 |num {p:Nat} {n:Int} (h0 : -2147483648<=n) (h1:n<=2147483647):Dat env (.mk 105 n noB [] []) (.leaf 105 p)
 |long {p:Nat} {n:Int} (h0 : -9223372036854775808<=n) (h1:n<=9223372036854775807):Dat env (.mk 108 n noB [] []) (.leaf 108 p)
 |text {p:Nat} {x:BA} (h:aU x) (h1:x.size<=9223372036854775807):Dat env (.mk 115 0 x [] []) (.leaf 115 p)
 |bytes {c p:Nat} {x:BA} (he:env c=some (.bytes x.size)) (hb:zY c=false) (h:aU x):Dat env (.mk 102 0 x [] []) (.leaf c p)
 |sym {c p n:Nat} {l:List (Nat×Nat)} {o:Option (Nat×Nat)} (he:env c=some (.enum l o)) (hb:zY c=false) (hn:n<l.length):Dat env (.mk 101 (n:Int) noB [] []) (.leaf c p)
 |recd {c p:Nat} {fs:List PF} {ds:List DT} (he:env c=some (.recd fs)) (hb:zY c=false) (hl:ds.length=fs.length) (h:∀(i:Nat) (d:DT) (t:PT),ds[i]?=some d->(fs.map PF.ty)[i]?=some t->Dat env d t):Dat env (.mk 114 0 noB [] ds) (.leaf c p)
 |list {p:Nat} {u:PT} {ds:List DT} (hl:ds.length<=9223372036854775807) (h:∀d∈ds,Dat env d u):Dat env (.mk 91 0 noB [] ds) (.wrap 91 p u)
 |map {p:Nat} {u:PT} {ks:List BA} {ds:List DT} (hl:ds.length<=9223372036854775807) (hk:ks.length=ds.length) (hr:QU none ks) (h:∀d∈ds,Dat env d u):Dat env (.mk 123 0 noB ks ds) (.wrap 123 p u)
 |alts {n p:Nat} {l:List PT} {u:PT} {d:DT} (hn:n<=9223372036854775807) (hl:l[n]?=some u) (h:Dat env d u):Dat env (.mk 40 (n:Int) noB [] [d]) (.alts p l)
def Yf{s:BA}:∀(f i z j:Nat),wF s f i=some (z,j)->∀g,f<=g+1->At s i (bts (sP g z))/\j=i+(bts (sP g z)).size
 | 0,i,z,j,h,g,hg=>by simp[wF]at h
 |f+1,i,z,j,h,g,hg=>by
  unfold wF at h;split at h
  .rename_i d;split at h
   .rename_i hb;simp only[ae_,ac_]at h;obtain⟨rfl,rfl⟩:=h;have e:sP g (bt s i)=[bt s i]:=by cases g<;>simp[sP,hb]
    rw[e,zE];exact⟨(At.one (qD s i)).2 ⟨d,rfl⟩,rfl⟩
   .rename_i hb;split at h
    .simp at h
    .rename_i b j' he;split at h
     .simp at h
     .rename_i hz;simp only[ae_,ac_]at h;obtain⟨rfl,rfl⟩:=h;have hl:=qD s i;have l:1<=f:=by
       cases f
       .simp[wF]at he
       .omega
      obtain⟨g',rfl⟩:∃g',g=g'+1:=⟨g-1,M_⟩;have e:sP (g'+1) (bt s i-128+128*b)=bt s i::sP g' b:=by
       rw[sP,n_ M_,show(bt s i-128+128*b) % 128+128=bt s i by omega,show(bt s i-128+128*b) / 128=b by omega]
      obtain⟨h1,k⟩:=Yf f (i+1) b j' he g' M_;rw[e,At.cons hl];refine⟨⟨d,rfl,h1⟩,?_⟩;rw[k,zE,zE,au_];omega
  .simp at h
def Qq(z:Nat):Qk (kB z)=z:=by
 unfold Qk kB;split<;>split<;>omega
def GX{s:BA}{i:Nat}{n:Int}(h:bL s i=some (n,j)):At s i (xL n)/\j=i+(xL n).size:=by
 unfold bL at h;split at h
 .simp at h
 .rename_i z j' he;split at h
  .simp only[ae_,ac_]at h;obtain⟨rfl,rfl⟩:=h;unfold xL leb;rw[Qq];exact Yf 10 i z _ he 10 M_
  .simp at h
def bN{s:BA}{lo b:Int}{i:Nat}{n:Int}(h:vu s lo b i=some (n,j)):lo<=n/\n<=b/\At s i (xL n)/\j=i+(xL n).size:=by
 unfold vu at h;split at h
 .simp at h
 .rename_i d j' he;split at h
  .rename_i hb;simp only[ae_,ac_]at h;obtain⟨rfl,rfl⟩:=h;exact⟨hb.1,hb.2,GX he⟩
  .simp at h
def aX{s:BA}{i n:Nat}{x:BA}(e:i<=s.size)(h:xU s i n=some (x,j)):At s i x/\j=i+x.size/\x.size=n/\aU x:=by
 obtain⟨g,b,l,d⟩:=qS e h;unfold xU at h;split at h
 .rename_i hb;simp only[ae_,ac_]at h;obtain⟨rfl,rfl⟩:=h;refine⟨At.ext M_ b,M_,d,λk hk=>?_⟩;rw[uD M_ b];exact qF 97 122 s (s.size-i) i l_ (i+k) M_ (by unfold zX at hb;omega)
 .simp at h
def tS{s:BA}{i:Nat}{x:BA}(h:xn s i=some (x,j)):At s i (xL x.size++x)/\j=i+(xL x.size++x).size/\aU x/\x.size<=9223372036854775807:=by
 unfold xn at h;split at h
 .simp at h
 .rename_i n j' he;obtain⟨g,k,b,rfl⟩:=bN he;obtain⟨b1,b2,b3,d⟩:=aX b.1 h;have e:(x.size:Int)=n:=M_;rw[e,At.app,as_];exact⟨⟨b,b1⟩,M_,d,M_⟩
def ru:∀(ds:List DT) (ks b:List BA),qr false ks ds=qr false b ds
 | [],_,_=>by simp[qr]
 |d::r,ks,b=>by
  simp only[qr];rw[ru r ks.tail b.tail];simp
def Pp(env:Ay)(s:BA)(R:Nat->Nat->Except Nat (DT×Nat×Nat))(t:PT):Prop:=
 ∀i n d j m,i<=s.size->R i n=.ok (d,j,m)->Dat env d t/\At s i (byT d)/\j=i+(byT d).size
def Ww(keyed:Ap)(k:BA):BA:=if keyed=true then xL k.size++k else noB
def WT{s:BA}{e:Dw}{i:Nat}{k:BA}(g:i<=s.size)(h:jW s keyed e i=some (k,j)):At s i (Ww keyed k)/\j=i+(Ww keyed k).size/\(keyed=true->kH e k=true/\aU k/\k.size<=9223372036854775807):=by
 unfold jW at h;unfold Ww;cases keyed with
 |false=>
  simp only[a2_,if_false,ae_,ac_]at h⊢;obtain⟨rfl,rfl⟩:=h;exact⟨At.nil g,rfl,λh=>h.elim⟩
 |true=>
  simp only[if_true]at h⊢;split at h
  .simp at h
  .rename_i l j' he;split at h
   .rename_i hr;simp only[ae_,ac_]at h;obtain⟨rfl,rfl⟩:=h;obtain⟨a,b,c,d⟩:=tS he;exact⟨a,b,λ_=>⟨hr,c,d⟩⟩
   .simp at h
def Vu(keyed:Ap)(k:BA)(ks:Aa)(d:DT)(ds:Ak):qr keyed (k::ks) (d::ds)=(Ww keyed k++byT d)++qr keyed ks ds:=by
 rw[qr];rfl
def tI{env:Ay}{s:BA}{R:Nat->Nat->Except Nat (DT×Nat×Nat)}{t:PT}(q:Pp env s R t):∀(c:Nat) (b:Option BA) (i n:Nat) (l:List (BA×DT)) (j m:Nat),i<=s.size->yS R s keyed c b i n=.ok (l,j,m)->
 l.length=c/\(∀e∈l,Dat env e.2 t)/\(keyed=true->QU b (l.map Prod.fst))/\At s i (qr keyed (l.map Prod.fst) (l.map Prod.snd))/\j=i+(qr keyed (l.map Prod.fst) (l.map Prod.snd)).size
 | 0,b,i,n,l,j,m,hi,h=>by
  simp only[yS,ag_,ac_]at h;obtain⟨rfl,rfl,rfl⟩:=h;refine⟨rfl,λe he=>(by cases he),λ_=>trivial,?_,?_⟩
  .simp only[a5_,qr];exact At.nil hi
  .simp only[a5_,qr];rfl
 |c+1,b,i,n,l,j,m,hi,h=>by
  unfold yS at h;split at h
  .simp at h
  .rename_i k F hk;obtain⟨r,u,g⟩:=WT hi hk;split at h
   .simp at h
   .rename_i d G J hd;have:=r.1;obtain⟨x,o,d3⟩:=q _ _ _ _ _ M_ hd;split at h
    .simp at h
    .rename_i H j' I he;have:=o.1;obtain⟨y,z,B,C,D⟩:=tI q c _ _ _ _ _ _ M_ he;simp only[ag_,ac_]at h;obtain⟨rfl,rfl,rfl⟩:=h;simp only[aw_,Vu];refine⟨by simp[y],λe he=>?_,λhk=>⟨(g hk).1,(g hk).2.1,(g hk).2.2,B hk⟩,?_,?_⟩
     .rcases aq_.1 he with rfl|he
      .exact x
      .exact z e he
     .rw[At.app,At.app,as_];refine⟨⟨r,?_⟩,?_⟩
      .rw[<- u];exact o
      .rw[<- bv_,<- u,<- d3];exact C
     .rw[as_,as_];omega
def rr{env:Ay}{s:BA}{R:PT->Nat->Nat->Except Nat (DT×Nat×Nat)}:∀(ts:List PT),(∀t∈ts,Pp env s (R t) t)->∀(i n:Nat) (l:List DT) (j m:Nat),i<=s.size->ym R ts i n=.ok (l,j,m)->
 l.length=ts.length/\(∀(q:Nat) (d:DT) (t:PT),l[q]?=some d->ts[q]?=some t->Dat env d t)/\At s i (qr false [] l)/\j=i+(qr false [] l).size
 | [],hR,i,n,l,j,m,hi,h=>by
  simp only[ym,ag_,ac_]at h;obtain⟨rfl,rfl,rfl⟩:=h;refine⟨rfl,λq d t hd=>by simp at hd,?_,?_⟩
  .simp only[qr];exact At.nil hi
  .simp only[qr];rfl
 |t::r,hR,i,n,l,j,m,hi,h=>by
  unfold ym at h;split at h
  .simp at h
  .rename_i d F H hd;obtain⟨x,k,d3⟩:=hR t (bi_ ..) _ _ _ _ _ hi hd;split at h
   .simp at h
   .rename_i o j' G he;have:=k.1;obtain⟨y,z,B,D⟩:=rr r (λt C=>hR t (cb_ _ C)) _ _ _ _ _ M_ he;simp only[ag_,ac_]at h;obtain⟨rfl,rfl,rfl⟩:=h;have e:qr false [] (d::o)=byT d++qr false [] o:=by simp only[qr,List.tail_nil];simp[cZ]
    rw[e];refine⟨by simp[y],λq u t' b g=>?_,?_,?_⟩
    .cases q with
     |zero=>simp at b g;subst b g;exact x
     |succ q=>exact z q u t' (by simpa using b) (by simpa using g)
    .rw[At.app,<- d3];exact⟨k,B⟩
    .rw[as_];omega
def Jg{env:Ay}(M:jr env)(s:BA):∀(f:Nat) (t:PT),okT env t->Pp env s (rdB s env f t) t:=by
 intro f;induction f with
 |zero=>intro t _ i n d j m _ h;simp[rdB]at h
 |succ f ih=>
  intro t B i n d j m F h;unfold rdB at h;split at h
  .simp at h
  .split at h
   .rename_i c p;unfold vO at h;split at h
    .rename_i hc;subst hc;simp only[ag_,ac_]at h;obtain⟨rfl,rfl,rfl⟩:=h;have e:byT (.mk 110 0 noB [] [])=noB:=by simp[byT,qr,cZ]
     rw[e];exact⟨.null,At.nil F,rfl⟩
    .split at h
     .rename_i hc;subst hc;split at h
      .rename_i hb;simp only[ag_,ac_]at h;obtain⟨rfl,rfl,rfl⟩:=h;have e:byT (.mk 116 (bt s i:Int) noB [] [])=bts [bt s i]:=zr_
       rw[e,zE];exact⟨.bool hb.2,(At.one (qD s i)).2 ⟨hb.1,rfl⟩,rfl⟩
      .simp at h
     .split at h
      .rename_i hc;subst hc;split at h
       .simp at h
       .rename_i q j' he;simp only[ag_,ac_]at h;obtain⟨rfl,rfl,rfl⟩:=h;obtain⟨y,z,b,r⟩:=bN he;have e:byT (.mk 105 q noB [] [])=xL q:=zr_
        rw[e];exact⟨.num y z,b,r⟩
      .split at h
       .rename_i hc;subst hc;split at h
        .simp at h
        .rename_i q j' he;simp only[ag_,ac_]at h;obtain⟨rfl,rfl,rfl⟩:=h;obtain⟨b,r⟩:=GX he;have hg:=fF he;have e:byT (.mk 108 q noB [] [])=xL q:=zr_
         rw[e];exact⟨.long hg.2.2.1 hg.2.2.2,b,r⟩
       .split at h
        .rename_i hc;subst hc;split at h
         .simp at h
         .rename_i x j' he;simp only[ag_,ac_]at h;obtain⟨rfl,rfl,rfl⟩:=h;obtain⟨y,z,b,r⟩:=tS he;have e:byT (.mk 115 0 x [] [])=xL x.size++x:=zr_
          rw[e];exact⟨.text b r,y,z⟩
        .rename_i h1 I J K L;have hb:zY c=false:=by simp[zY,h1,I,J,K,L]
         split at h
         .simp at h
         .rename_i pb he;have O:=M c pb he;unfold yX at h;split at h
          .rename_i fs;split at h
           .simp at h
           .rename_i ds j' S N;simp only[ag_,ac_]at h;obtain⟨rfl,rfl,rfl⟩:=h;obtain⟨y,z,b,r⟩:=rr (fs.map PF.ty) (λt B=>by
             obtain⟨g,hg,rfl⟩:=bl_.1 B
             exact ih g.ty (O g hg)) _ _ _ _ _ F N
            have e:byT (.mk 114 0 noB [] ds)=qr false [] ds:=by simp[byT,cZ]
            rw[e];exact⟨.recd he hb (by simpa using y) z,b,r⟩
          .rename_i l o;split at h
           .simp at h
           .rename_i q j' C;simp only[ag_,ac_]at h;obtain⟨rfl,rfl,rfl⟩:=h;obtain⟨y,z,b,r⟩:=bN C;obtain⟨q,rfl⟩:∃k:Nat,q=k:=⟨q.toNat,M_⟩;have e:byT (.mk 101 (q:Int) noB [] [])=xL q:=zr_
            rw[e];exact⟨.sym he hb M_,b,r⟩
          .rename_i k;split at h
           .simp at h
           .rename_i x j' hx;simp only[ag_,ac_]at h;obtain⟨rfl,rfl,rfl⟩:=h;obtain⟨y,z,b,r⟩:=aX F hx;have e:byT (.mk 102 0 x [] [])=x:=zr_
            rw[e];subst b;exact⟨.bytes he hb r,y,z⟩
   .rename_i c p u;unfold okT at B;unfold qi at h;split at h
    .simp at h
    .rename_i q j' C;obtain⟨y,z,b,r⟩:=bN C;obtain⟨q,rfl⟩:∃k:Nat,q=k:=⟨q.toNat,M_⟩;split at h
     .simp at h
     .rename_i l Q R hl;simp only[ag_,ac_]at h;obtain⟨rfl,rfl,rfl⟩:=h;have:=b.1;obtain⟨b1,b2,b3,D,G⟩:=tI (ih u B.2) _ _ _ _ _ _ _ M_ hl;rw[bb_]at b1;have hd:∀d∈l.map Prod.snd,Dat env d u:=λd hd=>by
       obtain⟨e,he,rfl⟩:=bl_.1 hd;exact b2 e he
      rcases B.1 with rfl|rfl
      .have e:byT (.mk 91 0 noB [] (l.map Prod.snd))=xL q++qr false (l.map Prod.fst) (l.map Prod.snd):=by
        rw[ru (l.map Prod.snd) (l.map Prod.fst) []];simp[byT,b1]
       simp only[show((91:Nat)==123)=false from rfl,a2_,if_false]at D G⊢;rw[e,At.app,as_];refine⟨.list x4_ hd,⟨b,?_⟩,M_⟩;rw[<- r];exact D
      .have e:byT (.mk 123 0 noB (l.map Prod.fst) (l.map Prod.snd))=xL q++qr true (l.map Prod.fst) (l.map Prod.snd):=by simp[byT,b1]
       simp only[show((123:Nat)==123)=true from rfl,if_true]at b3 D G⊢;rw[e,At.app,as_];refine⟨.map x4_ x8_ (b3 trivial) hd,⟨b,?_⟩,M_⟩;rw[<- r];exact D
   .rename_i p ts;unfold okT at B;unfold vH at h;split at h
    .simp at h
    .rename_i q j' C;obtain⟨y,z,b,r⟩:=bN C;obtain⟨q,rfl⟩:∃k:Nat,q=k:=⟨q.toNat,M_⟩;rw[bb_]at h;have hg:=(yU C);split at h
     .simp at h
     .rename_i u hu;split at h
      .simp at h
      .rename_i H Q R hd;simp only[ag_,ac_]at h;obtain⟨rfl,rfl,rfl⟩:=h;have:=b.1;obtain⟨b1,b2,b3⟩:=ih u (xC B.2 u (al_ hu)).2 _ _ _ _ _ M_ hd;have e:byT (.mk 40 (q:Int) noB [] [H])=xL q++byT H:=by simp[byT,qr,cZ,WE]
       rw[e,At.app,as_];refine⟨.alts M_ hu b1,⟨b,?_⟩,M_⟩;rw[<- r];exact b2
def jC(k:Nat)(n:Int)(x:BA)(ks:Aa)(ds:Ak):ndT (.mk k n x ks ds)=1+zM ds:=by rw[ndT]
def xh(h:zY c=false):c≠110/\c≠116/\c≠105/\c≠108/\c≠115:=by
 simp[zY]at h;omega
def Yh:∀(l:List UInt8) (c:UInt8),dv (l++[c])=10*dv l+(c.toNat-48)
 | [],c=>by simp[dv]
 |a::l,c=>by
  rw[bf_,dv,dv,Yh l c,ah_,ap_,Nat.pow_succ,Nat.mul_add,<- Nat.mul_assoc,<- Nat.mul_assoc,a7_ _ 10,<- Nat.mul_assoc,bv_]
def Yd{u:Nat}(h:u<10):(UInt8.ofNat (48+u)).toNat=48+u:=by
 rw[UInt8.toNat_ofNat'];exact cg_ M_
def tH:∀(d u:Nat),u<=d->qR (Lib.decDigits u)/\dv (Lib.decDigits u)=u/\∃c g,Lib.decDigits u=c::g/\(u=0->g=[]/\c=48)/\(u≠0->49<=c.toNat):=by
 intro d;induction d with
 |zero=>
  intro u h;obtain rfl:u=0:=M_;rw[Lib.decDigits,dif_pos D_];exact⟨λc hc=>by simp at hc;subst hc;decide,D_,_,_,rfl,λ_=>⟨rfl,rfl⟩,λh=>absurd rfl h⟩
 |succ d ih=>
  intro u h;by_cases hu:u<10
  .rw[Lib.decDigits,dif_pos hu];have e:=Yd hu;refine⟨λc hc=>?_,?_,_,_,rfl,λh0=>?_,λh0=>M_⟩
   .rw[ba_]at hc;subst hc;omega
   .simp only[dv,ar_,Nat.pow_zero,Nat.mul_one,bs_];omega
   .subst h0;exact⟨rfl,rfl⟩
  .rw[Lib.decDigits,dif_neg hu];obtain⟨a,b,c,g,d,l,k⟩:=ih (u / 10) M_;have e:=Yd (u:=u % 10) M_;refine⟨λx hx=>?_,?_,c,g++[UInt8.ofNat (48+u % 10)],by rw[d];rfl,λh0=>M_,λ_=>k M_⟩
   .rcases bn_.1 hx with hx|hx
    .exact a x hx
    .rw[ba_]at hx;subst hx;omega
   .rw[Yh,b];omega
def FP{l r:Cd}{c:UInt8}(hd:qR l)(hl:l=c::r)(hz:¬(c.toNat=48/\r≠[])):Lib.decDigits (dv l)=l:=by
 subst hl;obtain⟨h,e,k,g,d,b,m⟩:=tH _ (dv (c::r)) l_;have hc:=hd c (bi_ ..);have o:(Lib.decDigits (dv (c::r))).length=(c::r).length:=by
  by_cases h0:c.toNat=48
  .have hr:r=[]:=by
    by_cases hr:r=[]
    .exact hr
    .exact absurd ⟨h0,hr⟩ hz
   subst hr;have k:dv [c]=0:=by simp[dv];omega
   rw[k]at d b;rw[k,d,(b rfl).1];rfl
  .have b:49<=c.toNat:=M_;have b1:=Yr (r:=r) b;have b2:=mK hd;have b:dv (c::r)≠0:=by have:=Nat.pow_pos (n:=r.length) (show 0<10 by decide);omega
   have b3:=Yr (r:=g) (m b);have b:=mK h;rw[d]at e b;rw[e]at b3 b;rw[d];simp only[au_]at b2 b⊢;have d:r.length<g.length+1:=(Nat.pow_lt_pow_iff_right (show 1<10 by decide)).1 (Nat.lt_of_le_of_lt b1 b);have b:g.length<r.length+1:=(Nat.pow_lt_pow_iff_right (show 1<10 by decide)).1 (Nat.lt_of_le_of_lt b3 b2);omega
 exact((Zi o h hd).2).2 e
def fg(x:BA):x.size=x.data.toList.length:=Array.length_toList.symm
def rf(u:Nat):(xK (u:Int)).data.toList=Lib.decDigits u:=by unfold xK;rw[Lib.itoa_nonneg]
def Qd(u:Nat)(h:1<=u):xK (-(u:Int))=bts [45]++xK (u:Int):=by
 apply bx_;unfold xK;rw[Lib.itoa_neg u h,Lib.itoa_nonneg];simp[bts]
def VE{s:BA}{i e:Nat}(b:i<e)(he:e<=s.size)(hd:∀k,i<=k->k<e->48<=bt s k/\bt s k<=57)(hz:¬(bt s i=48/\1<e-i)):xK ((dv (s.extract i e).data.toList:Nat):Int)=s.extract i e:=by
 have hs:(s.extract i e).size=e-i:=y6_
 have hg:qR (s.extract i e).data.toList:=λc hc=>by
  obtain⟨k,b,d,g⟩:=mQ hc;rw[<- g];exact hd k b d
 have hb:bt (s.extract i e) 0=bt s i:=by rw[uD M_ he];rfl
 apply bx_;apply Array.toList_inj.1;rw[rf];cases hl:(s.extract i e).data.toList with
 |nil=>rw[fg,hl]at hs;simp at hs;omega
 |cons c r=>
  rw[<- hl];refine FP hg hl (λh=>hz ⟨?_,?_⟩)
  .rw[<- hb,gC,hl];simpa using h.1
  .rw[<- hs,fg,hl];cases r with
   |nil=>exact absurd rfl h.2
   |cons _ _=>simp
def Jq{s:BA}{i kd:Nat}{n:Int}(m:kd=105\/kd=108)(h:vg s kd i=some (n,j)):loV kd<=n/\n<=hiV kd/\At s i (xK n)/\j=i+(xK n).size:=by
 unfold vg at h;split at h
 .rename_i u;simp only[ae_,ac_]at h;obtain⟨rfl,rfl⟩:=h;have hd:qR (yv s i).data.toList:=rk s (sgn s i);obtain⟨h0,hz,d⟩:=(dO hd).1 u;have B:(yv s i).size=yY s i-sgn s i:=by
   have:=(xz 48 57 s _ (sgn s i) l_).1;unfold yv;rw[a3_];by_cases hx:sgn s i<=s.size
   .have:=(xz 48 57 s _ (sgn s i) l_).2 hx;unfold yY;omega
   .exfalso;unfold yv at h0;rw[a3_]at h0;omega
  have hx:sgn s i<=s.size:=by
   unfold yv at h0;rw[a3_]at h0;omega
  have r:=(xz 48 57 s _ (sgn s i) l_).2 hx;have e:yY s i<=s.size:=r;have hb:bt (yv s i) 0=bt s (sgn s i):=by unfold yv;rw[uD M_ e];rfl
  have hr:xK ((dv (yv s i).data.toList:Nat):Int)=yv s i:=by
   refine VE M_ e (λk y z=>qF 48 57 s _ (sgn s i) l_ k y z) (λg=>hz ⟨by rw[hb];exact g.1,.inl M_⟩)
  have C:rH kd true<=9223372036854775808/\rH kd false<=9223372036854775807:=by unfold rH;constructor<;>split<;>simp
  have o:=lZ (neg:=xP s i) hd (by cases g:xP s i<;>rw[g]at d<;>simp<;>omega) _ l_;rw[a6_ (by rw[<- fg];exact l_)]at o;rw[o];by_cases b:xP s i=true
  .rw[b]at d hz;rw[i_ b];have h45:bt s i=45:=by unfold xP at b;have:=eq_of_beq b;omega
   have hs:sgn s i=i+1:=z6_
   have x:1<=dv (yv s i).data.toList:=by
    rcases b6_ (dv (yv s i).data.toList) with l|l
    .exfalso;rw[l]at hr;refine hz ⟨?_,.inr rfl⟩;rw[<- hr,gC,rf,Lib.decDigits,dif_pos D_];rfl
    .exact l
   rw[Qd _ x,hr,At.app,zE,as_,zE];have q:[45].length=1:=rfl;rw[q];refine⟨?_,?_,⟨(At.one D_).2 ⟨zr M_,h45⟩,?_⟩,M_⟩
   .unfold rH at d;unfold loV;rcases m with rfl|rfl<;>simp at d⊢<;>omega
   .unfold hiV;split<;>omega
   .rw[<- hs];exact At.ext M_ e
  .rw[Bool.not_eq_true]at b;rw[b]at d;rw[b,n_ D_];have h45:¬bt s i=45:=by
    unfold xP at b;rw[beq_eq_false_iff_ne]at b;omega
   have hs:sgn s i=i:=z7_
   rw[hr];refine⟨?_,?_,?_,M_⟩
   .unfold loV;split<;>omega
   .unfold rH at d;unfold hiV;rcases m with rfl|rfl<;>simp at d⊢<;>omega
   .have:=At.ext (s:=s) (i:=i) (j:=yY s i) M_ e;unfold yv;rw[hs];exact this
 .simp at h
def FJ(keyed:Ap)(k:BA):BA:=if keyed=true then k++bts [58] else noB
section
variable {env:Ay}
end
def BQ(env:Ay):Prop:=∀c l o,env c=some (.enum l o)->(l.map Prod.fst).Nodup/\∀x∈l.map Prod.fst,97<=x/\x<=122
def Jk{s:BA}(hs:s.size<=9223372036854775807){d:Dw}{i:Nat}{k:BA}(g:i<=s.size)(h:kR s keyed d i=some (k,j)):At s i (FJ keyed k)/\j=i+(FJ keyed k).size/\(keyed=true->kH d k=true/\aU k/\k.size<=9223372036854775807):=by
 unfold kR at h;unfold FJ;cases keyed with
 |false=>
  simp only[a2_,if_false,ae_,ac_]at h⊢;obtain⟨rfl,rfl⟩:=h;exact⟨At.nil g,rfl,λh=>h.elim⟩
 |true=>
  simp only[if_true]at h⊢;split at h
  .rename_i hb;simp only[ae_,ac_]at h;obtain⟨rfl,rfl⟩:=h;have hl:zX s i<s.size:=zr M_;have hg:=(xz 97 122 s _ i l_).1;have e:i<=zX s i:=hg;have b:(s.extract i (zX s i)).size=zX s i-i:=y6_
   rw[At.app,as_,zE,b];refine⟨⟨At.ext e M_,(At.one D_).2 ⟨M_,?_⟩⟩,?_,λ_=>⟨hb.2,λq l=>?_,M_⟩⟩
   .rw[show i+(zX s i-i)=zX s i by omega];exact hb.1
   .simp only[ap_];omega
   .rw[uD M_ M_];exact qF 97 122 s _ i l_ (i+q) M_ (by unfold zX at b l;omega)
  .simp at h
def By{s:BA}{i:Nat}(d:i<=s.size):At s i (s.extract i (zX s i))/\(s.extract i (zX s i)).size=zX s i-i/\i<=zX s i/\aU (s.extract i (zX s i)):=by
 have hg:=(xz 97 122 s _ i l_);have b:i<=zX s i:=hg.1;have e:zX s i<=s.size:=hg.2 d;have d:(s.extract i (zX s i)).size=zX s i-i:=y6_
 refine⟨At.ext b e,d,b,λq b=>?_⟩;rw[uD M_ M_];exact qF 97 122 s _ i l_ (i+q) M_ (by unfold zX at d b;omega)
def tB:∀(l:List (Nat×Nat)) (e:List Nat),qh e l=[]->(∀x∈l.map Prod.fst,x∉e)/\(l.map Prod.fst).Nodup
 | [],_,_=>⟨λx hx=>(by cases hx),List.nodup_nil⟩
 |q::r,e,h=>by
  rw[qh,bu_]at h;obtain⟨h1,g⟩:=h;have k:q.1∉e:=λd=>by rw[i_ d]at h1;cases h1
  obtain⟨a,b⟩:=tB r _ g;rw[aw_];refine⟨λx hx=>?_,List.nodup_cons.2 ⟨λd=>?_,b⟩⟩
  .rcases aq_.1 hx with rfl|hx
   .exact k
   .exact λd=>a x hx (ce_ _ d)
  .exact a _ d (b7_ _ (ba_.2 rfl))
def tC(env:Ay):∀(ds:List PD) (b:List Nat),kK env b ds=[]->∀d∈ds,qs env d.body=[]
 | [],_,_,d,hd=>by cases hd
 |x::r,b,h,d,hd=>by
  rw[kK,bu_,bu_]at h;rcases aq_.1 hd with rfl|hd
  .exact h.2.1
  .exact tC env r _ h.2.2 d hd
def cJ{s:BA}{ds:Ar}{t:PT}(h0:(zl s).1=0)(hp:zQ s=.ok (ds,t)):s.size<=300/\vf ds t=[]/\xH ds t=[]:=by
 have hs:s.size<=300:=by
  by_cases h:300<s.size
  .unfold zl at h0;rw[i_ h]at h0;exact absurd h0 D_
  .omega
 rw[qM hs hp]at h0;refine⟨hs,?_⟩;split at h0
 .simp at h0
 .simp at h0
 .simp at h0
 .rename_i h1 b _;exact⟨h1,b⟩
def nK{s:BA}{ds:Ar}{t:PT}(h0:(zl s).1=0)(hp:zQ s=.ok (ds,t)):BQ (zx ds)/\uM (zx ds)/\xM t/\okT (zx ds) t/\jr (zx ds):=by
 obtain⟨hs,hn,hu⟩:=cJ h0 hp;obtain⟨g,_,_,f4,f5⟩:=ky hs hp hn hu;refine⟨λc l o e=>?_,cK g,wv t (jh hs hp).2.1,f4,f5⟩;unfold vf at hn;rw[bu_]at hn;have m:=g.sm c l o e;have e':=e;unfold zx at e';obtain⟨⟨pb,b⟩,hl,h⟩:=b9_.1 e';simp only at h;subst h;obtain⟨d,hd,hb⟩:=gK hl;have g:=tC _ ds [] hn.1 d hd;rw[hb]at g;unfold qs at g;rw[bu_]at g;refine⟨(tB l [] g.1).2,λx hx=>?_⟩;obtain⟨q,k,rfl⟩:=bl_.1 hx;have:=m q k;simp[zt]at this;exact this
def Kit(A:Cs)(w:Aw):Prop:=xg A w/\yV w/\yJ w/\vD w/\jK w
def Pc(env:Ay)(s:BA)(R:Al)(t:PT):Prop:=
 ∀i d j,i<=s.size->R i=some (d,j)->Dat env d t/\j<=s.size
def ou{env:Ay}{s:BA}(hs:s.size<=9223372036854775807){R:Al}{q:Nat}{u:PT}(C:Pc env s R u):∀(g:Nat) (m:Option BA) (i:Nat) (l:List (BA×DT)) (e:Nat),i<=s.size->0<q->yZ R s q keyed g m i=some (l,e)->
 (∀x∈l,Dat env x.2 u)/\(keyed=true->QU m (l.map Prod.fst))/\l.length<=g/\e<=s.size:=by
 intro g;induction g with
 |zero=>intro m i l e _ _ h;simp[yZ]at h
 |succ g ih=>
  intro m i l e F D h;unfold yZ at h;split at h
  .simp at h
  .rename_i k N hk;obtain⟨H,O,b⟩:=Jk hs F hk;have:=H.1;split at h
   .simp at h
   .rename_i d j hd;obtain⟨o,K⟩:=C _ _ _ M_ hd;split at h
    .rename_i M;simp only[ae_,ac_]at h;obtain⟨rfl,rfl⟩:=h;have G:j<s.size:=zr M_;refine⟨λx hx=>?_,λh=>⟨(b h).1,(b h).2.1,(b h).2.2,trivial⟩,by simp,M_⟩;rw[ba_]at hx;subst hx;exact o
    .split at h
     .rename_i L;split at h
      .simp at h
      .rename_i I e' he;simp only[ae_,ac_]at h;obtain⟨rfl,rfl⟩:=h;have G:j<s.size:=zr M_;obtain⟨r,z,J,B⟩:=ih (some k) (j+1) I e' M_ D he;refine⟨λy hy=>?_,λh=>⟨(b h).1,(b h).2.1,(b h).2.2,z h⟩,by simp;omega,B⟩;rcases aq_.1 hy with rfl|hy
       .exact o
       .exact r y hy
     .simp at h
def mr{env:Ay}{s:BA}{R:Ag}:∀(T:List PT),(∀u∈T,Pc env s (R u) u)->∀(i:Nat) (first:Bool) (ds:List DT) (e:Nat),i<=s.size->zH R s first T i=some (ds,e)->
 ds.length=T.length/\(∀(k:Nat) (x:DT) (u:PT),ds[k]?=some x->T[k]?=some u->Dat env x u)/\e<=s.size
 | [],hR,i,first,ds,e,hi,h=>by
  simp only[zH,ae_,ac_]at h;obtain⟨rfl,rfl⟩:=h;exact⟨rfl,λk x u hx=>by simp at hx,hi⟩
 |t::T,hR,i,first,ds,e,hi,h=>by
  have g:∀b d j ds' e',b<=s.size->R t b=some (d,j)->zH R s false T j=some (ds',e')->(d::ds').length=(t::T).length/\(∀(k:Nat) (x:DT) (u:PT),(d::ds')[k]?=some x->(t::T)[k]?=some u->Dat env x u)/\e'<=s.size:=by
   intro b d j ds' e' y hd he;obtain⟨q,r⟩:=hR t (bi_ ..) _ _ _ y hd;obtain⟨l,m,o⟩:=mr T (λu hu=>hR u (cb_ _ hu)) j false ds' e' r he;refine⟨by simp[l],λk x u hx hu=>?_,o⟩;cases k with
   |zero=>simp at hx hu;subst hx hu;exact q
   |succ k=>exact m k x u (by simpa using hx) (by simpa using hu)
  unfold zH at h;cases first with
  |true=>
   simp only[if_true]at h;split at h
   .simp at h
   .rename_i d j hd;split at h
    .simp at h
    .rename_i ds' e' he;simp only[ae_,ac_]at h;obtain⟨rfl,rfl⟩:=h;exact g i d j ds' _ hi hd he
  |false=>
   simp only[a2_,if_false]at h;split at h
   .have hl:i<s.size:=zr M_;split at h
    .simp at h
    .rename_i d j hd;split at h
     .simp at h
     .rename_i ds' e' he;simp only[ae_,ac_]at h;obtain⟨rfl,rfl⟩:=h;exact g (i+1) d j ds' _ M_ hd he
   .simp at h
def Fm{env:Ay}(O:jr env){s:BA}(hs:s.size<=4000)(pl:Ap):∀(f:Nat) (t:PT),okT env t->Pc env s (rdT s env pl f t) t:=by
 intro f;induction f with
 |zero=>intro t _ i d j _ h;simp[rdT]at h
 |succ f ih=>
  intro t b i d j R h;cases t with
  |leaf c p=>
   unfold rdT xr at h;split at h
   .rename_i hc;subst hc;split at h
    .rename_i hb;have hl:i<s.size:=zr M_;simp only[ae_,ac_]at h;obtain⟨rfl,rfl⟩:=h;exact⟨.null,M_⟩
    .simp at h
   .split at h
    .rename_i hc;subst hc;split at h
     .rename_i hb;have hl:i<s.size:=zr M_;simp only[ae_,ac_]at h;obtain⟨rfl,rfl⟩:=h;exact⟨Dat.bool (n:=1) D_,M_⟩
     .split at h
      .rename_i hb;have hl:i<s.size:=zr M_;simp only[ae_,ac_]at h;obtain⟨rfl,rfl⟩:=h;exact⟨Dat.bool (n:=0) D_,M_⟩
      .simp at h
    .split at h
     .rename_i hc;split at h
      .simp at h
      .rename_i n j' hn;simp only[ae_,ac_]at h;obtain⟨rfl,rfl⟩:=h;obtain⟨r,y,F,a4⟩:=Jq hc hn;have:=F.1;rcases hc with rfl|rfl
       .exact⟨.num r y,M_⟩
       .exact⟨.long r y,M_⟩
     .split at h
      .rename_i hc;subst hc;split at h
       .rename_i hb;have h1:i<s.size:=zr M_;have m:zX s (i+1)<s.size:=zr M_;simp only[ae_,ac_]at h;obtain⟨rfl,rfl⟩:=h;obtain⟨Z,J,x3,D⟩:=By (s:=s) (i:=i+1) M_;exact⟨.text D M_,M_⟩
       .simp at h
      .rename_i h1 m G N;have hb:zY c=false:=by
        simp[zY,h1,m,N];omega
       split at h
       .simp at h
       .rename_i pb he;have T:=O c pb he;unfold yg at h;split at h
        .rename_i fs;split at h
         .rename_i a2;have hl:i<s.size:=zr M_;split at h
          .simp at h
          .rename_i ds j' hd;split at h
           .rename_i a3;have S:j'<s.size:=zr M_;simp only[ae_,ac_]at h;obtain⟨rfl,rfl⟩:=h;obtain⟨r,y,F⟩:=mr (fs.map PF.ty) (λu hu=>by
             obtain⟨g,hg,rfl⟩:=bl_.1 hu
             exact ih g.ty (T g hg)) (i+1) true ds j' M_ hd
            exact⟨.recd he hb (by simpa using r) y,M_⟩
           .simp at h
         .simp at h
        .rename_i l o;split at h
         .rename_i a9;split at h
          .simp at h
          .rename_i q C;simp only[ae_,ac_]at h;obtain⟨rfl,rfl⟩:=h;obtain⟨U,_⟩:=List.findIdx?_eq_some_iff_getElem.1 C;exact⟨.sym he hb (by simpa using U),M_⟩
         .simp at h
        .rename_i n;split at h
         .rename_i hc;have a0:i<s.size:=zr M_;have a1:zX s (i+1)<s.size:=zr M_;simp only[ae_,ac_]at h;obtain⟨rfl,rfl⟩:=h;obtain⟨Z,J,x3,D⟩:=By (s:=s) (i:=i+1) M_;exact⟨.bytes (by rw[J,hc.2.1];exact he) hb D,M_⟩
         .simp at h
  |wrap c p u=>
   unfold okT at b;unfold rdT xO at h;split at h
   .rename_i hc;have hl:i<s.size:=zr (by rcases b.1 with rfl|rfl<;>omega);split at h
    .simp at h
    .rename_i l j' e;simp only[ae_,ac_]at h;obtain⟨rfl,rfl⟩:=h;have key:∀(B:Nat) (keyed:Bool),xl c=B->(c==123)=keyed->0<B->(∀x∈l,Dat env x.2 u)/\(keyed=true->QU none (l.map Prod.fst))/\l.length<=s.size+2/\j'<=s.size:=by
      intro B keyed h1 m G;rw[h1,m]at e;unfold qc at e;split at e
      .rename_i a7;have S:i+1<s.size:=zr M_;simp only[ae_,ac_]at e;obtain⟨rfl,rfl⟩:=e;exact⟨λx hx=>(by cases hx),λ_=>trivial,by simp,M_⟩
      .exact ou M_ (ih u b.2) _ _ _ _ _ M_ G e
     rcases b.1 with rfl|rfl
     .obtain⟨b1,b2,b3,z⟩:=key 93 false rfl rfl D_;simp only[show((91:Nat)==123)=false from rfl,a2_,if_false];refine⟨.list x4_ (λd hd=>?_),z⟩;obtain⟨x,hx,rfl⟩:=bl_.1 hd;exact b1 x hx
     .obtain⟨b1,b2,b3,z⟩:=key 125 true rfl rfl D_;simp only[show((123:Nat)==123)=true from rfl,if_true];refine⟨.map x4_ x8_ (b2 rfl) (λd hd=>?_),z⟩;obtain⟨x,hx,rfl⟩:=bl_.1 hd;exact b1 x hx
   .simp at h
  |alts p ts=>
   unfold okT at b;unfold rdT jZ at h;split at h
   .split at h
    .cases h
    .rename_i I r0;split at h
     .simp at h
     .rename_i K j' hd;simp only[ae_,ac_]at h;obtain⟨rfl,rfl⟩:=h;obtain⟨b1,b2⟩:=ih I (xC b.2 I (bi_ ..)).2 _ _ _ R hd;exact⟨Dat.alts (n:=0) M_ rfl b1,b2⟩
   .split at h
    .rename_i hc;obtain⟨c1,c2,c3,c4⟩:=hc;have a6:jd s (i+1)<s.size:=zr M_;have H:xK ((rm s (i+1) (jd s (i+1)-(i+1)):Nat):Int)=s.extract (i+1) (jd s (i+1)):=by
      have hg:=(xz 48 57 s _ (i+1) l_).1;have a8:i+1<=jd s (i+1):=by unfold jd;omega
      rw[QY _ M_,show i+1+(jd s (i+1)-(i+1))=jd s (i+1) by omega];exact VE M_ M_ (λk X Y=>qF 48 57 s _ (i+1) l_ k X (by unfold jd at Y;omega)) (λQ=>c3 ⟨Q.1,M_⟩)
     have V:(s.extract (i+1) (jd s (i+1))).size<=3:=by rw[a3_];unfold jd;omega
     generalize rm s (i+1) (jd s (i+1)-(i+1))=q at h H;split at h
     .simp at h
     .rename_i u hu;split at h
      .simp at h
      .rename_i K j' hd;split at h
       .rename_i a5;have hj:j'<s.size:=zr M_;simp only[ae_,ac_]at h;obtain⟨rfl,rfl⟩:=h;obtain⟨b1,b2⟩:=ih u (xC b.2 u (al_ hu)).2 _ _ _ M_ hd;have C:q<=9223372036854775807:=by
         obtain⟨L,M,_⟩:=tH _ q l_;have h1:=mK L;rw[M,<- rf,<- fg,H]at h1;have m:10 ^ (s.extract (i+1) (jd s (i+1))).size<=10 ^ 3:=Nat.pow_le_pow_right D_ V;omega
        exact⟨.alts C hu b1,M_⟩
       .simp at h
    .simp at h
def Xz{env:Ay}(e:jr env){s:BA}(hs:s.size<=4000){pl:Ap}{t:PT}(g:okT env t){d:DT}(h:yD env pl t s=some d):Dat env d t:=by
 unfold yD at h;split at h
 .cases h
 .rename_i b j hr;split at h
  .simp only[ae_]at h;subst h;exact(Fm e hs pl _ t g 0 b j o_ hr).1
  .cases h
end Go.Proofs.YtahhhgbojlkjnaaGreatDoor
