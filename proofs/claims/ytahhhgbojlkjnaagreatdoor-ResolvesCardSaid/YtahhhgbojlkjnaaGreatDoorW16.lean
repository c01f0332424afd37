import Derived.Test.YtahhhgbojlkjnaaGreatDoorW15
import Derived.Laws.AppendOwnNone
set_option maxHeartbeats 16000000
set_option maxRecDepth 100000
set_option linter.defProp false
set_option linter.unusedSimpArgs false
open Go.Proofs.Tryz
namespace Go.Proofs.YtahhhgbojlkjnaaGreatDoor
open Go.RowKit
variable {w:Aw}{P:Au}{ds:Ar}{xs ys:Az}{s:BA}{q:Nat}{sv rv v ex:Ax}{t:PT}{fs:Am}{et:As}{d:PD}
def plB:PB->Prop
 | .recd fs=>fs.length<=300/\(∀f∈fs,zt f.letter=true)/\∀f∈fs,vo f.ty
 | .enum l o=>l.length<=300/\(∀q∈l,zt q.1=true)/\∀c p,o=some (c,p)->zt c=true
 | .bytes _=>True
def lf{b:PB}(D:xf w P s ds sv xs)(hb:yM w P s b v)(j:vt 1 w et ex)(f:plB b)(m:∀g,P g->g<w.heap.size):Calls prog 77 #[.agg #[sv,rv],v] w (yI w (.iface et ex) (qs (zx ds) b)):=by
 refine hq_ λJ A=>?_;obtain⟨G,H,rfl⟩:=zh D.row;cases hb with
 |recd p ho hP h hp=>
  rename_i fs fv ys;obtain⟨B,C,rfl⟩:=zh ho;have a:Fr w ((w.alloc (.cells #[.slice G ds.length H,rv] 65)).alloc (.cells #[I_ p,.slice B fs.length C] 210)) N_:=((A_ w _).alloc _).alloc _;have y:=a.size;have E:=zy (ur (rv:=rv) (p:=(p:Int)) (D.fr a u_) ((⟨ho,hP,h⟩:xQ w P s fs _ _).fr a u_) (j.fr a id) f.1 f.2.1 f.2.2 (λg hg=>bg_ (m g hg) y));replace a:=zy a;go_in;go_wp2_with (go_at_call 118;apply E.o.mono;rintro e I ⟨F,rfl,i,hm⟩;replace i:=zy i;replace hm:=zy hm);try go_ret
  rw[A.o];refine⟨F,rfl,a.o.trans i u_,?_⟩;have c:=hm.o;rw[qs];cases k:kQ (zx ds) [] fs with
  |nil=>rw[k]at c;exact c
  |cons x r=>rw[k]at c;exact c.ls y
 |enum p ho hP hu hp=>
  rename_i l o lv u;obtain⟨B,C,rfl⟩:=zh ho;obtain⟨d,rfl⟩:∃d,u=.pointer d:=by
   have z:=hu;unfold qV at z;split at z
   .exact⟨_,z⟩
   .obtain⟨g',_,e,_⟩:=z;exact⟨_,e⟩
  have a:Fr w ((w.alloc (.cells #[.slice G ds.length H,rv] 65)).alloc (.cells #[I_ p,.slice B l.length C,.pointer d] 215)) N_:=((A_ w _).alloc _).alloc _;have y:=a.size;have E:=zy (pO (p:=(p:Int)) (zk ho a u_) hP (hu.fr a u_) (j.fr a id) f.1 f.2.1 f.2.2 (λg hg=>bg_ (m g hg) y));replace a:=zy a;go_in;go_wp2_with (go_at_call 119;apply E.o.mono;rintro e I ⟨F,rfl,i,hm⟩;replace i:=zy i;replace hm:=zy hm);try go_ret
  rw[A.o];refine⟨F,rfl,a.o.trans i u_,?_⟩;have c:=hm.o;rw[qs];cases k:qh [] l++pH l o with
  |nil=>rw[k]at c;exact c
  |cons x r=>rw[k]at c;exact c.ls y
 |bytes p n hp=>
  go_in;go_wp2;try go_ret
  rw[A.o];exact⟨.nilIface,rfl,(A_ w _).alloc _,rfl⟩
def xf.pre{g m cap:Nat}(h:xf w P s ds (S_ g m cap) xs)(k:q<=ds.length):xf w P s (ds.take q) (S_ g q cap) (xs.take (q*3)):=by
 have a:(ds.take q).length=q:=by rw[b8_];omega
 refine⟨?_,λg' e=>h.off g' e,λi d e=>?_,by rw[a];have:=h.len;omega⟩
 .rw[a];obtain⟨h1,k⟩:=h.row;refine⟨by rw[b8_,h1];omega,.inr ?_⟩;rcases k with⟨e,_⟩|⟨g',k,k,e,b,f,l,j,n,o⟩
  .cases e
  .cases e;refine⟨g,cap,k,rfl,b,f,M_,j,n,?_⟩;rw[<- o,List.take_take]
   congr 1
   omega
 .have k:=(am_.1 e).1;rw[a]at k;rw[cd_,i_ k]at e;obtain⟨c,b,f,l,j⟩:=h.V i d e;exact⟨c,by rw[cd_,i_ M_];exact b,by rw[cd_,i_ M_];exact f,by rw[cd_,i_ M_];exact l,j⟩
def Vw{env:Ay}(h:ds[q]?=some d)(a:Ai):kK env a (ds.drop q)=(if d.letter∈a then [d.place] else [])++(qs env d.body++kK env (a++[d.letter]) (ds.drop (q+1))):=by
 have hl:=(am_.1 h).1;rw[bc_ hl,kK,(am_.1 h).2]
def YD(h:ds[q]?=some d):(ds.take (q+1)).map PD.letter=(ds.take q).map PD.letter++[d.letter]:=by
 rw[a8_,h];simp
def ry{c:Nat}:zx ds c=none↔c∉ds.map PD.letter:=by
 unfold zx;rw[<- uG 0 c ds];cases vp 0 c ds<;>simp
def mO(D:xf w P s ds sv xs)(hT:TyV w P t rv)(hE:vt 1 w et ex)(d6:∀d∈ds,plB d.body)(d0:vo t)(a6:∀g,P g->g<w.heap.size):Calls prog 54 #[.agg #[sv,rv]] w (yI w (.iface et ex) (vf ds t)):=by
 refine hq_ λd7 Q_=>?_;obtain⟨sa,k,rfl⟩:=zh D.row;obtain⟨H,rx,rfl⟩:=hT.iface;have e3:=D.len;obtain⟨w0,hw0⟩:=e_ (w.alloc (.cells #[.slice sa ds.length k,.iface H rx] 65));have n:Fr w w0 N_:=y2_
 have a0:Blk w0 w.heap.size [.slice sa ds.length k,.iface H rx] 65:=by rw[hw0];exact B_ w #[.slice sa ds.length k,.iface H rx] 65
 have O:=zy (D.fr n u_);have b9:=zy (hT.fr n u_);have a5:=zy (hE.fr n id);have b8:=zy (λg (hg:P g)=>bg_ (a6 g hg) n.size);have b7:H_ (∃q:Nat,Value.int .i64 0=I_ q/\q<=ds.length/\ds.length+1-q<=ds.length+1/\Fr w0 w0 N_/\kK (zx ds) [] ds=kK (zx ds) ((ds.take q).map PD.letter) (ds.drop q)):=zy ⟨0,rfl,aj_ _,M_,A_ _ _,rfl⟩;replace a0:=zy a0;replace n:=zy n;go_in;go_wp2;rw[<- hw0];go_loopg [3,10] (ds.length+1) (λm u v W=>∃q:Nat,v=I_ q/\q<=ds.length/\ds.length+1-q<=m/\Fr w0 W N_/\kK (zx ds) [] ds=kK (zx ds) ((ds.take q).map PD.letter) (ds.drop q));case atStart=>exact b7
 case round=>
  obtain⟨q,rfl,hq,hm,j,he⟩:=hrel;have e6:=j.size;have G:=j.bl a0 id;have e1:w.heap.size<wr.heap.size:=G.lt;have s0:=G.c0;have s1:=G.c1;by_cases a3:q<ds.length
  .have d2:(q:Int)<(ds.length:Int):=M_;have hd:ds[q]?=some ds[q]:=ak_ a3;have a9:ds[q]∈ds:=a9_ a3;generalize ds[q]=d at hd a9;obtain⟨g,d8,d1⟩:=zu O.o.row M_;cases d1;have Q:=O.o.fr j u_;obtain⟨T,x,c0,c1,c2,hb⟩:=Q.cells hd;have e4:q<=k:=by
    obtain⟨_,F⟩:=O.o.row;rcases F with⟨e,_⟩|⟨g',d9,e0,e,k1,k2,k3,k4,k5,k6⟩
    .cases e
    .cases e;omega
   have e5:(q:Int)<=(k:Int):=M_;have X:=d6 d a9;rw[Vw hd]at he;have Y:=YD hd;obtain⟨l,a8⟩:=x_ d.letter;obtain⟨pl,b5⟩:=x_ d.place;obtain⟨b,a7⟩:=x_ d.body;rw[a8]at c1 he Y;rw[b5]at c0 he;rw[a7]at hb he X;have z:=((A_ wr N_).alloc (.cells #[I_ pl,U_ l,.iface T x] 169)).alloc (.cells #[S_ g q k,.nilIface] 65);have J:=(B_ wr #[I_ pl,U_ l,.iface T x] 169).alloc (.cells #[S_ g q k,.nilIface] 65);have L:=zy (qw (rv:=.nilIface) l ((Q.pre hq).fr z u_));have D1:=Q.fr z u_;have B1:=hb.fr z u_;have E1:=(a5.o.fr j id).fr z id;have R:=z.bl G id;have V:=zy (j.trans z u_);replace D1:=zy D1;replace B1:=zy B1;replace E1:=zy E1;replace R:=zy R;replace J:=zy J;replace X:=zy X;by_cases U:l∈(ds.take q).map PD.letter
   .rw[i_ U]at he;have N:=zy (show vf ds t=pl::(qs (zx ds) b++kK (zx ds) ((ds.take q).map PD.letter++[l]) (ds.drop (q+1))++vq (zx ds) (zK t)) by unfold vf;rw[he];rfl);obtain⟨bb,a1⟩:∃bb,zx (ds.take q) l=some bb:=by
     cases h:zx (ds.take q) l with
     |none=>exact absurd U (ry.1 h)
     |some bb=>exact⟨bb,rfl⟩
    replace a1:=zy a1;go_wp2_with (go_at_call 75;apply L.o.mono;rintro e i ⟨I,rfl,c,f⟩;rw[a1.o]at f;obtain⟨bT,bx,rfl⟩:=f.iface;have Z:=(c.bl J id).c0;have E:=E1.o.fr c id;replace c:=zy c;replace E:_=_:=E);refine tr_ 7 (λW=>z_ W wr.heap.size 0 (I_ pl)/\z_ W 1 0 (.iface et ex)) ?_;refine tz_ 0 ?_;refine tz_ 1 ?_;refine tz_ 3 ?_;refine yz 2 rfl K_ (λ_=>⟨Z,E⟩) (λK hK=>?_);go_simp;apply(vV (pl:Int) _).mono;rintro e w' ⟨rfl,rfl⟩;refine hK _ _ ?_;refine tz_ 4 ?_;refine t1_ 5 ⟨Z,E⟩ ?_;have S:∀{a:Addr} {x:Value},i.cell? a=some x->(i.drew.alloc (.cells #[I_ pl,.iface et ex] 177)).cell? a=some x:=@λa x h=>(World.cell?_alloc_lt (i.drew) _ a (by exact World.block_lt_of_cell? i a h)).trans h;refine t1_ 6 ⟨S Z,S E⟩ ?_;refine t1_ 7 ⟨S Z,S E⟩ ?_;refine td_ ?_ _;go_wp2;try go_ret
    rw[Q_.o];have M:=(n.o.trans V u_).trans c u_;have b6:=M.size;refine⟨_,rfl,(M.alloc _).drew,?_⟩;rw[N.o];exact⟨i.heap.size,b6,rfl,(B_ i _ _).drew⟩
   .rw[n_ U,br_]at he;have b4:=zy (ry.2 U);have a4:H_ (∀i,Fr ((wr.alloc (.cells #[I_ pl,U_ l,.iface T x] 169)).alloc (.cells #[S_ g q k,.nilIface] 65)) i N_->Calls prog 77 #[.agg #[S_ g ds.length k,.iface H rx],.iface T x] i (yI i (.iface et ex) (qs (zx ds) b))):=zy (λi F=>lf (D1.o.fr F u_) (B1.o.fr F u_) (E1.o.fr F id) X (λg hg=>bg_ (b8.o g hg) (ai_ V.o.size F.size)));cases hu:qs (zx ds) b with
    |nil=>
     rw[hu,br_]at he;replace he:=zy he;replace hu:=zy hu;go_wp2_with (first
      |(go_at_call 75;apply L.o.mono;rintro e i ⟨I,rfl,c,f⟩;rw[b4.o]at f;replace f:I=.nilIface:=f;subst f;have n2:=(c.bl J id).c2;have A:=c.bl R id;have z0:=A.c0;have z1:=A.c1;replace c:=zy c)
      |(go_at_call 77;apply(a4.o i c).mono;rintro e w3 ⟨v3,rfl,B,C⟩;rw[hu.o]at C;replace C:v3=.nilIface:=C;subst C;replace B:=zy B))
     go_roundg (ds.length+1-(q+1));case measure=>omega
     case rel=>exact⟨q+1,rfl,a3,l_,(V.o.trans c u_).trans B u_,by rw[Y];exact he⟩
    |cons y r=>
     rw[hu,bf_]at he;have N:=zy (show vf ds t=y::(r++kK (zx ds) ((ds.take q).map PD.letter++[l]) (ds.drop (q+1))++vq (zx ds) (zK t)) by unfold vf;rw[he];rfl);replace hu:=zy hu;go_wp2_with (first
      |(go_at_call 75;apply L.o.mono;rintro e i ⟨I,rfl,c,f⟩;rw[b4.o]at f;replace f:I=.nilIface:=f;subst f;have n2:=(c.bl J id).c2;have A:=c.bl R id;have z0:=A.c0;have z1:=A.c1;replace c:=zy c)
      |(go_at_call 77;apply(a4.o i c).mono;rintro e w3 ⟨v3,rfl,B,C⟩;rw[hu.o]at C;obtain⟨g3,e2,rfl,a2⟩:=C;replace B:=zy B;replace a2:=zy a2))
     try go_ret
     rw[Q_.o];have M:=(n.o.trans V u_).trans c u_;have b6:=M.size;refine⟨_,rfl,M.trans B u_,?_⟩;rw[N.o];exact⟨g3,M_,rfl,a2⟩
  .have d2:¬((q:Int)<(ds.length:Int)):=M_;rw[bz_ M_,kK]at he;have N:=zy (show vf ds t=vq (zx ds) (zK t) by unfold vf;rw[he];rfl);have L:=zy (ZI _ t l_ d0 wr P s ds (.slice sa ds.length k) (.iface H rx) (.iface H rx) xs et ex (O.o.fr j u_) (b9.o.fr j u_) (a5.o.fr j id));replace j:=zy j;go_wp2_with (go_at_call 78;apply L.o.mono;rintro e i ⟨I,rfl,c,f⟩;replace c:=zy c;replace f:=zy f);try go_ret
   rw[Q_.o];have S:=n.o.trans j u_;have hs:=S.size;refine⟨I,rfl,S.trans c u_,?_⟩;rw[N.o];have E:=f.o;cases hu:vq (zx ds) (zK t) with
   |nil=>rw[hu]at E;exact E
   |cons y r=>rw[hu]at E;exact E.ls hs
def nd:PT->Prop
 | .wrap c _ _=>c=91\/c=123
 | _=>True
def nT(h:TyV w P t v)(b:nd t):Calls prog 120 #[v] w λe w'=>e=.returned (.bool (decide (t.kind=40)))/\Fr w w' N_:=by
 cases h with
 |base c p hc=>
  have hk:decide ((PT.leaf c p).kind=40)=false:=by
   simp only[zY,av_,beq_iff_eq]at hc;exact decide_eq_false (by simp only[PT.kind];omega)
  rw[hk];obtain⟨u,hu⟩:=e_ (vI c);rw[<- hu];have hn:=jV c;rw[<- hu]at hn;have a:=vG u hn.2.2.1;clear hu hn hk;go_in;go_wp2;try go_ret
  exact⟨rfl,(A_ w _).alloc _⟩
 |name c p hc=>
  have hk:decide ((PT.leaf c p).kind=40)=false:=by
   simp only[zZ,a0_,decide_eq_true_eq]at hc;exact decide_eq_false (by simp only[PT.kind];omega)
  rw[hk];have a:=vG 208 D_;clear hk;go_in;go_wp2;try go_ret
  exact⟨rfl,(A_ w _).alloc _⟩
 |wrap c p h=>
  rename_i f v0;have hk:decide ((PT.wrap c p f).kind=40)=false:=by
   refine decide_eq_false ?_;show ¬(c=40);rcases b with h|h<;>omega
  rw[hk];obtain⟨u,hu,hn⟩:∃u,u=qB c/\u≠205:=⟨qB c,rfl,by unfold qB;split<;>decide⟩;rw[<- hu];have a:=vG u hn;clear hu hn hk;go_in;go_wp2;try go_ret
  exact⟨rfl,(A_ w _).alloc _⟩
 |alts p X ho hP h=>
  rename_i l sv;have a:=gL;have hk:decide ((PT.alts p l).kind=40)=true:=rfl;rw[hk];obtain⟨g,i,rfl⟩:=zh ho;clear ho hP h hk;go_in;go_wp2;try go_ret
  exact⟨rfl,(A_ w _).alloc _⟩
def mn(h:TyV w P t v)(b:nd t)(a:t.kind≠40):Calls prog 122 #[v] w λe w'=>e=.returned (U_ t.kind)/\Fr w w' N_:=by
 cases h with
 |base c p hc=>
  simp only[zY,av_,beq_iff_eq]at hc;simp only[PT.kind];rcases hc with(((rfl|rfl)|rfl)|rfl)|rfl
  .rw[show vI 110=191 from rfl];go_in;go_wp2;try go_ret
   exact⟨rfl,(A_ w _).alloc _⟩
  .rw[show vI 116=192 from rfl];go_in;go_wp2;try go_ret
   exact⟨rfl,(A_ w _).alloc _⟩
  .rw[show vI 105=194 from rfl];go_in;go_wp2;try go_ret
   exact⟨rfl,(A_ w _).alloc _⟩
  .rw[show vI 108=196 from rfl];go_in;go_wp2;try go_ret
   exact⟨rfl,(A_ w _).alloc _⟩
  .rw[show vI 115=197 from rfl];go_in;go_wp2;try go_ret
   exact⟨rfl,(A_ w _).alloc _⟩
 |name c p hc=>
  simp only[PT.kind];go_in;go_wp2;try go_ret
  exact⟨rfl,(A_ w _).alloc _⟩
 |wrap c p h=>
  obtain⟨f,f,rfl⟩:=h.iface;simp only[PT.kind];rcases b with rfl|rfl
  .rw[show qB 91=199 from rfl];go_in;go_wp2;try go_ret
   exact⟨rfl,(A_ w _).alloc _⟩
  .rw[show qB 123=201 from rfl];go_in;go_wp2;try go_ret
   exact⟨rfl,(A_ w _).alloc _⟩
 |alts p X ho hP h=>exact absurd rfl a
def nS{l:Af}{X:Cx}{n k:Nat}(ho:w.ownsRow 0 63 1 sv n ys)(hn:n<=l.length)(I:∀g,sv.ownBlock=some g->P g)(hy:∀i t,i<n->l[i]?=some t->ys[i]?=some (X i)/\TyV w P t (X i))(G:∀t∈l,nd t)(D:∀t∈l.take n,t.kind≠40)(I:n<=300):Calls prog 121 #[sv,U_ k] w λe w'=>e=.returned (.bool (decide (k∈(l.take n).map PT.kind)))/\Fr w w' N_:=by
 refine hq_ λI y=>?_;obtain⟨I,I,rfl⟩:=zh ho;have C:H_ (∃q:Nat,Value.int .i64 0=I_ q/\q<=n/\n+1-q<=n+1/\Fr w w N_/\k∉(l.take q).map PT.kind):=zy ⟨0,rfl,aj_ _,M_,A_ _ _,by simp⟩;replace ho:=zy ho;replace hy:=zy hy;go_in;go_wp2;go_loopg [9] (n+1) (λm v W=>∃q:Nat,v=I_ q/\q<=n/\n+1-q<=m/\Fr w W N_/\k∉(l.take q).map PT.kind);case atStart=>exact C
 case round=>
  obtain⟨q,rfl,C,hm,a,he⟩:=hrel;by_cases r:q<n
  .have F:(q:Int)<(n:Int):=M_;have C:q<l.length:=M_;have hd:l[q]?=some l[q]:=ak_ C;have A:l[q]∈l:=a9_ C;have B:l[q]∈l.take n:=by
    rw[List.mem_iff_getElem?];exact⟨q,by rw[cd_,i_ r];exact hd⟩
   generalize l[q]=t at hd A B;obtain⟨g,C,C⟩:=zu ho M_;cases C;obtain⟨u,j⟩:=hy.o q t r hd;obtain⟨T,x,e⟩:=j.iface;rw[e]at u j;have c0:=ze (zk ho a u_) rfl u;have p:=zy (mn (j.fr a u_) (G t A) (D t B));have c:(l.take (q+1)).map PT.kind=(l.take q).map PT.kind++[t.kind]:=by rw[a8_,hd];simp
   obtain⟨f,z⟩:=x_ t.kind;rw[z]at p c;replace a:=zy a;by_cases hk:f=k
   .subst hk;have E:H_ (f∈(l.take n).map PT.kind):=zy (by
     have:(l.take (q+1)).map PT.kind <+: (l.take n).map PT.kind:=(List.take_prefix_take_left M_).map PT.kind
     exact this.subset (by rw[c];simp))
    go_wp2_with (go_at_call 122;apply p.o.mono;rintro e H ⟨rfl,b⟩;replace b:=zy b);try go_ret
    rw[y.o];exact⟨by rw[decide_eq_true E.o];rfl,a.o.trans b u_⟩
   .have j:((f:Int)==(k:Int))=false:=x4_
    have E:=zy (show k∉(l.take (q+1)).map PT.kind by rw[c,bn_,ba_];rintro(h|h);exact he h;exact hk h.symm);go_wp2_with (go_at_call 122;apply p.o.mono;rintro e H ⟨rfl,b⟩;replace b:=zy b);go_roundg (n+1-(q+1));case measure=>omega
    case rel=>exact⟨q+1,rfl,r,l_,a.o.trans b u_,E⟩
  .have F:¬((q:Int)<(n:Int)):=M_;have b:q=n:=M_;rw[b]at he;replace he:=zy he;replace a:=zy a;go_wp2;try go_ret
   rw[y.o];exact⟨by rw[decide_eq_false he.o],a⟩
def uO(t:PT):Prop:=∀(w:World) (P:Nat->Prop) (v:Value) (et:TypeId) (ex:Value),TyV w P t v->vt 2 w et ex->
 Calls prog 80 #[v] w (yI w (.iface et ex) (yC t))
def Vc(c p:Nat):uO (.leaf c p):=by
 intro w P v et ex e g;refine hq_ λi f=>?_;obtain⟨u,x,rfl,h1,a,b⟩:∃u x,v=.iface u x/\u≠199/\u≠201/\u≠205:=by
  cases e with
  |base _ _ h=>exact⟨_,_,rfl,(jV c).1,(jV c).2.1,(jV c).2.2.1⟩
  |name _ _ h=>exact⟨_,_,rfl,D_,D_,D_⟩
 have i:=ww u h1;have i:=gH u a;have i:=vG u b;go_in;go_wp2;try go_ret
 rw[f.o];refine⟨.nilIface,rfl,A_ w _,?_⟩;rw[yC]
def cwVm1_{p:Prop}(h:p:=by
 (first|(have:=cc1;simp only[qB,n_ hc])|(subst hc;simp only[qB,if_true]));go_in;go_wp2_with (go_at_call 80;apply(hcall.o _).mono;rintro e w2 ⟨v2,rfl,hf2,hm⟩;replace hf2:=zy hf2;replace hm:=zy hm);try go_ret
 rw[Q_.o];refine⟨v2,rfl,((A_ w N_).alloc _).trans hf2.o u_,?_⟩;rw[yC];have hm':=hm.o;cases hL:yC t with
 |nil=>rw[hL]at hm';exact hm'
 |cons x r=>rw[hL]at hm';exact hm'.ls x8_):p:=h
def Vm(c p:Nat)(t:PT)(k:uO t):uO (.wrap c p t):=by
 intro w P v et ex j g;refine hq_ λi Q_=>?_;obtain⟨v2,f,rfl⟩:∃v2,TyV w P t v2/\v=.iface (qB c) (.agg #[I_ p,v2]):=by
  cases j with
  |wrap _ _ h=>exact⟨_,h,rfl⟩
 obtain⟨a,b,rfl⟩:=f.iface;have hcall:H_ (∀T,Calls prog 80 #[.iface a b] (w.alloc (.cells #[I_ p,.iface a b] T)) (yI (w.alloc (.cells #[I_ p,.iface a b] T)) (.iface et ex) (yC t))):=zy (λT=>by
  have i:Fr w (w.alloc (.cells #[I_ p,.iface a b] T)) N_:=(A_ w _).alloc _
  exact k _ P _ _ _ (f.fr i u_) (g.fr i id))
 by_cases hc:c=91
 .exact cwVm1_
 .have cc1:=Nat;exact cwVm1_
def ZP{l:Af}(h:l[q]?=some t)(a:Ai):ji a (l.drop q)=(if t.kind=40\/t.kind∈a then [t.place] else [])++(yC t++ji (a++[t.kind]) (l.drop (q+1))):=by
 have hl:=(am_.1 h).1;rw[bc_ hl,ji,(am_.1 h).2]
def KV{e:As}{g m cap n:Nat}(h:w.ownsRow 0 e 1 (S_ g m cap) n xs)(o:q<=n):w.ownsRow 0 e 1 (S_ g q cap) q (xs.take q):=by
 obtain⟨h1,b⟩:=h;refine⟨by rw[b8_,h1];omega,.inr ?_⟩;rcases b with⟨e,_⟩|⟨g',l,a,e,c,f,p,i,j,k⟩
 .cases e
 .cases e;refine⟨g,cap,a,rfl,c,f,M_,i,j,?_⟩;rw[<- k,List.take_take]
  congr 1
  omega
def GI(w0:Aw)(l:Af)(m:Nat)(v:Ax)(W:Aw):Prop:=
 ∃q:Nat,v=I_ q/\q<=l.length/\l.length+1-q<=m/\Fr w0 W N_/\ji [] l=ji ((l.take q).map PT.kind) (l.drop q)/\∀t∈l.take q,t.kind≠40
def iA{T:As}{x:Ax}(h:TyV w P t (.iface T x)):∀W,(method 496 T x "Place").run prog W=.ok (76,I_ t.place) W:=by
 cases h with
 |base c p hc=>
  simp only[zY,av_,beq_iff_eq]at hc;rcases hc with(((rfl|rfl)|rfl)|rfl)|rfl
  .intro W;show(method 496 191 (.agg #[I_ p]) "Place").run prog W=_;kernel_rfl
  .intro W;show(method 496 192 (.agg #[I_ p]) "Place").run prog W=_;kernel_rfl
  .intro W;show(method 496 194 (.agg #[I_ p]) "Place").run prog W=_;kernel_rfl
  .intro W;show(method 496 196 (.agg #[I_ p]) "Place").run prog W=_;kernel_rfl
  .intro W;show(method 496 197 (.agg #[I_ p]) "Place").run prog W=_;kernel_rfl
 |name c p hc=>intro W;kernel_rfl
 |wrap c p h=>
  intro W;unfold qB;split
  .kernel_rfl
  .kernel_rfl
 |alts p X ho hP h=>intro W;kernel_rfl
def cwVl1_{p:Prop}(h:p:=by
 (first|(have:=cc1;rw[decide_eq_true hks])|(rw[decide_eq_true hk40]));(first|(have:=cc1;rw[i_ (.inr hks)]at he)|(rw[i_ (.inl hk40)]at he));have hL:=zy (show yC (.alts p l)=t.place::(yC t++ji ((l.take q).map PT.kind++[t.kind]) (l.drop (q+1))) by rw[yC,he];rfl);(first|(have:=cc1;refine t2_ 10 c4 ?_)|(refine tY_ 2 ?_));(first|(have:=cc1;refine zV K_ c4 ?_ _)|(refine vY 3 rfl K_ (λ_ _ _ h=>h) K_ ?_));(first|(have:=cc1;have e2:=E1.fr fW4 id)|(refine vY 4 rfl K_ (λ_ _ _ h=>h) K_ ?_));(first|(have:=cc1;have hT2:=hT.fr fW4 u_)|(refine vY 5 rfl K_ (λ_ _ _ h=>h) K_ ?_));(first|(have:=cc1;replace fW4:=zy fW4)|(refine vY 6 rfl K_ (λ_ _ _ h=>h) K_ ?_));(first|(have:=cc1;replace e2:w4.cell? ⟨2,0,none⟩=some (.iface et ex):=e2)|(refine vY 7 rfl K_ (λ_ _ _ h=>h) K_ ?_;refine vY 8 rfl K_ (λ_ _ _ h=>h) K_ ?_;refine vY 9 rfl K_ (λ_ _ _ h=>h) K_ ?_;refine t2_ 10 c2 ?_;refine zV K_ c2 ?_ _;have e2:=E1.fr fW2 id;have hT2:=hT.fr fW2 u_;replace fW2:=zy fW2;clear he htk;replace e2:w2.cell? ⟨2,0,none⟩=some (.iface et ex):=e2));have hpm:=iA hT2;(try have:=cc1;clear he htk hCh hCk);go_wp2;refine tr_ 6 (λW=>z_ W 2 0 (.iface et ex)) ?_;refine tz_ 0 ?_;refine tz_ 2 ?_;refine yz 1 rfl K_ (λ_=>e2) (λK hK=>?_);go_simp;apply(vV (t.place:Int) _).mono;rintro e w' ⟨rfl,rfl⟩;refine hK _ _ ?_;clear hK K;refine tz_ 3 ?_;refine t1_ 4 e2 ?_;(first|(have:=cc1;have e3:(w4.drew.alloc (.cells #[I_ t.place,.iface et ex] 177)).cell? ⟨2,0,none⟩=some (.iface et ex):=(World.cell?_alloc_lt (w4.drew) _ ⟨2,0,none⟩ (by exact World.block_lt_of_cell? w4 ⟨2,0,none⟩ e2)).trans e2)|(have e3:(w2.drew.alloc (.cells #[I_ t.place,.iface et ex] 177)).cell? ⟨2,0,none⟩=some (.iface et ex):=(World.cell?_alloc_lt (w2.drew) _ ⟨2,0,none⟩ (by exact World.block_lt_of_cell? w2 ⟨2,0,none⟩ e2)).trans e2));refine t1_ 5 e3 ?_;refine t1_ 6 e3 ?_;refine td_ ?_ _;go_wp2;try go_ret
 rw[Q_.o];(first|(have:=cc1;have hF2:=hFw.o.trans fW4.o u_)|(have hF2:=hFw.o.trans fW2.o u_));have hs2:=hF2.size;refine⟨_,rfl,(hF2.alloc _).drew,?_⟩;rw[hL.o];(first|(have:=cc1;exact⟨w4.heap.size,hs2,rfl,(B_ w4 _ _).drew⟩)|(exact⟨w2.heap.size,hs2,rfl,(B_ w2 _ _).drew⟩))):p:=h
def Vl(p:Nat)(l:Af)(a3:l.length<=300)(D:∀t∈l,nd t)(J:∀t∈l,uO t):uO (.alts p l):=by
 intro w P v et ex S O;refine hq_ λa2 Q_=>?_;obtain⟨X,E,ho,hP,hX,rfl⟩:∃X E,w.ownsRow 0 63 1 E l.length ((List.range l.length).map X)/\(∀g,E.ownBlock=some g->P g)/\(∀i t,l[i]?=some t->TyV w P t (X i))/\v=.iface 205 (.agg #[I_ p,E]):=by
  cases S with
  |alts _ X ho hP h=>exact⟨X,_,ho,hP,h,rfl⟩
 obtain⟨ba,z,rfl⟩:=zh ho;obtain⟨w0,hw0⟩:=e_ (w.alloc (.cells #[I_ p,.slice ba l.length z] 205));have c:Fr w w0 N_:=y2_
 have F:Blk w0 w.heap.size [I_ p,.slice ba l.length z] 205:=by rw[hw0];exact B_ w #[I_ p,.slice ba l.length z] 205
 have Z:=zy (O.fr c id);have I:=zy (zk ho c u_);have a0:=zy (λi t e=>(hX i t e).fr c u_);replace F:=zy F;replace c:=zy c;have U:H_ (GI w0 l (l.length+1) (O_) w0):=zy ⟨0,rfl,aj_ _,M_,A_ _ _,rfl,λt E=>by simp at E⟩;have E:=ww 205 D_;have O:=gH 205 D_;have S:=gL;replace J:=zy J;replace D:=zy D;go_in;go_wp2;rw[<- hw0];go_loopg [6,28] (l.length+1) (λm u v W=>GI w0 l m v W);case atStart=>exact U
 case round=>
  obtain⟨q,rfl,E,hm,a,he,M⟩:=hrel;have b:=a.bl F id;by_cases A:q<l.length
  .have a1:(q:Int)<(l.length:Int):=M_;have hd:l[q]?=some l[q]:=ak_ A;have H:l[q]∈l:=a9_ A;generalize l[q]=t at hd H;obtain⟨g,E,E⟩:=zu I M_;cases E;have E:=zk I a u_;have n:=λi t e=>(a0.o i t e).fr a u_;obtain⟨T,x,c0,hT⟩:=mB E n hd;have F:(q:Int)<=(z:Int):=by
    obtain⟨_,F⟩:=I.o;rcases F with⟨e,_⟩|⟨g',F,F,e,F,F,F,F,F,F⟩
    .cases e
    .cases e;omega
   have R:=D.o t H;have B:=KV E (Nat.le_of_lt A);rw[ZP hd]at he;have htk:(l.take (q+1)).map PT.kind=(l.take q).map PT.kind++[t.kind]:=by rw[a8_,hd];simp
   have E1:=Z.o.fr a id;have hFw:=zy (c.o.trans a u_);have c1:=b.c1;have Q:=zy (And.intro b (And.intro E1 (And.intro B (And.intro n (And.intro hT a)))));go_wp2;have E:zw wr wr.drew:=zw.drew wr;obtain⟨b,E1,B,n,hT,a⟩:=Q.o;have L:Fr wr wr.drew N_:=(A_ wr _).si E;refine tR_ (λW=>z_ W w.heap.size 1 (S_ g l.length z)) ?_;refine tY_ 0 ?_;refine zd 1 rfl K_ c1 (λK hK=>?_);go_simp;apply(nT (hT.fr L u_) R).mono;rintro e w2 ⟨rfl,z⟩;refine hK _ _ ?_;have fW2:Fr wr w2 N_:=L.trans z u_;have c2:=(fW2.bl b id).c1;by_cases hk40:t.kind=40
   .exact cwVl1_
   .rw[decide_eq_false hk40];have hCk:=mn (hT.fr fW2 u_) R hk40;refine tY_ 2 ?_;refine tY_ 3 ?_;refine tY_ 4 ?_;refine tY_ 5 ?_;refine tY_ 6 ?_;refine tY_ 7 ?_;refine zd 8 rfl K_ c2 (λK hK=>?_);go_simp;apply hCk.mono;rintro e w3 ⟨rfl,z⟩;refine hK _ _ ?_;have C:Fr wr w3 N_:=fW2.trans z u_;have c3:=(C.bl b id).c1;have hCh:=nS (l:=l) (X:=X) (k:=t.kind) (zk B C u_) (Nat.le_of_lt A) hP (λi u z hu=>⟨by rw[cd_,i_ z,a1_,List.getElem?_range M_];rfl,(n i u hu).fr C u_⟩) D M M_;refine zd 9 rfl K_ c3 (λK hK=>?_);go_simp;apply hCh.mono;rintro e w4 ⟨rfl,z⟩;refine hK _ _ ?_;have fW4:Fr wr w4 N_:=C.trans z u_;have c4:=(fW4.bl b id).c1;by_cases hks:t.kind∈(l.take q).map PT.kind
    .have cc1:=Nat;exact cwVl1_
    .rw[decide_eq_false hks];rw[n_ (λh=>h.elim hk40 hks),br_]at he;refine t2_ 10 c4 ?_;refine zV K_ c4 ?_ _;have N:=zy (J.o t H w4 P (.iface T x) et ex (hT.fr fW4 u_) (E1.fr fW4 id));replace fW4:=zy fW4;cases hu:yC t with
     |nil=>
      rw[hu,br_]at he;replace he:=zy he;replace hu:=zy hu;go_wp2_with (go_at_call 80;apply N.o.mono;rintro e w5 ⟨V,rfl,f,j⟩;rw[hu.o]at j;replace j:V=.nilIface:=j;subst j;replace f:=zy f);go_roundg (l.length+1-(q+1));case measure=>omega
      case rel=>
       obtain⟨_,_,_,_,_,a⟩:=Q.o;refine⟨q+1,rfl,A,l_,(a.trans fW4 u_).trans f u_,by rw[htk];exact he,λu b=>?_⟩;rw[a8_,hd]at b;rcases bn_.1 b with h|h
       .exact M u h
       .simp only[Option.toList_some,ba_]at h;rw[h];exact hk40
     |cons y r=>
      rw[hu,bf_]at he;have hL:=zy (show yC (.alts p l)=y::(r++ji ((l.take q).map PT.kind++[t.kind]) (l.drop (q+1))) by rw[yC,he]);replace hu:=zy hu;go_wp2_with (go_at_call 80;apply N.o.mono;rintro e w5 ⟨V,rfl,f,j⟩;rw[hu.o]at j;obtain⟨Y,b,rfl,G⟩:=j;replace f:=zy f;replace G:=zy G);try go_ret
      rw[Q_.o];have hF2:=hFw.o.trans fW4 u_;have hs2:=hF2.size;refine⟨_,rfl,hF2.trans f u_,?_⟩;rw[hL.o];exact⟨Y,M_,rfl,G⟩
  .have a1:¬((q:Int)<(l.length:Int)):=M_;rw[bz_ M_,ji]at he;have hL:=zy (show yC (.alts p l)=[] by rw[yC,he]);replace a:=zy a;go_wp2;try go_ret
   rw[Q_.o];refine⟨.nilIface,rfl,c.o.trans a u_,?_⟩;rw[hL.o]
def Yi:∀(n:Nat) (t:PT),SizeOf.sizeOf t<=n->vo t->shT t->uO t:=by
 intro n;induction n with
 |zero=>intro t h;cases t<;>simp at h
 |succ n ih=>
  intro t h hb hs;cases t with
  |leaf c p=>exact Vc c p
  |wrap c p t=>
   unfold vo at hb;unfold shT at hs;exact Vm c p t (ih t (by simp at h;omega) hb hs.2)
  |alts p ts=>
   unfold vo at hb;unfold shT at hs;have a:∀t∈ts,shT t:=by
    have:=hs.2;clear hs hb h;induction ts with
    |nil=>intro t ht;simp at ht
    |cons x r ihr=>
     unfold iC at this;intro t ht;rcases aq_.1 ht with rfl|ht
     .exact this.1
     .exact ihr this.2 t ht
   refine Vl p ts hb.1 (λt ht=>?_) (λt ht=>ih t yp_ (hb.2 t ht) (a t ht));have:=a t ht;cases t with
   |wrap c p t=>unfold shT at this;exact this.1
   |leaf c p=>trivial
   |alts p l=>trivial
def xJ.append{g:Am}(h:xJ w P s fs xs)(k:xJ w P s g ys)(hl:xs.length=fs.length*4):xJ w P s (fs++g) (xs++ys):=λi f e=>by
 by_cases g:i<fs.length
 .rw[ay_ g]at e;obtain⟨a,b,c,d,h1,g,j,l,m⟩:=h i f e;exact⟨a,b,c,d,by rw[ay_ M_];exact h1,by rw[ay_ M_];exact g,by rw[ay_ M_];exact j,by rw[ay_ M_];exact l,m⟩
 .rw[ax_ M_]at e;obtain⟨a,b,c,d,h1,g,j,l,m⟩:=k _ f e;refine⟨a,b,c,d,?_,?_,?_,?_,m⟩
  .rw[ax_ M_,show 4*i-xs.length=4*(i-fs.length) by omega];exact h1
  .rw[ax_ M_,show 4*i+1-xs.length=4*(i-fs.length)+1 by omega];exact g
  .rw[ax_ M_,show 4*i+2-xs.length=4*(i-fs.length)+2 by omega];exact j
  .rw[ax_ M_,show 4*i+3-xs.length=4*(i-fs.length)+3 by omega];exact l
def xJ.one(h:xJ w P s fs xs)(hl:xs.length=fs.length*4):∀u∈xs,u.oneCell'=true:=by
 intro u hu;obtain⟨j,f⟩:=List.mem_iff_getElem?.1 hu;have g:=(am_.1 f).1;have n:j / 4<fs.length:=M_;obtain⟨a,b,c,d,h1,i,k,l,rfl,rfl,m,g⟩:=h (j / 4) _ (ak_ n);have hr:j=4*(j / 4)\/j=4*(j / 4)+1\/j=4*(j / 4)+2\/j=4*(j / 4)+3:=M_;rcases hr with e|e|e|e
 .rw[<- e,f]at h1;simp only[ae_]at h1;rw[h1];rfl
 .rw[<- e,f]at i;simp only[ae_]at i;rw[i];rfl
 .rw[<- e,f]at k;simp only[ae_]at k;obtain⟨T,x,q⟩:=m.iface;rw[k,q];rfl
 .rw[<- e,f]at l;simp only[ae_]at l;have:∃f,d=.pointer f:=by
   unfold DfV at g;split at g
   .exact⟨_,g⟩
   .obtain⟨g',i,_,e,_⟩:=g;exact⟨_,e⟩
  obtain⟨f,q⟩:=this;rw[l,q];rfl
def jE(h:ds[q]?=some d):zp (ds.take (q+1))=zp (ds.take q)++d.body.fs:=by
 unfold zp;rw[a8_,h];simp
def Ky(w0:Aw)(P:Au)(s:BA)(ds:Ar)(m:Nat)(fv v:Ax)(W:Aw):Prop:=
 ∃(q:Nat) (ys:List Value),v=I_ q/\q<=ds.length/\ds.length+1-q<=m/\Fr w0 W N_/\W.ownsRow w0.heap.size 185 4 fv (zp (ds.take q)).length ys/\xJ W P s (zp (ds.take q)) ys
def gF(q:Nat):(zp (ds.take q)).length<=(zp ds).length:=by
 have h:zp ds=zp (ds.take q)++zp (ds.drop q):=by
  unfold zp;rw[<- bj_,List.take_append_drop]
 rw[h,ah_];omega
def cwee1_{p:Prop}(h:p:=by
 have a:fs=[]:=List.length_eq_zero_iff.1 M_;subst a;simp only[ar_,Value.slice.injEq,true_and]at e;obtain⟨rfl,rfl⟩:=e;clear ho h hP;go_wp2_with (at_builtin;go_must (refine wpList_append_own_none rfl _ _ 179 rfl w0.heap.size 185 ti 4 kU hi1 (.slice fa n fc) n ys rfl hrow2.o rfl ?_));go_roundg (ds.length+1-(q+1));case measure=>omega
 case rel=>exact nope.o _ rfl ((A_ _ _).alloc _)):p:=h
def cwee2_{p:Prop}(h:p:=by
 have hlt':¬((q:Int)<(ds.length:Int)):=M_;(first|(have:=cc1;rw[a6_ M_]at hn hV hLx)|(rw[a6_ M_]at hn hV));have a:=zy (show xQ wr (λg=>P g\/w.heap.size<=g) s (zp ds) (.slice fa n fc) ys from⟨by rw[hn];exact yP hrow,λg e=>.inr (by have:=hrow.lt g e;omega),hV.mono (λg _ hg=>.inl hg)⟩);replace hf:=zy hf;clear hrow hV;go_wp2;try go_ret
 rw[Q_.o];(first|(have:=cc1;exact⟨_,ys,rfl,hf0.o.trans hf.o u_,a.o,hLx.o⟩)|(exact⟨_,ys,rfl,hf0.o.trans hf.o u_,a.o⟩))):p:=h
def ee(D:xf w P s ds sv xs)(d7:(zp ds).length<=300)(H:∀g,P g->g<w.heap.size):Calls prog 79 #[.agg #[sv,rv]] w λe w'=>∃fv ys,e=.returned fv/\Fr w w' N_/\xQ w' (λg=>P g\/w.heap.size<=g) s (zp ds) fv ys:=by
 refine hq_ λb8 Q_=>?_;obtain⟨sa,sc,rfl⟩:=zh D.row;have d6:=D.len;obtain⟨w0,hw0⟩:=e_ (w.alloc (.cells #[.slice sa ds.length sc,rv] 65));have hf0:Fr w w0 N_:=y2_
 have e0:w0.heap.size=w.heap.size+1:=by rw[hw0];simp
 have L:=zy (D.fr hf0 u_);have V:H_ (Ky w0 P s ds (ds.length+1) (L_) (O_) w0):=zy ⟨0,[],rfl,aj_ _,M_,A_ _ _,World.ownsRow_nil _ _ _ _,λi f e=>by simp[zp]at e⟩;replace hf0:=zy hf0;replace H:=zy H;go_in;go_wp2;rw[<- hw0];go_loopg [3,11] (ds.length+1) (λm u v W=>Ky w0 P s ds m u v W);case atStart=>exact V
 case round=>
  obtain⟨q,ys,rfl,hq,hm,hf,hrow,hV⟩:=hrel;have d9:=hf.size;obtain⟨n,hn⟩:=x_ ((zp (ds.take q)).length);rw[hn]at hrow;obtain⟨fa,fc,rfl⟩:=zh hrow;by_cases J:q<ds.length
  .have hlt':(q:Int)<(ds.length:Int):=M_;have hd:ds[q]?=some ds[q]:=ak_ J;generalize ds[q]=d at hd;obtain⟨g,b9,a4⟩:=zu L.o.row M_;cases a4;have M:=L.o.fr hf u_;obtain⟨T,x,c0,c1,c2,hb⟩:=M.cells hd;have c:=jE hd;have I:=gF (ds:=ds) (q+1);rw[c,ah_]at I;rw[hn]at I;obtain⟨pl,U⟩:=x_ d.place;obtain⟨lt,R⟩:=x_ d.letter;rw[U]at c0;rw[R]at c1;have l:=(A_ wr N_).alloc (.cells #[I_ pl,U_ lt,.iface T x] 169);have C:=zk hrow l u_;have z:=hV.fr l u_;have E:=hb.fr l u_;have B:=hf.trans l u_;generalize a2:d.body=bd at hb E c I;have nope:H_ (∀W,bd.fs=[]->Fr (wr.alloc (.cells #[I_ pl,U_ lt,.iface T x] 169)) W N_->Ky w0 P s ds (ds.length+1-(q+1)) (.slice fa n fc) (Z_ ((q:Int)+1)) W):=zy (λW O A=>⟨q+1,ys,rfl,J,l_,B.trans A u_,by rw[c,O,bd_,hn];exact zk C A u_,by rw[c,O,bd_];exact z.fr A u_⟩);cases hb with
   |enum p ho hP hu hp=>
    go_wp2;go_roundg (ds.length+1-(q+1));case measure=>omega
    case rel=>exact nope.o _ rfl ((A_ _ _).alloc _)
   |bytes p k=>
    go_wp2;go_roundg (ds.length+1-(q+1));case measure=>omega
    case rel=>exact nope.o _ rfl ((A_ _ _).alloc _)
   |recd p ho hP h hp=>
    rename_i fs e1 zs;obtain⟨F,a,rfl⟩:=zh ho;obtain⟨ti,hi1,a6,a7,a8⟩:=info_parts lN;have r:=(A_ (wr.alloc (.cells #[I_ pl,U_ lt,.iface 210 (.agg #[I_ p,.slice F fs.length a])] 169)) N_).alloc (.cells #[I_ p,.slice F fs.length a] 210);have hrow2:=zy (zk C r u_);have a0:=zy (z.fr r u_);have a3:=zy (B.trans r u_);have d2:fs.length<=300:=yk_
    have S:=ho.1;have b7:=zy (h.one S);have Y:=zy ((h.fr ((A_ wr N_).alloc (.cells #[I_ pl,U_ lt,.iface 210 (.agg #[I_ p,.slice F fs.length a])] 169)) u_).fr r u_);rcases ho.2 with⟨e,d8⟩|⟨b,d0,d1,e,k1,k2,k3,k4,k5,k6⟩
    .exact cwee1_
    .have e':F=some ⟨b,0,none⟩:=by cases e;rfl
     subst e';have b6:=zy (λ(W:World) (A:Fr wr W N_) j u (a9:zs[j]?=some u)=>(show W.cell? ((⟨b,0,none⟩:Addr).add j)=some u from by
      have:=ze (zk ho A u_) rfl a9
      unfold Addr.add
      split
      .rename_i h0;rw[h0]at this;exact this
      .simpa using this))
     have N:=zy (λg (hg:P g)=>show ¬(Value.slice fa n fc).ownBlock=some g from λX=>by have:=hrow2.o.lt g X;have:=H.o g hg;omega);have a1:=zy (show Fr wr ((wr.alloc (.cells #[I_ pl,U_ lt,.iface 210 (.agg #[I_ p,S_ b fs.length a])] 169)).alloc (.cells #[I_ p,S_ b fs.length a] 210)) N_ from((A_ wr _).alloc _).alloc _)
     go_wp2_with (at_builtin;go_must (refine wpList_append_own_at _ rfl _ _ 179 rfl w0.heap.size 185 ti _ 4 40 kU hi1 a6 a7 a8 rfl D_ (.slice fa n fc) n ys rfl hrow2 ⟨b,0,none⟩ fs.length a zs rfl S (b6.o _ a1) b7 ?b1 ?b2 ?b3 ?_)
                  case b1=>unfold maxLen;omega
                  case b2=>omega
                  case b3=>simp;omega
                  intro v5 w5 K Q b5 b4
                  obtain⟨a5,c5,rfl⟩:=zh K
                  have Z:=zy Q
                  have hO:=zy K
                  clear Q b4 b5 K)
     go_roundg (ds.length+1-(q+1));case measure=>omega
     case rel=>
      have G:Fr ((wr.alloc (.cells #[I_ pl,U_ lt,.iface 210 (.agg #[I_ p,S_ b fs.length a])] 169)).alloc (.cells #[I_ p,S_ b fs.length a] 210)) w5 (λg=>(Value.slice fa n fc).ownBlock=some g):=T_ (A_ _ _) Z (λk e _=>e);refine⟨q+1,ys++zs,rfl,J,l_,a3.o.trans G (λy hy e=>by have:=hrow2.o.lt y e;omega),?_,?_⟩
      .rw[c,ah_,hn];exact hO
      .rw[c];exact xJ.append (a0.o.fr G N) (Y.o.fr G N) zf_
  .exact cwee2_
def QV{f:PF}(h:fs[q]?=some f):(fs.drop q).flatMap (λf=>yC f.ty)=yC f.ty++(fs.drop (q+1)).flatMap (λf=>yC f.ty):=by
 have hl:=(am_.1 h).1;rw[bc_ hl,bo_,(am_.1 h).2]
def uh(D:xf w P s ds sv xs)(j:TyV w P t rv)(I:vt 2 w et ex)(a1:(zp ds).length<=300)(N:∀f∈zp ds,vo f.ty/\shT f.ty)(O:vo t/\shT t)(K:∀g,P g->g<w.heap.size):Calls prog 55 #[.agg #[sv,rv]] w (yI w (.iface et ex) (xH ds t)):=by
 refine hq_ λa3 G=>?_;obtain⟨S,U,rfl⟩:=zh D.row;obtain⟨z,rx,rfl⟩:=j.iface;have h:Fr w (w.alloc (.cells #[.slice S ds.length U,.iface z rx] 65)) N_:=(A_ w _).alloc _;have B:=B_ w #[.slice S ds.length U,.iface z rx] 65;have H:=zy (ee (rv:=.iface z rx) (D.fr h u_) a1 (λg hg=>bg_ (K g hg) h.size));have a0:=zy (j.fr h u_);have J:=zy (I.fr h id);replace B:=zy B;replace h:=zy h;go_in;go_wp2_with (go_at_call 79;apply H.o.mono;rintro e w1 ⟨fv,ys,rfl,i,k⟩;obtain⟨I,I,rfl⟩:=zh k.row;replace i:=zy i;replace k:=zy k);have V:H_ (∃q:Nat,Value.int .i64 0=I_ q/\q<=(zp ds).length/\(zp ds).length+1-q<=(zp ds).length+1/\Fr w1 w1 N_/\xH ds t=((zp ds).drop q).flatMap (λf=>yC f.ty)++yC t):=zy ⟨0,rfl,aj_ _,M_,A_ _ _,rfl⟩;go_loopg [9] ((zp ds).length+1) (λm v W=>∃q:Nat,v=I_ q/\q<=(zp ds).length/\(zp ds).length+1-q<=m/\Fr w1 W N_/\xH ds t=((zp ds).drop q).flatMap (λf=>yC f.ty)++yC t);case atStart=>exact V
 case round=>
  obtain⟨q,rfl,H,hm,c,he⟩:=hrel;by_cases E:q<(zp ds).length
  .have a2:(q:Int)<((zp ds).length:Int):=M_;have hd:(zp ds)[q]?=some (zp ds)[q]:=ak_ E;have F:(zp ds)[q]∈zp ds:=a9_ E;generalize (zp ds)[q]=f at hd F;obtain⟨g,H,H⟩:=zu k.o.row M_;cases H;obtain⟨T,x,d,c0,c1,c2,c3,j,Z⟩:=(k.o.fr c u_).cells hd;rw[QV hd]at he;obtain⟨l,M⟩:=x_ f.letter;obtain⟨pl,Q⟩:=x_ f.place;rw[M]at c1;rw[Q]at c0;have k:=(A_ wr N_).alloc (.cells #[I_ pl,U_ l,.iface T x,.pointer d] 185);have u:=zy (Yi _ f.ty l_ (N f F).1 (N f F).2 _ _ _ et ex (j.fr k u_) (((J.o.fr i id).fr c id).fr k id));have L:=zy (c.trans k u_);cases hu:yC f.ty with
   |nil=>
    rw[hu,br_]at he;replace he:=zy he;replace hu:=zy hu;go_wp2_with (go_at_call 80;apply u.o.mono;rintro e X ⟨A,rfl,a,b⟩;rw[hu.o]at b;replace b:A=.nilIface:=b;subst b;replace a:=zy a);go_roundg ((zp ds).length+1-(q+1));case measure=>omega
    case rel=>exact⟨q+1,rfl,E,l_,L.o.trans a u_,he⟩
   |cons y r=>
    rw[hu,bf_,bf_]at he;replace he:=zy he;replace hu:=zy hu;go_wp2_with (go_at_call 80;apply u.o.mono;rintro e X ⟨A,rfl,a,b⟩;rw[hu.o]at b;obtain⟨Y,j,rfl,C⟩:=b;replace a:=zy a;replace C:=zy C);try go_ret
    rw[G.o];have n:=(h.o.trans i u_).trans L u_;have R:=n.size;refine⟨_,rfl,n.trans a u_,?_⟩;rw[he.o];exact⟨Y,M_,rfl,C⟩
  .have a2:¬((q:Int)<((zp ds).length:Int)):=M_;rw[bz_ M_,b4_,br_]at he;have j:=c.bl (i.o.bl B id) id;have k:=j.c1;have u:=zy (Yi _ t l_ O.1 O.2 wr P (.iface z rx) et ex ((a0.o.fr i u_).fr c u_) ((J.o.fr i id).fr c id));replace he:=zy he;replace c:=zy c;go_wp2_with (go_at_call 80;apply u.o.mono;rintro e X ⟨A,rfl,a,b⟩;replace a:=zy a;replace b:=zy b);try go_ret
   rw[G.o];have n:=(h.o.trans i u_).trans c u_;have R:=n.size;refine⟨A,rfl,n.trans a u_,?_⟩;rw[he.o];have a:=b.o;cases hu:yC t with
   |nil=>rw[hu]at a;exact a
   |cons y r=>rw[hu]at a;exact a.ls R
def uk(X:Cm)(fs:Am)(ys:Az):Prop:=∀i f d,fs[i]?=some f->ys[4*i+3]?=some d->X f d
def uk.append{X:Cm}{a:Am}(h:uk X fs xs)(k:uk X a ys)(hl:xs.length=fs.length*4):uk X (fs++a) (xs++ys):=λi f d e a=>by
 by_cases b:i<fs.length
 .rw[ay_ b]at e;rw[ay_ M_]at a;exact h i f d e a
 .rw[ax_ M_]at e;rw[ax_ M_]at a;exact k (i-fs.length) f d e (by rw[<- a];congr 1;omega)
def aW(X:Cm)(w:Aw)(ds:Ar)(sv:Ax):Prop:=
 ∀(W:World) (g q cap m:Nat) (d:PD) (p:Nat) (fs:List PF) (fv:Value) (zs:List Value),Fr w W N_->sv=S_ g m cap->ds[q]?=some d->d.body=.recd fs->W.cell? ⟨g,q*3+2,none⟩=some (.iface 210 (.agg #[I_ p,fv]))->W.ownsRow 0 185 4 fv fs.length zs->uk X fs zs
def ZT(X:Cm)(w0:Aw)(P:Au)(s:BA)(ds:Ar)(m:Nat)(fv v:Ax)(W:Aw):Prop:=
 ∃(q:Nat) (ys:List Value),v=I_ q/\q<=ds.length/\ds.length+1-q<=m/\Fr w0 W N_/\W.ownsRow w0.heap.size 185 4 fv (zp (ds.take q)).length ys/\xJ W P s (zp (ds.take q)) ys/\uk X (zp (ds.take q)) ys
def Xj{X:Cm}(D:xf w P s ds sv xs)(d9:(zp ds).length<=300)(I:∀g,P g->g<w.heap.size)(hX:aW X w ds sv):Calls prog 79 #[.agg #[sv,rv]] w λe w'=>∃fv ys,e=.returned fv/\Fr w w' N_/\xQ w' (λg=>P g\/w.heap.size<=g) s (zp ds) fv ys/\uk X (zp ds) ys:=by
 refine hq_ λd0 Q_=>?_;obtain⟨sa,Z,rfl⟩:=zh D.row;have d8:=D.len;obtain⟨w0,hw0⟩:=e_ (w.alloc (.cells #[.slice sa ds.length Z,rv] 65));have hf0:Fr w w0 N_:=y2_
 have e3:w0.heap.size=w.heap.size+1:=by rw[hw0];simp
 have O:=zy (D.fr hf0 u_);have a0:H_ (ZT X w0 P s ds (ds.length+1) (L_) (O_) w0):=zy ⟨0,[],rfl,aj_ _,M_,A_ _ _,World.ownsRow_nil _ _ _ _,(λi f e=>by simp[zp]at e),(λi f d e=>by simp[zp]at e)⟩;replace hf0:=zy hf0;replace I:=zy I;replace hX:=zy hX;go_in;go_wp2;rw[<- hw0];go_loopg [3,11] (ds.length+1) (λm u v W=>ZT X w0 P s ds m u v W);case atStart=>exact a0
 case round=>
  obtain⟨q,ys,rfl,hq,hm,hf,hrow,hV,hLx⟩:=hrel;replace hLx:=zy hLx;have e2:=hf.size;obtain⟨n,hn⟩:=x_ ((zp (ds.take q)).length);rw[hn]at hrow;obtain⟨fa,fc,rfl⟩:=zh hrow;by_cases M:q<ds.length
  .have hlt':(q:Int)<(ds.length:Int):=M_;have hd:ds[q]?=some ds[q]:=ak_ M;generalize ds[q]=d at hd;obtain⟨g,d1,a7⟩:=zu O.o.row M_;cases a7;have Q:=O.o.fr hf u_;obtain⟨T,x,c0,c1,c2,hb⟩:=Q.cells hd;have a:=jE hd;have L:=gF (ds:=ds) (q+1);rw[a,ah_]at L;rw[hn]at L;obtain⟨pl,Y⟩:=x_ d.place;obtain⟨lt,V⟩:=x_ d.letter;rw[Y]at c0;rw[V]at c1;have l:=(A_ wr N_).alloc (.cells #[I_ pl,U_ lt,.iface T x] 169);have C:=zk hrow l u_;have z:=hV.fr l u_;have E:=hb.fr l u_;have B:=hf.trans l u_;have S:=zy (λfs p fv zs (K:d.body=.recd fs) (hTx:(Value.iface T x)=.iface 210 (.agg #[Z_ (p:Nat),fv])) (F:wr.ownsRow 0 185 4 fv fs.length zs)=>hX.o wr g q Z ds.length d p fs fv zs (hf0.o.trans hf u_) rfl hd K (hTx▸c2) F);generalize K:d.body=bd at hb E a L S;have nope:H_ (∀W,bd.fs=[]->Fr (wr.alloc (.cells #[I_ pl,U_ lt,.iface T x] 169)) W N_->ZT X w0 P s ds (ds.length+1-(q+1)) (.slice fa n fc) (Z_ ((q:Int)+1)) W):=zy (λW J A=>⟨q+1,ys,rfl,M,l_,B.trans A u_,by rw[a,J,bd_,hn];exact zk C A u_,(by rw[a,J,bd_];exact z.fr A u_),(by rw[a,J,bd_];exact hLx)⟩);cases hb with
   |enum p ho hP hu hp=>
    go_wp2;go_roundg (ds.length+1-(q+1));case measure=>omega
    case rel=>exact nope.o _ rfl ((A_ _ _).alloc _)
   |bytes p k=>
    go_wp2;go_roundg (ds.length+1-(q+1));case measure=>omega
    case rel=>exact nope.o _ rfl ((A_ _ _).alloc _)
   |recd p ho hP h hp=>
    rename_i fs e4 zs;obtain⟨G,b,rfl⟩:=zh ho;obtain⟨ti,hi1,a8,a9,b4⟩:=info_parts lN;have r:=(A_ (wr.alloc (.cells #[I_ pl,U_ lt,.iface 210 (.agg #[I_ p,.slice G fs.length b])] 169)) N_).alloc (.cells #[I_ p,.slice G fs.length b] 210);have hrow2:=zy (zk C r u_);have a3:=zy (z.fr r u_);have a6:=zy (B.trans r u_);have d7:fs.length<=300:=yk_
    have F:=ho.1;have a2:=zy (S.o fs p _ zs rfl rfl ho);have b9:=zy (h.one F);have a1:=zy ((h.fr ((A_ wr N_).alloc (.cells #[I_ pl,U_ lt,.iface 210 (.agg #[I_ p,.slice G fs.length b])] 169)) u_).fr r u_);rcases ho.2 with⟨e,e1⟩|⟨c,d2,d6,e,k1,k2,k3,k4,k5,k6⟩
    .have cc1:=Nat;exact cwee1_
    .have e':G=some ⟨c,0,none⟩:=by cases e;rfl
     subst e';have b8:=zy (λ(W:World) (A:Fr wr W N_) j u (b5:zs[j]?=some u)=>(show W.cell? ((⟨c,0,none⟩:Addr).add j)=some u from by
      have:=ze (zk ho A u_) rfl b5
      unfold Addr.add
      split
      .rename_i h0;rw[h0]at this;exact this
      .simpa using this))
     have R:=zy (λg (hg:P g)=>show ¬(Value.slice fa n fc).ownBlock=some g from λe0=>by have:=hrow2.o.lt g e0;have:=I.o g hg;omega);have a4:=zy (show Fr wr ((wr.alloc (.cells #[I_ pl,U_ lt,.iface 210 (.agg #[I_ p,S_ c fs.length b])] 169)).alloc (.cells #[I_ p,S_ c fs.length b] 210)) N_ from((A_ wr _).alloc _).alloc _)
     go_wp2_with (at_builtin;go_must (refine wpList_append_own_at _ rfl _ _ 179 rfl w0.heap.size 185 ti _ 4 40 kU hi1 a8 a9 b4 rfl D_ (.slice fa n fc) n ys rfl hrow2 ⟨c,0,none⟩ fs.length b zs rfl F (b8.o _ a4) b9 ?b1 ?b2 ?b3 ?_)
                  case b1=>unfold maxLen;omega
                  case b2=>omega
                  case b3=>simp;omega
                  intro v5 w5 N U b7 b6
                  obtain⟨a5,c5,rfl⟩:=zh N
                  have hG:=zy U
                  have hO:=zy N
                  clear U b6 b7 N)
     go_roundg (ds.length+1-(q+1));case measure=>omega
     case rel=>
      have H:Fr ((wr.alloc (.cells #[I_ pl,U_ lt,.iface 210 (.agg #[I_ p,S_ c fs.length b])] 169)).alloc (.cells #[I_ p,S_ c fs.length b] 210)) w5 (λg=>(Value.slice fa n fc).ownBlock=some g):=T_ (A_ _ _) hG (λk e _=>e);refine⟨q+1,ys++zs,rfl,M,l_,a6.o.trans H (λy hy e=>by have:=hrow2.o.lt y e;omega),?_,?_,?_⟩
      .rw[a,ah_,hn];exact hO
      .rw[a];exact xJ.append (a3.o.fr H R) (a1.o.fr H R) zf_
      .rw[a];exact hLx.o.append a2 zf_
  .have cc1:=Nat;exact cwee2_
end Go.Proofs.YtahhhgbojlkjnaaGreatDoor
