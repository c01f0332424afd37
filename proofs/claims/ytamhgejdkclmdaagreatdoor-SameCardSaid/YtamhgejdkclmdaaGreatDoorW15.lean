import Derived.Test.YtamhgejdkclmdaaGreatDoorW14
set_option maxHeartbeats 16000000
set_option maxRecDepth 100000
set_option linter.defProp false
set_option linter.unusedSimpArgs false
set_option linter.unusedVariables false
open Go.Proofs.Tryz
namespace Go.Proofs.YtamhgejdkclmdaaGreatDoor
open Go.RowKit
variable {f fc:Nat}{vT:Av}{vx:Ax}{fa:Al}
def Wl{w0 w:Aw}{P:Az}{ss:BA}{ds:Aq}{sv rv:Ax}{xs:Ay}{s:BA}{nt:Av}{nx:Ax}{pl:Ar}{br i:Nat}{t:PT}{p:Int}(M:NC w0 P ss ds sv rv xs s nt nx pl br i w)(d:TyV w P t (.iface vT vx)){W':Aw}(h:yq W' br sv rv s (i+1) (!pl))(hf:Fr (((w.alloc (.cells #[P_ br] 308)).alloc (.cells #[Z_ p,.iface vT vx] 219)).alloc (.cells #[L_] 147)) W' (· = br))(hi:i+1<=s.size):LI w0 w P ss ds sv rv xs s nt nx pl br i t p (.iface vT vx) [] (i+1) W':=by
 have k:=M.lt;have A:Fr w (((w.alloc (.cells #[P_ br] 308)).alloc (.cells #[Z_ p,.iface vT vx] 219)).alloc (.cells #[L_] 147)) N_:=(((A_ w _).alloc _).alloc _).alloc _;have hz:(((w.alloc (.cells #[P_ br] 308)).alloc (.cells #[Z_ p,.iface vT vx] 219)).alloc (.cells #[L_] 147)).heap.size=w.heap.size+3:=x8_
 have m:(w.alloc (.cells #[P_ br] 308)).heap.size=w.heap.size+1:=x8_
 have n:((w.alloc (.cells #[P_ br] 308)).alloc (.cells #[Z_ p,.iface vT vx] 219)).heap.size=w.heap.size+2:=x8_
 have c:=((B_ w #[P_ br] 308).alloc (.cells #[Z_ p,.iface vT vx] 219)).alloc (.cells #[L_] 147);have a:=(B_ (w.alloc (.cells #[P_ br] 308)) #[Z_ p,.iface vT vx] 219).alloc (.cells #[L_] 147);have b:=B_ ((w.alloc (.cells #[P_ br] 308)).alloc (.cells #[Z_ p,.iface vT vx] 219)) #[L_] 147;rw[m]at a;rw[n]at b;have m:=hf.size;exact⟨(M.new A).call h hf hi,(A.mono v_).trans hf u_,k,M_,hf.bl c M_,hf.bl a M_,(d.fr A u_).fr hf (λg hg e=>M.brP (e▸hg)),by simp,_,hf.bl b M_,jX.nil _ _ _ _ _⟩
def cwJf1_{p:Prop}(h:p:=by
 obtain⟨u,u⟩:=q;rw[hp]at hres;replace hp:=zy hp;go_in;go_wp2_with (go_at_call 214;apply hC.o.mono;rintro e w2 ⟨v2,rfl,hm⟩;rw[hp.o]at hm;obtain⟨rfl,b⟩:=hm;(first|(have:=cc1;obtain⟨lv,ys,r1,a,r,d⟩:=b.row)|(obtain⟨lv,r1,a⟩:=b.row));(first|(have:=cc1;obtain⟨m,n,rfl⟩:=zw a)|(obtain⟨ys,d⟩:=a.row;obtain⟨m,n,rfl⟩:=zw d));have k0:=r1.c0;(first|(have:=cc1;have k:=zy ((show qn (zx ds) _ _ (.wrap 123 q0 t) _ _ from d).dat (Q:=λg=>w.heap.size<=g) a (λg _ hg=>zt_) (λg hg=>(by have:=a.lt g hg;omega))))|(have k:=zy ((show jX (zx ds) _ _ _ (.wrap 91 q0 t) _ _ from a).dat (Q:=λg=>w.heap.size<=g) (λg _ hg=>zt_) (λg hg=>(by have:=d.lt g hg;omega)) (.inl ⟨rfl,rfl⟩))));replace b:=zy b;(first|(have:=cc1;clear r1 a r d)|(clear r1 a d)));try go_ret
 rw[Q_.o,hres.o];exact nok k.o b.o.fr b.o.M.R b.o.M.il):p:=h
def Jf{q0:Nat}{w0 w:Aw}{P:Az}{ss:BA}{ds:Aq}{sv rv:Ax}{xs:Ay}{s:BA}{nt:Av}{nx:Ax}{pl:Ar}{br i:Nat}{t:PT}{p:Int}(M:NC w0 P ss ds sv rv xs s nt nx pl br i w)(u:TyV w P t (.iface vT vx))(n:yg w0)(r:∀j,i<j->j<=s.size->qy w0 P ss ds sv rv xs s nt nx pl br f t j):Calls prog 194 #[P_ br,.agg #[Z_ p,.iface vT vx]] w (yw (zx ds) (.wrap 91 q0 t) w sv rv s nt nx pl br (xN (rdT s (zx ds) pl f t) s 91 i)):=by
 refine hq_ λm Q_=>?_;have z:s.size<=4000:=y3_
 have A:Fr w (((w.alloc (.cells #[P_ br] 308)).alloc (.cells #[Z_ p,.iface vT vx] 219)).alloc (.cells #[L_] 147)) N_:=(((A_ w _).alloc _).alloc _).alloc _;have x:=jR s (zx ds) pl f t;have m:eo sv rv s nt nx pl br 215 #[P_ w.heap.size,.pointer (some ⟨w.heap.size+1,0,none⟩),.pointer (some ⟨w.heap.size+2,0,none⟩)] (wX (rdT s (zx ds) pl f t)) (λl j W=>LI w0 w P ss ds sv rv xs s nt nx pl br i t p (.iface vT vx) l j W) (Zb w sv rv s nt nx pl br):=
  { F:=λW=>by kernel_rfl
    R:=λh=>⟨h.M.R,h.M.il,h.M.e⟩
    K:=λh h1 g k y=>h.call h1 g k yp_
    B:=λh=>⟨h.fr,.base,_,h.M.R,h.M.il⟩
    C:=λ{l j W} h=>(Yg h n (r j yp_ h.M.il) (λd j' e=>(x j d j' e).1)).mono (by
     rintro e W' ⟨v,he,hm⟩
     refine⟨v,he,?_⟩
     cases y:wX (rdT s (zx ds) pl f t) l j with
     |none=>rw[y]at hm;exact hm
     |some q=>obtain⟨a,b⟩:=q;rw[y]at hm;exact hm) }
 have hC:=zy (py m (w:=(((w.alloc (.cells #[P_ br] 308)).alloc (.cells #[Z_ p,.iface vT vx] 219)).alloc (.cells #[L_] 147))) (σ:=([]:List DT)) (i:=i) (co:=91) (cf:=93) 91 93 (A.bl M.R id) M.il (λW' h hf hi=>Wl M u h hf hi) (λW' h hf=>⟨⟨(A.mono v_).trans hf u_,.base,i,h,M.il⟩,((M.new A).call h hf M.il).e⟩) z rfl rfl D_ D_);have hres:=zy (JZ (rdT s (zx ds) pl f t) s i);cases hp:jd (wX (rdT s (zx ds) pl f t)) s 91 93 [] i with
 |none=>
  rw[hp]at hres;replace hp:=zy hp;go_in;go_wp2_with (go_at_call 214;apply hC.o.mono;rintro e w2 ⟨v2,rfl,hm⟩;rw[hp.o]at hm;obtain⟨⟨m,m,rfl⟩,hB⟩:=hm;replace hB:=zy hB);try go_ret
  rw[Q_.o,hres.o];obtain⟨h1,g,k⟩:=hB.o;exact⟨.nilIface,_,rfl,h1,rfl,g,k⟩
 |some q=>
  exact cwJf1_
def jH(R:Ab)(fs:An)(l:Ae)(j:Nat):Option (List DT×Nat):=
 match fs[l.length]? with|none=>none|some g=>(R g.ty j).map (λq=>(l++[q.1],q.2))
def ko(len:Nat):Option (List DT×Nat)->Option (DT×Nat)
 |none=>none
 |some (l,j)=>if l.length<len then none else some (.mk 114 0 noB [] l,j)
def uA(s:BA)(l:Ae):Option (List DT×Nat)->Option (DT×Nat)
 |none=>none
 |some (r,e)=>if bt s e=41 then some (.mk 114 0 noB [] (l++r),e+1) else none
def iF(R:Ab)(s:BA)(fs:An)(b:∀t,QY s (R t)):∀N l j,l.length<fs.length->j<=s.size->s.size+1-j<=N->
 ko fs.length (vO (jH R fs) s 41 N l j)=uA s l (zG R s true ((fs.drop l.length).map PF.ty) j):=by
 intro N;induction N with
 |zero=>intro l j _ c a;omega
 |succ N ih=>
  intro l j hk c a;rw[vO,bo_ hk,av_,zG,i_ rfl];simp only[jH,ak_ hk];cases a:R (fs[l.length]).ty j with
  |none=>rfl
  |some q=>
   obtain⟨d,j'⟩:=q;have c:=b _ j d j' a;have e:(l++[d]).length=l.length+1:=x8_
   simp only[bh_];by_cases a:bt s j'=41
   .rw[i_ a];by_cases b:l.length+1<fs.length
    .rw[bo_ b,av_,zG];simp only[be_,if_false];rw[n_ M_];simp only[ko,uA];rw[i_ M_]
    .rw[b1_ M_,ba_,zG];simp only[ko,uA];rw[n_ M_,i_ a]
   .rw[n_ a];by_cases c:bt s j'=44
    .rw[i_ c];have g:=zm (s:=s) (i:=j') M_;by_cases b:l.length+1<fs.length
     .have:=ih (l++[d]) (j'+1) M_ g M_;rw[this,e];rw[bo_ b,av_,zG,zG,i_ rfl];simp only[be_,if_false];rw[i_ c];cases R (fs[l.length+1]).ty (j'+1) with
      |none=>rfl
      |some q=>
       obtain⟨e,e⟩:=q;simp only;cases zG R s false ((fs.drop (l.length+1+1)).map PF.ty) e with
       |none=>rfl
       |some q=>
        simp only[uA,bt_,bf_,bm_]
     .rw[b1_ M_,ba_,zG];have hn:vO (jH R fs) s 41 N (l++[d]) (j'+1)=none:=by
       cases N with
       |zero=>rfl
       |succ N=>rw[vO];simp only[jH];rw[bl_ M_]
      rw[hn];simp only[ko,uA];rw[n_ a]
    .rw[n_ c];by_cases b:l.length+1<fs.length
     .rw[bo_ b,av_,zG];simp only[be_,if_false];rw[n_ c];rfl
     .rw[b1_ M_,ba_,zG];simp only[ko,uA];rw[n_ a]
def eO(env:Au):Prop:=∀c l o,env c=some (.enum l o)->∀q∈l,zl q.1=true
def BS{s:BA}{env:Au}{pl:Ar}(g:eO env){i:Nat}(h:bt s i=41):∀(f:Nat) (t:PT),okT env t->rdT s env pl f t i=none:=by
 intro f;induction f with
 |zero=>intro t _;rfl
 |succ f ih=>
  intro t b;cases t with
  |leaf c p=>
   rw[rdT];unfold xw;split
   .rw[n_ M_]
   .split
    .rw[n_ M_,n_ M_]
    .split
     .have d:vj s c i=none:=by
       unfold vj;rw[n_];intro a;have hz:(zS s i).size=0:=by
        unfold zS yo;have e:sgn s i=i:=by unfold sgn;rw[n_ M_]
        rw[e,vN M_,bk_];omega
       exact absurd a.1 M_
      rw[d]
     .split
      .rw[n_ M_]
      .cases he:env c with
       |none=>rfl
       |some pb=>
        simp only;unfold yj;cases pb with
        |recd fs=>simp only;rw[n_ M_]
        |enum l o=>
         simp only;split
         .have:(l.map Prod.fst).findIdx? (λc=>c==bt s i)=none:=by
           rw[List.findIdx?_eq_none_iff];intro x hx;obtain⟨q,a,rfl⟩:=a3_.1 hx;have:=g c l o he q a;obtain⟨k,hk,_⟩:=kS this;rw[h,beq_eq_false_iff_ne];omega
          rw[this]
         .rfl
        |bytes n=>simp only;rw[n_ M_]
  |wrap c p t=>
   unfold okT at b;rw[rdT];unfold xN;rw[n_ M_]
  |alts p ts=>
   rw[rdT];unfold jc;cases pl with
   |false=>rw[n_ D_,n_ (λa=>M_)]
   |true=>
   rw[i_ rfl];cases ts with
   |nil=>rfl
   |cons t r=>
    simp only;have d:okT env t:=by
     unfold okT at b;have a:=b.2;unfold iu at a;exact a.2.1
    rw[ih t d]
structure RI(tt:PT)(w0 w:Aw)(P:Az)(ss:BA)(ds:Aq)(sv rv:Ax)(xs:Ay)(s:BA)(nt:Av)(nx:Ax)(pl:Ar)(br i:Nat)(fs:An)(p:Int)(fv:Ax)(zs:Ay)(l:Ae)(j:Nat)(W:Aw):Prop where
 sub:∀k g,fs[k]?=some g->zD (zx ds) tt 0 k=g.ty
 M:NC w0 P ss ds sv rv xs s nt nx pl br j W
 fr:Fr w W (· = br)
 lt:br<w.heap.size
 hB:w.heap.size+3<=W.heap.size
 b2:Blk W w.heap.size [P_ br] 308
 b3:Blk W (w.heap.size+1) [Z_ p,fv] 228
 F:xu W P ss fs fv zs
 c:i+l.length<j
 nl:l.length<=fs.length
 row:∃lv,Blk W (w.heap.size+2) [lv] 155/\jX (zx ds) W (w.heap.size+3) (λg=>w.heap.size+3<=g/\lv.ownBlock≠some g) tt lv l
section
variable {tt:PT} {w0 w:Aw} {P:Az} {ss:BA} {ds:Aq} {sv rv:Ax} {xs:Ay} {s:BA} {nt:Av} {nx:Ax} {pl:Ar} {br i:Nat} {fs:An} {p:Int} {fv:Ax} {zs:Ay} {l:Ae} {j j':Nat} {W W':Aw}
def RI.call(L:RI tt w0 w P ss ds sv rv xs s nt nx pl br i fs p fv zs l j W)(h:yq W' br sv rv s j' (!pl))(hf:Fr W W' (· = br))(b:j'<=s.size)(hc:i+l.length<j'):RI tt w0 w P ss ds sv rv xs s nt nx pl br i fs p fv zs l j' W':=by
 have h1:=L.lt;obtain⟨lv,r1,a⟩:=L.row;obtain⟨ys,c⟩:=a.row;exact⟨L.sub,L.M.call h hf b,L.fr.trans hf u_,L.lt,aj_ L.hB hf.size,hf.bl L.b2 M_,hf.bl L.b3 M_,L.F.fr hf (λg hg e=>L.M.brP (e▸hg)),hc,L.nl,lv,hf.bl r1 M_,a.fr hf (λg hg e=>M_) (λg hg e=>by have:=c.lt g hg;omega)⟩
def RI.new(L:RI tt w0 w P ss ds sv rv xs s nt nx pl br i fs p fv zs l j W)(hf:Fr W W' N_):RI tt w0 w P ss ds sv rv xs s nt nx pl br i fs p fv zs l j W':=L.call (hf.bl L.M.R id) (hf.mono v_) L.M.il L.c
end
def Zn:Tryz.prog.underlying 155=some (.slice 64):=K_
def cwJj1_{p:Prop}(h:p:=by
 (first|(have:=cc1)|(have hst:=zy (show jH (rdT s (zx ds) pl f) fs ld j=none by unfold jH;rw[hnn.o,hd];simp only;rw[hp];rfl)));replace hp:=zy hp;go_in;go_wp2_with (first
  |(go_at_call 148;apply hC.o.mono;rintro e w1 ⟨v1,ev1,rfl,hf1,hm⟩;rw[hp.o]at hm;obtain⟨rfl,b,x,h1,hj1⟩:=hm;obtain⟨y,y,rfl⟩:=b.iface;(first|(have:=cc1;have y:=zy ((M0.o.call h1 hf1 hj1).G))|(have y:=(hf1.bl N1.o M_).c1));replace hf1:=zy hf1;replace b:=zy b;replace h1:=zy h1)
  |((first|go_at_call 157|go_at_call 156);(first|(have:=cc1;apply(wn (n:=k) hI y.o hk4).mono)|(apply(gn hls).mono));intro e y B;obtain⟨u,z,rfl,y,r,a⟩:=B;replace a:=zy a;replace r:=zy r))
 try go_ret
 (first|(have:=cc1;rw[Q_.o,hp.o])|(rw[Q_.o]));(first|(have:=cc1;have m:=(A.o.mono (T:=λg=>g=br) v_).trans hf1.o u_)|(refine⟨_,rfl,?_⟩;rw[hst.o];have m:=L1.o.fr.trans hf1.o u_));have y:=m.size;(first|(have:=cc1;exact⟨.nilIface,_,rfl,m.trans a.o v_,rfl,.within u M_ z r.o ((b.o.ls hsz).fr a.o u_),x,a.o.bl h1.o id,hj1⟩)|(have C:=L1.o.fr.size;exact⟨⟨_,_,rfl⟩,m.trans a.o v_,.within u M_ z r.o ((b.o.ls C).fr a.o u_),x,a.o.bl h1.o id,hj1⟩))):p:=h
def Jj{tt:PT}{w0 w:Aw}{P:Az}{ss:BA}{ds:Aq}{sv rv:Ax}{xs:Ay}{s:BA}{nt:Av}{nx:Ax}{pl:Ar}{br i:Nat}{fs:An}{p:Int}{zs:Ay}{ld:Ae}{j:Nat}{W:Aw}(L:RI tt w0 w P ss ds sv rv xs s nt nx pl br i fs p (.slice fa fs.length fc) zs ld j W)(C:∀g∈fs,zl g.letter=true)(D:fs.length<=300)(b:∀g∈fs,qy w0 P ss ds sv rv xs s nt nx pl br f g.ty j)(hgo:∀t d j',rdT s (zx ds) pl f t j=some (d,j')->j<j'):Calls prog 220 #[.pointer (some ⟨w.heap.size+2,0,none⟩),.pointer (some ⟨w.heap.size+1,0,none⟩),P_ w.heap.size] W λe W'=>∃v,e=.returned v/\match jH (rdT s (zx ds) pl f) fs ld j with|some (l',j')=>v=.nilIface/\j<j'/\RI tt w0 w P ss ds sv rv xs s nt nx pl br i fs p (.slice fa fs.length fc) zs l' j' W'|none=>(∃T x,v=.iface T x)/\Zb w sv rv s nt nx pl br v W':=by
 refine hq_ λD Q_=>?_;have c20:=L.b2.c0;have c31:=L.b3.c1;have D:=L.M.il;have D:=L.M.hs;have a:=L.c;have D:=L.lt;have B:=L.nl;have D:=L.hB;have l2:w.heap.size<W.heap.size:=M_;obtain⟨lv,r1,Y,r2,rY⟩:=L.row;obtain⟨la,lc,rfl⟩:=zw r2;obtain⟨n,hnn⟩:=x_ ld.length;rw[hnn]at r1 r2 rY B a;have k0:=r1.c0;by_cases hn:n=fs.length
 .have hst:=zy (show jH (rdT s (zx ds) pl f) fs ld j=none by unfold jH;rw[bl_ M_]);have a:=L.M.e;replace L:=zy L;subst hn;go_in;go_wp2;try go_ret
  rw[Q_.o];refine⟨_,rfl,?_⟩;rw[hst.o];exact⟨⟨_,_,rfl⟩,L.o.fr,.base,j,L.o.M.R,L.o.M.il⟩
 .have a:n<fs.length:=M_;have B:((n:Int)==(fs.length:Int))=false:=x1_
  have hd:fs[n]?=some fs[n]:=ak_ a;have m:fs[n]∈fs:=bj_ a;generalize fs[n]=g0 at hd m;have a:(n:Int)<(fs.length:Int):=M_;obtain⟨g,a,a⟩:=zp L.F.row M_;cases a;obtain⟨T,x,d0,c0,c1,c2,c3,u,z⟩:=L.F.cells hd;obtain⟨l,h⟩:=x_ g0.letter;obtain⟨r,y⟩:=x_ g0.place;have hls:zl l=true:=by rw[<- h];exact C _ m
  have hsb:=zy (show zD (zx ds) tt 0 ld.length=g0.ty by rw[hnn];exact L.sub n g0 hd);rw[h]at c1;rw[y]at c0;have a:=(A_ W N_).alloc (.cells #[I_ r,U_ l,.iface T x,.pointer d0] 195);have N1:=B_ W #[I_ r,U_ l,.iface T x,.pointer d0] 195;have L1:=L.new a;have hC:=zy (b _ m _ _ L1.M (u.fr a u_));have hz1:=zy (by simp:(W.alloc (.cells #[I_ r,U_ l,.iface T x,.pointer d0] 195)).heap.size=W.heap.size+1);replace L1:=zy L1;replace N1:=zy N1;replace r2:=zy r2;replace rY:=zy rY;replace L:=zy L;replace hnn:=zy hnn;replace r1:=zy r1;have hA1:=zy a;cases hp:rdT s (zx ds) pl f g0.ty j with
  |none=>
   exact cwJj1_
  |some q=>
   have cc1:=Nat;exact cwYg1_
def VU{s:BA}{env:Au}{pl:Ar}{i:Nat}{fs:An}(k:eO env)(c:∀g∈fs,okT env g.ty):ko fs.length (jd (jH (rdT s env pl f) fs) s 40 41 [] i)=yj (rdT s env pl f) s (.recd fs) i:=by
 unfold jd yj;simp only;by_cases b:bt s i=40
 .rw[i_ b,i_ b];have d:=zm (s:=s) (i:=i) M_;by_cases a:bt s (i+1)=41
  .rw[i_ a];cases fs with
   |nil=>
    simp only[ba_,zG,ko];rw[i_ a];rfl
   |cons g r=>
    rw[av_,zG,i_ rfl,BS k a f g.ty (c g x8_)];rfl
  .rw[n_ a];cases c:fs with
   |nil=>
    rw[vO];simp only[jH,List.getElem?_nil,ba_,zG,ko];rw[n_ a]
   |cons g r=>
    rw[<- c];have h:=iF (rdT s env pl f) s fs (jR s env pl f) (s.size+2) [] (i+1) (by rw[c];simp) d M_;rw[h];simp only[a1_,List.drop_zero];cases zG (rdT s env pl f) s true (fs.map PF.ty) (i+1) with
    |none=>rfl
    |some q=>
     obtain⟨l,e⟩:=q;rfl
 .rw[n_ b,n_ b];rfl
def Km{tt:PT}{w0 w:Aw}{P:Az}{ss:BA}{ds:Aq}{sv rv:Ax}{xs:Ay}{s:BA}{nt:Av}{nx:Ax}{pl:Ar}{br i:Nat}{fs:An}{p:Int}{zs:Ay}(n:∀k g,fs[k]?=some g->zD (zx ds) tt 0 k=g.ty)(M:NC w0 P ss ds sv rv xs s nt nx pl br i w)(d:xu w P ss fs (.slice fa fs.length fc) zs){W':Aw}(h:yq W' br sv rv s (i+1) (!pl))(hf:Fr (((w.alloc (.cells #[P_ br] 308)).alloc (.cells #[Z_ p,.slice fa fs.length fc] 228)).alloc (.cells #[L_] 155)) W' (· = br))(hi:i+1<=s.size):RI tt w0 w P ss ds sv rv xs s nt nx pl br i fs p (.slice fa fs.length fc) zs [] (i+1) W':=by
 have m:=M.lt;have A:Fr w (((w.alloc (.cells #[P_ br] 308)).alloc (.cells #[Z_ p,.slice fa fs.length fc] 228)).alloc (.cells #[L_] 155)) N_:=(((A_ w _).alloc _).alloc _).alloc _;have hz:(((w.alloc (.cells #[P_ br] 308)).alloc (.cells #[Z_ p,.slice fa fs.length fc] 228)).alloc (.cells #[L_] 155)).heap.size=w.heap.size+3:=x8_
 have o:(w.alloc (.cells #[P_ br] 308)).heap.size=w.heap.size+1:=x8_
 have q:((w.alloc (.cells #[P_ br] 308)).alloc (.cells #[Z_ p,.slice fa fs.length fc] 228)).heap.size=w.heap.size+2:=x8_
 have c:=((B_ w #[P_ br] 308).alloc (.cells #[Z_ p,.slice fa fs.length fc] 228)).alloc (.cells #[L_] 155);have a:=(B_ (w.alloc (.cells #[P_ br] 308)) #[Z_ p,.slice fa fs.length fc] 228).alloc (.cells #[L_] 155);have b:=B_ ((w.alloc (.cells #[P_ br] 308)).alloc (.cells #[Z_ p,.slice fa fs.length fc] 228)) #[L_] 155;rw[o]at a;rw[q]at b;have o:=hf.size;exact⟨n,(M.new A).call h hf hi,(A.mono v_).trans hf u_,m,M_,hf.bl c M_,hf.bl a M_,(d.fr A u_).fr hf (λg hg e=>M.brP (e▸hg)),by simp,al_ _,_,hf.bl b M_,jX.nil _ _ _ _ _⟩
def aA{tt:PT}{w0 w:Aw}{P:Az}{ss:BA}{ds:Aq}{sv rv:Ax}{xs:Ay}{s:BA}{nt:Av}{nx:Ax}{pl:Ar}{br i:Nat}{fs:An}{p:Int}{zs:Ay}(a3:∀k g,fs[k]?=some g->zD (zx ds) tt 0 k=g.ty)(M:NC w0 P ss ds sv rv xs s nt nx pl br i w)(N:xu w P ss fs (.slice fa fs.length fc) zs)(V:∀g∈fs,zl g.letter=true)(U:fs.length<=300)(a2:eO (zx ds))(T:∀g∈fs,okT (zx ds) g.ty)(O:∀g∈fs,∀j,i<j->j<=s.size->qy w0 P ss ds sv rv xs s nt nx pl br f g.ty j):Calls prog 197 #[P_ br,.agg #[Z_ p,.slice fa fs.length fc]] w (yw (zx ds) tt w sv rv s nt nx pl br (yj (rdT s (zx ds) pl f) s (.recd fs) i)):=by
 refine hq_ λL D=>?_;have a1:s.size<=4000:=y3_
 have A:Fr w (((w.alloc (.cells #[P_ br] 308)).alloc (.cells #[Z_ p,.slice fa fs.length fc] 228)).alloc (.cells #[L_] 155)) N_:=(((A_ w _).alloc _).alloc _).alloc _;have S:=jR s (zx ds) pl f;have L:eo sv rv s nt nx pl br 220 #[.pointer (some ⟨w.heap.size+2,0,none⟩),.pointer (some ⟨w.heap.size+1,0,none⟩),P_ w.heap.size] (jH (rdT s (zx ds) pl f) fs) (λl j W=>RI tt w0 w P ss ds sv rv xs s nt nx pl br i fs p (.slice fa fs.length fc) zs l j W) (Zb w sv rv s nt nx pl br):=
  { F:=λW=>by kernel_rfl
    R:=λh=>⟨h.M.R,h.M.il,h.M.e⟩
    K:=λh h1 E G h4=>h.call h1 E G yp_
    B:=λh=>⟨h.fr,.base,_,h.M.R,h.M.il⟩
    C:=λ{l j W} h=>(Jj h V U (λg hg=>O g hg j yp_ h.M.il) (λt d j' e=>(S t j d j' e).1)).mono (by
     rintro e W' ⟨v,he,hm⟩
     refine⟨v,he,?_⟩
     cases U:jH (rdT s (zx ds) pl f) fs l j with
     |none=>rw[U]at hm;exact hm
     |some q=>obtain⟨a,b⟩:=q;rw[U]at hm;exact hm) }
 have H:=zy (py L (w:=(((w.alloc (.cells #[P_ br] 308)).alloc (.cells #[Z_ p,.slice fa fs.length fc] 228)).alloc (.cells #[L_] 155))) (σ:=([]:List DT)) (i:=i) (co:=40) (cf:=41) 40 41 (A.bl M.R id) M.il (λW' h hf hi=>Km a3 M N h hf hi) (λW' h hf=>⟨⟨(A.mono v_).trans hf u_,.base,i,h,M.il⟩,((M.new A).call h hf M.il).e⟩) a1 rfl rfl D_ D_);have r:=zy (VU (s:=s) (pl:=pl) (f:=f) (i:=i) a2 T);cases hp:jd (jH (rdT s (zx ds) pl f) fs) s 40 41 [] i with
 |none=>
  rw[hp]at r;replace hp:=zy hp;go_in;go_wp2_with (go_at_call 214;apply H.o.mono;rintro e Y ⟨X,rfl,hm⟩;rw[hp.o]at hm;obtain⟨⟨m,m,rfl⟩,hB⟩:=hm;replace hB:=zy hB);try go_ret
  rw[D.o,<- r.o];obtain⟨h1,E,G⟩:=hB.o;exact⟨.nilIface,_,rfl,h1,rfl,E,G⟩
 |some q=>
  obtain⟨l2,I⟩:=q;rw[hp]at r;replace hp:=zy hp;obtain⟨J,u⟩:=x_ l2.length;by_cases hn:J<fs.length
  .have a0:(J:Int)<(fs.length:Int):=M_;rw[show ko fs.length (some (l2,I))=none from i_ M_]at r;replace u:=zy u;go_in;go_wp2_with (go_at_call 214;apply H.o.mono;rintro e Y ⟨X,rfl,hm⟩;rw[hp.o]at hm;obtain⟨rfl,m⟩:=hm;obtain⟨lv,r1,x⟩:=m.row;obtain⟨ys,y⟩:=x.row;obtain⟨la,lc,rfl⟩:=zw y;rw[u.o]at r1;have k0:=r1.c0;have Z:=m.b3.c1;have z:=m.M.e;replace m:=zy m);go_quiet (fail);go_wp2;try go_ret
   rw[D.o,<- r.o];exact oz (m.o.fr.si (zq.drewN _ _)) (m.o.M.R.si (zq.drewN _ _)) m.o.M.il
  .have a0:¬((J:Int)<(fs.length:Int)):=M_;rw[show ko fs.length (some (l2,I))=some (.mk 114 0 noB [] l2,I) from n_ M_]at r;replace u:=zy u;go_in;go_wp2_with (go_at_call 214;apply H.o.mono;rintro e Y ⟨X,rfl,hm⟩;rw[hp.o]at hm;obtain⟨rfl,m⟩:=hm;obtain⟨lv,r1,x⟩:=m.row;obtain⟨ys,y⟩:=x.row;obtain⟨la,lc,rfl⟩:=zw y;have z:=x.dat (Q:=λg=>w.heap.size<=g) (λg _ hg=>zt_) (λg hg=>(by have:=y.lt g hg;omega)) (.inr ⟨rfl,rfl⟩);rw[u.o]at r1 z;replace z:=zy z;have k0:=r1.c0;have Z:=m.b3.c1;replace m:=zy m);try go_ret
   rw[D.o,<- r.o];exact nok z m.o.fr m.o.M.R m.o.M.il
def Yz(k:Nat):Option (DT×Nat)->Option (DT×Nat)
 |none=>none
 |some (d,j)=>some (.mk 40 (k:Int) noB [] [d],j)
def oy{tt:PT}{w0 w:Aw}{P:Az}{ss:BA}{ds:Aq}{sv rv:Ax}{xs:Ay}{s:BA}{nt:Av}{nx:Ax}{pl:Ar}{br i:Nat}{t:PT}{n k:Nat}{p:Int}{b:Ax}{X:Ah}(u:zD (zx ds) tt k 0=t)(M:NC w0 P ss ds sv rv xs s nt nx pl br i w)(ho:w.ownsRow 0 58 1 b n ((List.range n).map X))(r:k<n)(hk4:k<=4000)(hX:TyV w P t (X k))(hI:yg w0)(h:qy w0 P ss ds sv rv xs s nt nx pl br f t i):Calls prog 219 #[P_ br,.agg #[Z_ p,b],I_ k] w (yw (zx ds) tt w sv rv s nt nx pl br (Yz k (rdT s (zx ds) pl f t i))):=by
 refine hq_ λb Q_=>?_;obtain⟨g,m,rfl⟩:=zp ho M_;obtain⟨T,x,hx⟩:=hX.iface;have c0:=zt ho rfl (k:=k) (x:=X k) (by simp[r]);rw[hx]at c0 hX;have A:Fr w (w.alloc (.cells #[Z_ p,S_ g n m] 223)) N_:=(A_ w _).alloc _;have M0:=M.new A;have b:=World.block_lt_of_cell? w ⟨g,k,none⟩ c0;have hC:=zy (h _ _ M0 (hX.fr A u_));have b:(k:Int)<(n:Int):=M_;have hsz:=A.size;replace A:=zy A;replace M0:=zy M0;cases hp:rdT s (zx ds) pl f t i with
 |none=>
  have cc1:=Nat;exact cwJj1_
 |some q=>
  obtain⟨d,b⟩:=q;replace hp:=zy hp;go_in;go_wp2_with (go_at_call 148;apply hC.o.mono;rintro e w1 ⟨v1,ev1,rfl,hf1,hm⟩;rw[hp.o]at hm;obtain⟨rfl,a,h1,hj1⟩:=hm;obtain⟨dT,dx,rfl⟩:=a.iface;replace a:=zy a;replace hf1:=zy hf1;replace h1:=zy h1);try go_ret
  rw[Q_.o,hp.o];exact nok (.branch k hk4 (by rw[u];exact a.o.mono (λg _ hg=>M_))) ((A.o.mono (T:=λg=>g=br) v_).trans hf1 u_) h1 hj1
def Yx{tt:PT}{w0 w:Aw}{P:Az}{ss:BA}{ds:Aq}{sv rv:Ax}{xs:Ay}{s:BA}{nt:Av}{nx:Ax}{br i:Nat}{t:PT}{l:Ad}{p:Int}{a:Ax}{X:Ah}(B:zD (zx ds) tt 0 0=t)(M:NC w0 P ss ds sv rv xs s nt nx true br i w)(ho:w.ownsRow 0 58 1 a (t::l).length ((List.range (t::l).length).map X))(hX:TyV w P t (X 0))(z:yg w0)(h:qy w0 P ss ds sv rv xs s nt nx true br f t i):Calls prog 196 #[P_ br,.agg #[Z_ p,a]] w (yw (zx ds) tt w sv rv s nt nx true br (Yz 0 (rdT s (zx ds) true f t i))):=by
 refine hq_ λa r=>?_;obtain⟨u,x,rfl⟩:=zw ho;have A:Fr w (w.alloc (.cells #[Z_ p,.slice u (t::l).length x] 223)) N_:=(A_ w _).alloc _;have a:=M.new A;have c:=zy (oy (p:=p) (k:=0) B a (zj ho A u_) x8_ M_ (hX.fr A u_) z h);have c4:=a.R.c4;have m:=A.size;replace A:=zy A;generalize (t::l).length=n at c A m c4⊢;go_in;go_wp2_with (go_at_call 219;apply c.o.mono;rintro e w1 ⟨C,y,rfl,b,hm⟩;replace b:=zy b;replace hm:=zy hm);try go_ret
 rw[r.o];refine⟨C,y,rfl,(A.o.mono (T:=λg=>g=br) v_).trans b u_,?_⟩;have a:=hm.o;cases hp:Yz 0 (rdT s (zx ds) true f t i) with
 |none=>rw[hp]at a;exact⟨a.1,a.2.1.ls m,a.2.2⟩
 |some q=>obtain⟨d,j⟩:=q;rw[hp]at a;exact⟨a.1,a.2.1.mono (λg _ hg=>M_),a.2.2⟩
def wm:∀(a b:List UInt8),(Op.bytesLess a b||a==b) = !Op.bytesLess b a:=by
 intro a;induction a with
 |nil=>intro b;cases b<;>rfl
 |cons x xs ih=>
  intro b;cases b with
  |nil=>rfl
  |cons y ys=>
   simp only[Op.bytesLess,List.cons_beq_cons];have h:=ih ys;by_cases h1:x<y
   .have c:¬y<x:=by simp only[UInt8.lt_iff_toNat_lt]at h1⊢;omega
    have d:¬y=x:=λe=>by subst e;simp only[UInt8.lt_iff_toNat_lt]at h1;omega
    simp[h1,c,d]
   .by_cases c:x=y
    .subst c;simp[h1,h]
    .have d:y<x:=by
      have:x.toNat≠y.toNat:=λe=>c (UInt8.toNat_inj.1 e);simp only[UInt8.lt_iff_toNat_lt]at h1⊢;omega
     simp[h1,c,d]
def vP(R:Aj)(s:BA)(es:Af)(j:Nat):Option (List (BA×DT)×Nat):=
 match kJ s true (wJ es) j with
 |none=>none
 |some (k,j1)=>(R j1).map (λq=>(es++[(k,q.1)],q.2))
def JW(R:Aj)(s:BA)(fin:Nat):∀n es j,vO (vP R s) s fin n es j=(ye R s fin true n (wJ es) j).map (λq=>(es++q.1,q.2)):=by
 intro n;induction n with
 |zero=>intro es j;rfl
 |succ n ih=>
  intro es j;rw[vO,ye];simp only[vP];cases kJ s true (wJ es) j with
  |none=>rfl
  |some q=>
   obtain⟨key,a⟩:=q;simp only;cases R a with
   |none=>rfl
   |some q=>
    obtain⟨d,j'⟩:=q;simp only[bh_];split
    .rfl
    .split
     .rw[ih (es++[(key,d)]) (j'+1),jF];cases ye R s fin true n (some key) (j'+1) with
      |none=>rfl
      |some q=>simp
     .rfl
def Wp(R:Aj)(s:BA)(i:Nat):xN R s 123 i=(jd (vP R s) s 123 125 [] i).map (λq=>(.mk 123 0 noB (q.1.map Prod.fst) (q.1.map Prod.snd),q.2)):=by
 unfold jd xN qj;by_cases h:bt s i=123
 .rw[i_ h,i_ h,show xj 123=125 from rfl,show((123:Nat)==123)=true from rfl];by_cases a:bt s (i+1)=125
  .rw[i_ a,i_ a];rfl
  .rw[n_ a,n_ a,JW R s 125 _ [] (i+1),show wJ []=none from rfl];cases ye R s 125 true (s.size+2) none (i+1) with
   |none=>rfl
   |some q=>simp
 .rw[n_ h,n_ h];rfl
structure MI(w0 w:Aw)(P:Az)(ss:BA)(ds:Aq)(sv rv:Ax)(xs:Ay)(s:BA)(nt:Av)(nx:Ax)(pl:Ar)(br i:Nat)(t:PT)(p:Int)(v:Ax)(es:Af)(j:Nat)(W:Aw):Prop where
 M:NC w0 P ss ds sv rv xs s nt nx pl br j W
 fr:Fr w W (· = br)
 lt:br<w.heap.size
 hB:w.heap.size+3<=W.heap.size
 b2:Blk W w.heap.size [P_ br] 308
 b3:Blk W (w.heap.size+1) [Z_ p,v] 220
 ty:TyV W P t v
 c:i+es.length<j
 row:∃lv ys,Blk W (w.heap.size+2) [lv] 150/\W.ownsRow (w.heap.size+3) 206 2 lv es.length ys/\GX (wJ es) es.length ys/\qn (zx ds) W (λg=>w.heap.size+3<=g/\lv.ownBlock≠some g) (.wrap 123 0 t) es ys
section
variable {w0 w:Aw} {P:Az} {ss:BA} {ds:Aq} {sv rv:Ax} {xs:Ay} {s:BA} {nt:Av} {nx:Ax} {pl:Ar} {br i:Nat} {t:PT} {p:Int} {v:Ax} {es:Af} {j j':Nat} {W W':Aw}
def MI.call(L:MI w0 w P ss ds sv rv xs s nt nx pl br i t p v es j W)(h:yq W' br sv rv s j' (!pl))(hf:Fr W W' (· = br))(b:j'<=s.size)(hc:i+es.length<j'):MI w0 w P ss ds sv rv xs s nt nx pl br i t p v es j' W':=by
 have h1:=L.lt;obtain⟨lv,ys,r1,a,c,d⟩:=L.row;exact⟨L.M.call h hf b,L.fr.trans hf u_,L.lt,aj_ L.hB hf.size,hf.bl L.b2 M_,hf.bl L.b3 M_,L.ty.fr hf (λg hg e=>L.M.brP (e▸hg)),hc,lv,ys,hf.bl r1 M_,zj a hf (λg hg e=>by have:=a.lt g hg;omega),c,d.fr hf (λg hg e=>M_)⟩
end
def lj:Tryz.prog.underlying 150=some (.slice 206):=K_
def bM:(Tryz.prog.info? 206).map (λi=>(i.zero,i.size,i.bytes))=some (some (.agg #[.string ⟨#[]⟩,.nilIface]),2,32):=K_
def GZ(w0 w:Aw)(P:Az)(ss:BA)(ds:Aq)(sv rv:Ax)(xs:Ay)(s:BA)(nt:Av)(nx:Ax)(pl:Ar)(br i:Nat)(t:PT)(p:Int)(v:Ax)(R:Aj)(es:Af)(j:Nat)(e:Ak)(W':Aw):Prop:=
 ∃v1,e=.returned v1/\match vP R s es j with|some (es',j')=>v1=.nilIface/\j<j'/\MI w0 w P ss ds sv rv xs s nt nx pl br i t p v es' j' W'|none=>(∃T x,v1=.iface T x)/\Zb w sv rv s nt nx pl br v1 W'
def cwJw1_{p:Prop}(h:p:=by
 have hlt2:e1+1<=s.size:=zm (s:=s) (i:=e1) M_;have hsm:vP (rdT s (zx ds) pl f t) s es j=(rdT s (zx ds) pl f t (e1+1)).map (λq=>(es++[(key,q.1)],q.2)):=by
  unfold vP;rw[hrk.o,i_ ⟨h58,hri⟩]
 replace h58:=zy h58;cases hp:rdT s (zx ds) pl f t (e1+1) with
 |none=>
  have hst:=zy (show vP (rdT s (zx ds) pl f t) s es j=none by rw[hsm,hp];rfl);replace hp:=zy hp;clear hsm hgo hri;go_in;go_wp2_with (first
   |(go_at_call 217;apply hrun.o.mono;rintro e w1 ⟨rfl,hf1,h1⟩;(first|(have:=cc1;obtain⟨k0,k1⟩:=hfac.o w1 hf1)|(have k0:=hfac.o w1 hf1));have e0:=(hL1.o w1 hf1 h1).M.e;have b20:=(hL1.o w1 hf1 h1).b2.c0;have L1:=zy (hL1.o w1 hf1 h1);replace hf1:=zy hf1;replace h1:=zy h1)
   |(go_at_call 190;apply(yT 58 h1.o hs4 hle.2 rfl D_ h58.o).mono;rintro e w2 ⟨rfl,hf2,h2⟩;have L2:=L1.o.call h2 hf2 hlt2 z9_;have hC:=zy (hR (e1+1) M_ hlt2 w2 _ L2.M L2.ty);have d20:=L2.b2.c0;have d31:=L2.b3.c1;replace L2:=zy L2;have F2:=zy (hf1.o.trans hf2 u_);clear hf2 h2)
   |(go_at_call 148;apply hC.o.mono;rintro e w3 ⟨v3,ev3,rfl,hf3,hm3⟩;rw[hp.o]at hm3;obtain⟨rfl,hErr,j3,h3,hj3⟩:=hm3;obtain⟨eT,ex,rfl⟩:=hErr.iface;have G3:=(L2.o.M.call h3 hf3 hj3).G;have F3:=zy (L2.o.fr.trans hf3 u_);replace hErr:=zy hErr;replace h3:=zy h3;replace G3:=zy G3;clear hf3)
   |(go_at_call 154;apply(kU (k:=key) hI G3.o hks).mono;intro e w4 hW;obtain⟨g4,tx4,rfl,hg4,hb4,hf4⟩:=hW;replace hf4:=zy hf4;replace hb4:=zy hb4))
  try go_ret
  rw[Q_.o];refine⟨_,rfl,?_⟩;rw[hst.o];have hs1:=F3.o.size;have hsW:=L2.o.fr.size;exact⟨⟨_,_,rfl⟩,F3.o.trans hf4.o v_,.within g4 M_ tx4 hb4.o ((hErr.o.ls hsW).fr hf4.o u_),j3,hf4.o.bl h3.o id,hj3⟩
 |some q=>
  obtain⟨d,j2⟩:=q;have hj2:=hgo _ d j2 hp;have hst:=zy (show vP (rdT s (zx ds) pl f t) s es j=some (es++[(key,d)],j2) by rw[hsm,hp];rfl);replace hp:=zy hp;obtain⟨ti,hi1,hi2,hi3,hi4⟩:=info_parts bM;clear hsm hgo hri;go_in;go_wp2_with (first
   |(go_at_call 217;apply hrun.o.mono;rintro e w1 ⟨rfl,hf1,h1⟩;(first|(have:=cc1;obtain⟨k0,k1⟩:=hfac.o w1 hf1)|(have k0:=hfac.o w1 hf1));have e0:=(hL1.o w1 hf1 h1).M.e;have b20:=(hL1.o w1 hf1 h1).b2.c0;have L1:=zy (hL1.o w1 hf1 h1);replace hf1:=zy hf1;replace h1:=zy h1)
   |(go_at_call 190;apply(yT 58 h1.o hs4 hle.2 rfl D_ h58.o).mono;rintro e w2 ⟨rfl,hf2,h2⟩;have L2:=L1.o.call h2 hf2 hlt2 z9_;have hC:=zy (hR (e1+1) M_ hlt2 w2 _ L2.M L2.ty);have d20:=L2.b2.c0;have d31:=L2.b3.c1;replace L2:=zy L2;have F2:=zy (hf1.o.trans hf2 u_);clear hf2 h2)
   |(go_at_call 148;apply hC.o.mono;rintro e w3 ⟨v3,ev3,rfl,hf3,hm3⟩;rw[hp.o]at hm3;obtain⟨rfl,hDv,h3,hj3⟩:=hm3;obtain⟨dT,dx,rfl⟩:=hDv.iface;have L3:=L2.o.call h3 hf3 hj3 (by have:=L2.o.c;omega);obtain⟨lv3,ys3,q1,q2,q3,q4⟩:=L2.o.row;rw[hnn.o]at q2;have r0:=zy q2.lt;have r1:=hf3.bl q1 M_;have r2:=zj q2 hf3 (λg hg e=>zc_);have rM:=zy (q4.fr hf3 (λg hg e=>zt_));obtain⟨la3,lc3,rfl⟩:=zw r2;replace hDv:=zy hDv;clear q1 q2 q3 q4;have k3:=r1.c0;have kg:=r1.th 0;have hB3:=L3.hB;replace L3:=zy L3;replace r1:=zy r1;replace r2:=zy r2;clear hf3 h3)
   |(at_builtin;go_must ((first|(have:=cc1;refine wpList_append_own_at _ rfl _ _ 150 rfl (w.heap.size+3) 206 ti _ 2 32 lj hi1 hi2 hi3 hi4 rfl D_ (.slice la3 (m+1) lc3) (m+1) ys3 rfl ?hown _ 1 1 [.string key,.iface dT dx] rfl rfl (zF _ #[.string key,.iface dT dx] _ _ ?nn) ?one ?b1 ?b2 ?b3 ?_)|(refine wpList_append_own_at _ rfl _ _ 150 rfl (w.heap.size+3) 206 ti _ 2 32 lj hi1 hi2 hi3 hi4 rfl D_ (.slice la3 0 lc3) 0 ys3 rfl ?hown _ 1 1 [.string key,.iface dT dx] rfl rfl (zF _ #[.string key,.iface dT dx] _ _ ?nn) ?one ?b1 ?b2 ?b3 ?_)))
     case hown=>exact World.ownsRow.alloc r2.o _
     case nn=>simp
     case one=>simp[Value.oneCell']
     case b1=>unfold maxLen;omega
     case b2=>omega
     case b3=>simp;omega
     intro v5 w5 ho5 hg5 hn5 hl5
     (first|(have:=cc1;have hF5:Fr w3 w5 (λg=>(Value.slice la3 (m+1) lc3).ownBlock=some g):=Y_ ((A_ w3 _).alloc _) hg5 (λk e _=>e))|(have hF5:Fr w3 w5 (λg=>(Value.slice la3 0 lc3).ownBlock=some g):=Y_ ((A_ w3 _).alloc _) hg5 (λk e _=>e)))
     (first|(have:=cc1;have hl6:H_ (v5.ownBlock=(Value.slice la3 (m+1) lc3).ownBlock\/∃h,v5.ownBlock=some h/\w3.heap.size<=h):=zy (hl5.imp id (λe=>⟨_,e,by simp⟩)))|(have hl6:H_ (v5.ownBlock=(Value.slice la3 0 lc3).ownBlock\/∃h,v5.ownBlock=some h/\w3.heap.size<=h):=zy (hl5.imp id (λe=>⟨_,e,by simp⟩))))
     have R5:=hF5.bl r1.o (λe=>by have:=r2.o.lt _ e;omega)
     have e5:=R5.c0
     have f5:=R5.th 0
     have hn5':∀g,v5.ownBlock=some g->w.heap.size+3<=g:=(λg hg=>(ho5.lt g hg).1)
     obtain⟨g5,cap5,rfl⟩:=zp ho5 M_
     replace hF5:=zy hF5
     replace ho5:=zy ho5
     replace R5:=zy R5
     replace hn5':=zy hn5'
     clear hg5 hl5 hn5))
  try go_ret
  rw[Q_.o];refine⟨_,rfl,?_⟩;rw[hst.o];refine⟨rfl,M_,?_⟩;(first|(have:=cc1;have hG:Fr w5 (w5.setCell ⟨w.heap.size+2,0,none⟩ (S_ g5 ((m+1)+1) cap5)) (λg=>g=w.heap.size+2):=(A_ w5 (λg=>g=w.heap.size+2)).setCell ⟨w.heap.size+2,0,none⟩ _ (λ_=>rfl))|(have hG:Fr w5 (w5.setCell ⟨w.heap.size+2,0,none⟩ (.slice (some ⟨g5,0,none⟩) (0+1) cap5)) (λg=>g=w.heap.size+2):=(A_ w5 (λg=>g=w.heap.size+2)).setCell ⟨w.heap.size+2,0,none⟩ _ (λ_=>rfl)));(first|(have:=cc1;have hH:Fr w3 (w5.setCell ⟨w.heap.size+2,0,none⟩ (S_ g5 ((m+1)+1) cap5)) (λg=>w.heap.size+2<=g):=(hF5.o.mono (λg _ e=>by have:=r2.o.lt g e;omega)).trans hG (λg _ e=>M_))|(have hH:Fr w3 (w5.setCell ⟨w.heap.size+2,0,none⟩ (.slice (some ⟨g5,0,none⟩) (0+1) cap5)) (λg=>w.heap.size+2<=g):=(hF5.o.mono (λg _ e=>by have:=r2.o.lt g e;omega)).trans hG (λg _ e=>M_)));have hM1:=L3.o.M;have hbG:=hM1.brG;have hl1:=L3.o.lt;have hPl:∀g,P g->¬(w.heap.size+2<=g):=λg hg=>by have:=hM1.Pbr g hg;omega
  have hyl:=r2.o.1;(first|(have:=cc1;exact⟨⟨hH.bl hM1.R M_,hM1.D.fr hH hPl,hM1.G.fr hH z8_ (λg e=>M_),hM1.E,hM1.Pbr,hM1.brG,hM1.hs,hM1.il⟩,L3.o.fr.trans hH (λg hg e=>M_),L3.o.lt,aj_ L3.o.hB hH.size,hH.bl L3.o.b2 M_,hH.bl L3.o.b3 M_,L3.o.ty.fr hH hPl,by rw[ah_,hnn.o,ap_];omega,_,_,R5.o.set 0 _,by rw[ah_,hnn.o,ap_];exact zj ho5.o hG (λg hg e=>by have:=hn5'.o g hg;omega),by rw[jF,ah_,hnn.o,ap_];exact⟨(m+1),rfl,by rw[au_ M_,show(m+1)*2-ys3.length=0 by omega];rfl⟩,rM.o.grow (c:=w.heap.size+2) (hDv.o.mono (λg _ hg=>⟨by have:=L2.o.hB;omega,λe=>by have:=r0.o g e;omega⟩)) hks ((hF5.o.mono (λ_ _ e=>.inl e)).trans hG (λ_ _ e=>.inr e)) M_ hl6.o⟩)|(exact⟨⟨hH.bl hM1.R M_,hM1.D.fr hH hPl,hM1.G.fr hH z8_ (λg e=>M_),hM1.E,hM1.Pbr,hM1.brG,hM1.hs,hM1.il⟩,L3.o.fr.trans hH (λg hg e=>M_),L3.o.lt,aj_ L3.o.hB hH.size,hH.bl L3.o.b2 M_,hH.bl L3.o.b3 M_,L3.o.ty.fr hH hPl,by rw[ah_,hnn.o,ap_];omega,_,_,R5.o.set 0 _,by rw[ah_,hnn.o,ap_];exact zj ho5.o hG (λg hg e=>by have:=hn5'.o g hg;omega),by rw[jF,ah_,hnn.o,ap_];exact⟨0,rfl,by rw[au_ M_,show 0*2-ys3.length=0 by omega];rfl⟩,rM.o.grow (c:=w.heap.size+2) (hDv.o.mono (λg _ hg=>⟨by have:=L2.o.hB;omega,λe=>by have:=r0.o g e;omega⟩)) hks ((hF5.o.mono (λ_ _ e=>.inl e)).trans hG (λ_ _ e=>.inr e)) M_ hl6.o⟩))):p:=h
def Jw{w0 w:Aw}{P:Az}{ss:BA}{ds:Aq}{sv rv:Ax}{xs:Ay}{s:BA}{nt:Av}{nx:Ax}{pl:Ar}{br i:Nat}{t:PT}{p:Int}{es:Af}{j:Nat}{W:Aw}(L:MI w0 w P ss ds sv rv xs s nt nx pl br i t p (.iface vT vx) es j W)(hI:yk w0)(hR:∀j',j<j'->j'<=s.size->qy w0 P ss ds sv rv xs s nt nx pl br f t j')(hgo:∀j d j',rdT s (zx ds) pl f t j=some (d,j')->j<j'):Calls prog 216 #[P_ w.heap.size,.pointer (some ⟨w.heap.size+2,0,none⟩),.pointer (some ⟨w.heap.size+1,0,none⟩)] W (GZ w0 w P ss ds sv rv xs s nt nx pl br i t p (.iface vT vx) (rdT s (zx ds) pl f t) es j):=by
 refine hq_ λG Q_=>?_;have Q:=L.b2.c0;have F:=L.M.il;have Q:=L.M.hs;have hs4:s.size<=4000:=M_;obtain⟨n,hnn⟩:=x_ es.length;obtain⟨B,a⟩:=x_ (wJ es);have Q:i+n<j:=by rw[<- hnn];exact L.c
 have Q:=L.lt;have Q:=L.hB;have hle:=uH F;obtain⟨e1,y⟩:=x_ (ze s j);rw[y]at hle;obtain⟨key,z⟩:=x_ (s.extract j e1);have hks:key.size<=4000:=by rw[<- z,bk_];omega
 have hrun:=zy (show Calls prog 217 #[P_ br,.func (.func 218) #[] #[]] W λe w'=>e=.returned (.string key)/\Fr W w' (· = br)/\yq w' br sv rv s e1 (!pl) by
  have h:=ww L.M.R hs4 F
  rw[show zJ 97 122 s j=e1 from y,z]at h
  exact h)
 have hrk:H_ (kJ s true (wJ es) j=if bt s e1=58/\kV B key=true then some (key,e1+1) else none):=zy (by unfold kJ;rw[i_ rfl,y,z,a]);have hL1:H_ (∀w1,Fr W w1 (· = br)->yq w1 br sv rv s e1 (!pl)->MI w0 w P ss ds sv rv xs s nt nx pl br i t p (.iface vT vx) es e1 w1):=zy (λw1 hf h=>L.call h hf hle.2 M_);have C:H_ (vP (rdT s (zx ds) pl f t) s es j=none->∀w1 A,Fr W w1 (· = br)->yq w1 br sv rv s A (!pl)->A<=s.size->G (.returned (.iface nt nx)) w1):=zy (λhst w1 A hf h J=>by
  rw[Q_.o]
  refine⟨_,rfl,?_⟩
  rw[hst]
  exact⟨⟨_,_,rfl⟩,L.fr.trans hf u_,.base,A,h,J⟩)
 replace L:=zy L;replace hnn:=zy hnn;replace a:=zy a;by_cases hri:kV B key=true;case neg=>
  have hst:=zy (show vP (rdT s (zx ds) pl f t) s es j=none by unfold vP;rw[hrk.o,n_ (λh=>hri h.2)]);cases B with
  |none=>exact absurd rfl hri
  |some lk=>
   have K:(Op.bytesLess key.toList lk.toList||key.toList==lk.toList)=true:=by
    rw[wm];cases hb:Op.bytesLess lk.toList key.toList with
    |false=>rfl
    |true=>exact absurd hb hri
   obtain⟨lv,ys,r1,r2,r,_⟩:=L.o.row;rw[a.o,hnn.o]at r;obtain⟨m,hm,u⟩:=r;rw[hnn.o]at r2;have b:n=m+1:=hm;subst b;obtain⟨E,x,rfl⟩:=zw r2;obtain⟨g,H,D⟩:=zp r2 x8_;cases D;have O:IntKind.i64.wrap (((m+1:Nat):Int)-1)=(m:Int):=xx_
   have N:(0:Int)<((m+1:Nat):Int):=M_;have hfac:H_ (∀w1,Fr W w1 (· = br)->w1.cell? ⟨w.heap.size+2,0,none⟩=some (S_ g (m+1) x)/\w1.cell? ⟨g,m*2,none⟩=some (.string lk)):=zy (λw1 hf=>⟨by rw[(hf.bl r1 M_).cell 0];rfl,zt (zj r2 hf (λg' hg e=>by have:=r2.lt g' hg;omega)) rfl u⟩);go_in;go_wp2_with (go_at_call 217;apply hrun.o.mono;rintro e w1 ⟨rfl,hf1,h1⟩;obtain⟨k0,k1⟩:=hfac.o w1 hf1;have e0:=(hL1.o w1 hf1 h1).M.e;replace hf1:=zy hf1;replace h1:=zy h1);try go_ret
   exact C.o hst w1 e1 hf1 h1 hle.2
 case pos=>
  cases B with
  |none=>
   obtain⟨lv,ys,r1,r2,hm,_⟩:=L.o.row;rw[a.o,hnn.o]at hm;rw[hnn.o]at r2;have b:n=0:=hm;subst b;obtain⟨E,x,rfl⟩:=zw r2;have hfac:H_ (∀w1,Fr W w1 (· = br)->w1.cell? ⟨w.heap.size+2,0,none⟩=some (.slice E 0 x)):=zy (λw1 hf=>by rw[(hf.bl r1 M_).cell 0];rfl);by_cases h58:bt s e1=58;case neg=>
    have hst:=zy (show vP (rdT s (zx ds) pl f t) s es j=none by unfold vP;rw[hrk.o,n_ (λh=>h58 h.1)]);replace h58:=zy h58;go_in;go_wp2_with (first
     |(go_at_call 217;apply hrun.o.mono;rintro e w1 ⟨rfl,hf1,h1⟩;have k0:=hfac.o w1 hf1;have e0:=(hL1.o w1 hf1 h1).M.e;have b20:=(hL1.o w1 hf1 h1).b2.c0;have L1:=zy (hL1.o w1 hf1 h1);replace hf1:=zy hf1;replace h1:=zy h1)
     |(go_at_call 190;apply(xQ 58 h1 hs4 hle.2 rfl D_ h58).mono;rintro e w2 ⟨rfl,hf2,h2⟩;have I:=(L1.o.call h2 hf2 hle.2 L1.o.c).M.e;replace hf2:=zy hf2;replace h2:=zy h2))
    try go_ret
    exact C.o hst w2 e1 (hf1.o.trans hf2 u_) h2 hle.2
   case pos=>
    exact cwJw1_
  |some lk=>
   have K:(Op.bytesLess key.toList lk.toList||key.toList==lk.toList)=false:=by
    rw[wm];rw[show Op.bytesLess lk.toList key.toList=true from hri];rfl
   obtain⟨lv,ys,r1,r2,r,_⟩:=L.o.row;rw[a.o,hnn.o]at r;obtain⟨m,hm,u⟩:=r;rw[hnn.o]at r2;have b:n=m+1:=hm;subst b;obtain⟨E,x,rfl⟩:=zw r2;obtain⟨g,H,D⟩:=zp r2 x8_;cases D;have O:IntKind.i64.wrap (((m+1:Nat):Int)-1)=(m:Int):=xx_
   have N:(0:Int)<((m+1:Nat):Int):=M_;have hfac:H_ (∀w1,Fr W w1 (· = br)->w1.cell? ⟨w.heap.size+2,0,none⟩=some (S_ g (m+1) x)/\w1.cell? ⟨g,m*2,none⟩=some (.string lk)):=zy (λw1 hf=>⟨by rw[(hf.bl r1 M_).cell 0];rfl,zt (zj r2 hf (λg' hg e=>by have:=r2.lt g' hg;omega)) rfl u⟩);by_cases h58:bt s e1=58;case neg=>
    have hst:=zy (show vP (rdT s (zx ds) pl f t) s es j=none by unfold vP;rw[hrk.o,n_ (λh=>h58 h.1)]);replace h58:=zy h58;go_in;go_wp2_with (first
     |(go_at_call 217;apply hrun.o.mono;rintro e w1 ⟨rfl,hf1,h1⟩;obtain⟨k0,k1⟩:=hfac.o w1 hf1;have e0:=(hL1.o w1 hf1 h1).M.e;have b20:=(hL1.o w1 hf1 h1).b2.c0;have L1:=zy (hL1.o w1 hf1 h1);replace hf1:=zy hf1;replace h1:=zy h1)
     |(go_at_call 190;apply(xQ 58 h1 hs4 hle.2 rfl D_ h58).mono;rintro e w2 ⟨rfl,hf2,h2⟩;have I:=(L1.o.call h2 hf2 hle.2 L1.o.c).M.e;replace hf2:=zy hf2;replace h2:=zy h2))
    try go_ret
    exact C.o hst w2 e1 (hf1.o.trans hf2 u_) h2 hle.2
   case pos=>
    have cc1:=Nat;exact cwJw1_
def Wg{w0 w:Aw}{P:Az}{ss:BA}{ds:Aq}{sv rv:Ax}{xs:Ay}{s:BA}{nt:Av}{nx:Ax}{pl:Ar}{br i:Nat}{t:PT}{p:Int}(M:NC w0 P ss ds sv rv xs s nt nx pl br i w)(d:TyV w P t (.iface vT vx)){W':Aw}(h:yq W' br sv rv s (i+1) (!pl))(hf:Fr (((w.alloc (.cells #[P_ br] 308)).alloc (.cells #[Z_ p,.iface vT vx] 220)).alloc (.cells #[L_] 150)) W' (· = br))(hi:i+1<=s.size):MI w0 w P ss ds sv rv xs s nt nx pl br i t p (.iface vT vx) [] (i+1) W':=by
 have k:=M.lt;have A:Fr w (((w.alloc (.cells #[P_ br] 308)).alloc (.cells #[Z_ p,.iface vT vx] 220)).alloc (.cells #[L_] 150)) N_:=(((A_ w _).alloc _).alloc _).alloc _;have hz:(((w.alloc (.cells #[P_ br] 308)).alloc (.cells #[Z_ p,.iface vT vx] 220)).alloc (.cells #[L_] 150)).heap.size=w.heap.size+3:=x8_
 have m:(w.alloc (.cells #[P_ br] 308)).heap.size=w.heap.size+1:=x8_
 have n:((w.alloc (.cells #[P_ br] 308)).alloc (.cells #[Z_ p,.iface vT vx] 220)).heap.size=w.heap.size+2:=x8_
 have c:=((B_ w #[P_ br] 308).alloc (.cells #[Z_ p,.iface vT vx] 220)).alloc (.cells #[L_] 150);have a:=(B_ (w.alloc (.cells #[P_ br] 308)) #[Z_ p,.iface vT vx] 220).alloc (.cells #[L_] 150);have b:=B_ ((w.alloc (.cells #[P_ br] 308)).alloc (.cells #[Z_ p,.iface vT vx] 220)) #[L_] 150;rw[m]at a;rw[n]at b;have m:=hf.size;exact⟨(M.new A).call h hf hi,(A.mono v_).trans hf u_,k,M_,hf.bl c M_,hf.bl a M_,(d.fr A u_).fr hf (λg hg e=>M.brP (e▸hg)),by simp,_,_,hf.bl b M_,World.ownsRow_nil _ _ _ _,rfl,qn.nil _ _ _ _⟩
def im{q0:Nat}{w0 w:Aw}{P:Az}{ss:BA}{ds:Aq}{sv rv:Ax}{xs:Ay}{s:BA}{nt:Av}{nx:Ax}{pl:Ar}{br i:Nat}{t:PT}{p:Int}(M:NC w0 P ss ds sv rv xs s nt nx pl br i w)(x:TyV w P t (.iface vT vx))(r:yk w0)(u:∀j,i<j->j<=s.size->qy w0 P ss ds sv rv xs s nt nx pl br f t j):Calls prog 195 #[P_ br,.agg #[Z_ p,.iface vT vx]] w (yw (zx ds) (.wrap 123 q0 t) w sv rv s nt nx pl br (xN (rdT s (zx ds) pl f t) s 123 i)):=by
 refine hq_ λm Q_=>?_;have D:s.size<=4000:=y3_
 have A:Fr w (((w.alloc (.cells #[P_ br] 308)).alloc (.cells #[Z_ p,.iface vT vx] 220)).alloc (.cells #[L_] 150)) N_:=(((A_ w _).alloc _).alloc _).alloc _;have y:=jR s (zx ds) pl f t;have m:eo (St:=List (BA×DT)) sv rv s nt nx pl br 216 #[P_ w.heap.size,.pointer (some ⟨w.heap.size+2,0,none⟩),.pointer (some ⟨w.heap.size+1,0,none⟩)] (vP (rdT s (zx ds) pl f t) s) (λn j W=>MI w0 w P ss ds sv rv xs s nt nx pl br i t p (.iface vT vx) n j W) (Zb w sv rv s nt nx pl br):=
  { F:=λW=>by kernel_rfl
    R:=λh=>⟨h.M.R,h.M.il,h.M.e⟩
    K:=λh h1 g k z=>h.call h1 g k yp_
    B:=λh=>⟨h.fr,.base,_,h.M.R,h.M.il⟩
    C:=λ{n j W} h=>(Jw h r (λj' h1 g=>u j' yp_ g) (λj d j' e=>(y j d j' e).1)).mono (by
     rintro e W' ⟨v,he,hm⟩
     refine⟨v,he,?_⟩
     cases z:vP (rdT s (zx ds) pl f t) s n j with
     |none=>rw[z]at hm;exact hm
     |some q=>obtain⟨a,b⟩:=q;rw[z]at hm;exact hm) }
 have hC:=zy (py m (w:=(((w.alloc (.cells #[P_ br] 308)).alloc (.cells #[Z_ p,.iface vT vx] 220)).alloc (.cells #[L_] 150))) (σ:=([]:List (BA×DT))) (i:=i) (co:=123) (cf:=125) 123 125 (A.bl M.R id) M.il (λW' h hf hi=>Wg M x h hf hi) (λW' h hf=>⟨⟨(A.mono v_).trans hf u_,.base,i,h,M.il⟩,((M.new A).call h hf M.il).e⟩) D rfl rfl D_ D_);have hres:=zy (Wp (rdT s (zx ds) pl f t) s i);cases hp:jd (vP (rdT s (zx ds) pl f t) s) s 123 125 [] i with
 |none=>
  rw[hp]at hres;replace hp:=zy hp;go_in;go_wp2_with (go_at_call 214;apply hC.o.mono;rintro e w2 ⟨v2,rfl,hm⟩;rw[hp.o]at hm;obtain⟨⟨m,m,rfl⟩,hB⟩:=hm;replace hB:=zy hB);try go_ret
  rw[Q_.o,hres.o];obtain⟨h1,g,k⟩:=hB.o;exact⟨.nilIface,_,rfl,h1,rfl,g,k⟩
 |some q=>
  have cc1:=Nat;exact cwJf1_
end Go.Proofs.YtamhgejdkclmdaaGreatDoor
