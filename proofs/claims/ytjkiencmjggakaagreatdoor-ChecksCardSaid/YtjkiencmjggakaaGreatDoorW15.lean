import Derived.Test.YtjkiencmjggakaaGreatDoorW14
set_option maxHeartbeats 16000000
set_option maxRecDepth 100000
set_option linter.defProp false
set_option linter.unusedSimpArgs false
open Go.Proofs.Tryz
namespace Go.Proofs.YtjkiencmjggakaaGreatDoor
open Go.RowKit
variable {env:Nat->Option PB}{fa:Option Addr}{fc:Nat}{vT:TypeId}{vx:Value}
def jZ(R:PT->Nat->Option (DT×Nat))(fs:List PF)(l:List DT)(j:Nat):Option (List DT×Nat):=
 match fs[l.length]? with|none=>none|some g=>(R g.ty j).map (λq=>(l++[q.1],q.2))
def qF(len:Nat):Option (List DT×Nat)->Option (DT×Nat)
 |none=>none
 |some (l,j)=>if l.length<len then none else some (.mk 114 0 noB [] l,j)
def pI(s:BA)(l:List DT):Option (List DT×Nat)->Option (DT×Nat)
 |none=>none
 |some (r,e)=>if bt s e=41 then some (.mk 114 0 noB [] (l++r),e+1) else none
def tM(R:PT->Nat->Option (DT×Nat))(s:BA)(fs:List PF)(b:∀t,Vr s (R t)):∀N l j,l.length<fs.length->j<=s.size->s.size+1-j<=N->
 qF fs.length (vG (jZ R fs) s 41 N l j)=pI s l (zD R s true ((fs.drop l.length).map PF.ty) j):=by
 intro N;induction N with
 |zero=>intro l j _ c a;omega
 |succ N ih=>
  intro l j hk c a;rw[vG,ba_ hk,aw_,zD,i_ rfl];simp only[jZ,af_ hk];cases a:R (fs[l.length]).ty j with
  |none=>rfl
  |some q=>
   obtain⟨d,j'⟩:=q;have c:=b _ j d j' a;have e:(l++[d]).length=l.length+1:=by simp
   simp only[bz_];by_cases a:bt s j'=41
   .rw[i_ a];by_cases b:l.length+1<fs.length
    .rw[ba_ b,aw_,zD];simp only[bs_,if_false];rw[n_ M_];simp only[qF,pI];rw[i_ M_]
    .rw[bx_ M_,bd_,zD];simp only[qF,pI];rw[n_ M_,i_ a]
   .rw[n_ a];by_cases c:bt s j'=44
    .rw[i_ c];have g:=zc (s:=s) (i:=j') M_;by_cases b:l.length+1<fs.length
     .have:=ih (l++[d]) (j'+1) M_ g M_;rw[this,e];rw[ba_ b,aw_,zD,zD,i_ rfl];simp only[bs_,if_false];rw[i_ c];cases R (fs[l.length+1]).ty (j'+1) with
      |none=>rfl
      |some q=>
       obtain⟨e,e⟩:=q;simp only;cases zD R s false ((fs.drop (l.length+1+1)).map PF.ty) e with
       |none=>rfl
       |some q=>
        simp only[pI,by_,bi_,bk_]
     .rw[bx_ M_,bd_,zD];have hn:vG (jZ R fs) s 41 N (l++[d]) (j'+1)=none:=by
       cases N with
       |zero=>rfl
       |succ N=>rw[vG];simp only[jZ];rw[a4_ M_]
      rw[hn];simp only[qF,pI];rw[n_ a]
    .rw[n_ c];by_cases b:l.length+1<fs.length
     .rw[ba_ b,aw_,zD];simp only[bs_,if_false];rw[n_ c];rfl
     .rw[bx_ M_,bd_,zD];simp only[qF,pI];rw[n_ a]
def sp(env:Nat->Option PB):Prop:=∀c l o,env c=some (.enum l o)->∀q∈l,zh q.1=true
def GD{s:BA}{pl:Bool}(g:sp env){i:Nat}(h:bt s i=41):∀(f:Nat) (t:PT),okT env t->rdT s env pl f t i=none:=by
 intro f;induction f with
 |zero=>intro t _;rfl
 |succ f ih=>
  intro t b;cases t with
  |leaf c p=>
   rw[rdT];unfold xj;split
   .rw[n_ M_]
   .split
    .rw[n_ M_,n_ M_]
    .split
     .have d:xE s c i=none:=by
       unfold xE;rw[n_];intro a;have hz:(yw s i).size=0:=by
        unfold yw yQ;have e:sgn s i=i:=by unfold sgn;rw[n_ M_]
        rw[e,jb M_,bl_];omega
       exact absurd a.1 M_
      rw[d]
     .split
      .rw[n_ M_]
      .cases he:env c with
       |none=>rfl
       |some pb=>
        simp only;unfold yf;cases pb with
        |recd fs=>simp only;rw[n_ M_]
        |enum l o=>
         simp only;split
         .have:(l.map Prod.fst).findIdx? (λc=>c==bt s i)=none:=by
           rw[List.findIdx?_eq_none_iff];intro x hx;obtain⟨q,a,rfl⟩:=ay_.1 hx;have:=g c l o he q a;obtain⟨k,hk,_⟩:=wF this;rw[h,beq_eq_false_iff_ne];omega
          rw[this]
         .rfl
        |bytes n=>simp only;rw[n_ M_]
  |wrap c p t=>
   unfold okT at b;rw[rdT];unfold xI;rw[n_ M_]
  |alts p ts=>
   rw[rdT];unfold qj;cases pl with
   |false=>rw[n_ D_,n_ (λa=>M_)]
   |true=>
   rw[i_ rfl];cases ts with
   |nil=>rfl
   |cons t r=>
    simp only;have d:okT env t:=by
     unfold okT at b;have a:=b.2;unfold tm at a;exact a.2.1
    rw[ih t d]
structure RI(tt:PT)(w0 w:World)(P:Nat->Prop)(ss:BA)(ds:List PD)(sv rv:Value)(xs:List Value)(s:BA)(nt:TypeId)(nx:Value)(pl:Bool)(br i:Nat)(fs:List PF)(p:Int)(fv:Value)(zs:List Value)(l:List DT)(j:Nat)(W:World):Prop where
 sub:∀k g,fs[k]?=some g->xQ (zx ds) tt 0 k=g.ty
 M:NC w0 P ss ds sv rv xs s nt nx pl br j W
 fr:Fr w W (· = br)
 lt:br<w.heap.size
 hB:w.heap.size+3<=W.heap.size
 b2:Blk W w.heap.size [P_ br] 293
 b3:Blk W (w.heap.size+1) [z_ p,fv] 215
 F:xB W P ss fs fv zs
 c:i+l.length<j
 nl:l.length<=fs.length
 row:∃lv,Blk W (w.heap.size+2) [lv] 150/\kH (zx ds) W (w.heap.size+3) (λg=>w.heap.size+3<=g/\lv.ownBlock≠some g) tt lv l
section
variable {tt:PT} {w0 w:World} {P:Nat->Prop} {ss:BA} {ds:List PD} {sv rv:Value} {xs:List Value} {s:BA} {nt:TypeId} {nx:Value} {pl:Bool} {br i:Nat} {fs:List PF} {p:Int} {fv:Value} {zs:List Value} {l:List DT} {j j':Nat} {W W':World}
def RI.call(L:RI tt w0 w P ss ds sv rv xs s nt nx pl br i fs p fv zs l j W)(h:zA W' br sv rv s j' (!pl))(hf:Fr W W' (· = br))(b:j'<=s.size)(hc:i+l.length<j'):RI tt w0 w P ss ds sv rv xs s nt nx pl br i fs p fv zs l j' W':=by
 have h1:=L.lt;obtain⟨lv,r1,a⟩:=L.row;obtain⟨ys,c⟩:=a.row;exact⟨L.sub,L.M.call h hf b,L.fr.trans hf u_,L.lt,ak_ L.hB hf.size,hf.bl L.b2 M_,hf.bl L.b3 M_,L.F.fr hf (λg hg e=>L.M.brP (e▸hg)),hc,L.nl,lv,hf.bl r1 M_,a.fr hf (λg hg e=>M_) (λg hg e=>by have:=c.lt g hg;omega)⟩
def RI.new(L:RI tt w0 w P ss ds sv rv xs s nt nx pl br i fs p fv zs l j W)(hf:Fr W W' N_):RI tt w0 w P ss ds sv rv xs s nt nx pl br i fs p fv zs l j W':=L.call (hf.bl L.M.R id) (hf.mono v_) L.M.il L.c
end
def GK:Tryz.prog.underlying 150=some (.slice 59):=K_
def YN{tt:PT}{w0 w:World}{P:Nat->Prop}{ss:BA}{ds:List PD}{sv rv:Value}{xs:List Value}{s:BA}{nt:TypeId}{nx:Value}{pl:Bool}{br i:Nat}{fs:List PF}{p:Int}{zs:List Value}{r:List DT}{j f:Nat}{W:World}(L:RI tt w0 w P ss ds sv rv xs s nt nx pl br i fs p (.slice fa fs.length fc) zs r j W)(C:∀g∈fs,zh g.letter=true)(a:fs.length<=300)(b:∀g∈fs,jW w0 P ss ds sv rv xs s nt nx pl br f g.ty j)(H:∀t d j',rdT s (zx ds) pl f t j=some (d,j')->j<j'):Calls prog 193 #[.pointer (some ⟨w.heap.size+2,0,none⟩),.pointer (some ⟨w.heap.size+1,0,none⟩),P_ w.heap.size] W λe W'=>∃v,e=.returned v/\match jZ (rdT s (zx ds) pl f) fs r j with|some (l',j')=>v=.nilIface/\j<j'/\RI tt w0 w P ss ds sv rv xs s nt nx pl br i fs p (.slice fa fs.length fc) zs l' j' W'|none=>(∃T x,v=.iface T x)/\eL w sv rv s nt nx pl br v W':=by
 refine hq_ λa K=>?_;have V:=L.b2.c0;have X:=L.b3.c1;have a:=L.c;have m:=L.lt;have y:=L.nl;have m:=L.hB;have l2:w.heap.size<W.heap.size:=M_;obtain⟨lv,r1,Y,u,z⟩:=L.row;obtain⟨la,lc,rfl⟩:=zl u;obtain⟨n,m⟩:=x_ r.length;rw[m]at r1 u z y a;have U:=r1.c0;by_cases hn:n=fs.length
 .have B:=zy (show jZ (rdT s (zx ds) pl f) fs r j=none by unfold jZ;rw[a4_ M_]);have a:=L.M.e;replace L:=zy L;subst hn;go_in;go_wp2;try go_ret
  rw[K.o];refine⟨_,rfl,?_⟩;rw[B.o];exact⟨⟨_,_,rfl⟩,L.o.fr,.base,j,L.o.M.R,L.o.M.il⟩
 .have a:n<fs.length:=M_;have y:((n:Int)==(fs.length:Int))=false:=by simp;omega
  have hd:fs[n]?=some fs[n]:=af_ a;have I:fs[n]∈fs:=a0_ a;generalize fs[n]=g0 at hd I;have a:(n:Int)<(fs.length:Int):=M_;obtain⟨g,cap,a⟩:=zm L.F.row M_;cases a;obtain⟨T,x,d0,c0,c1,c2,c3,N,Z⟩:=L.F.cells hd;obtain⟨l,A⟩:=x_ g0.letter;obtain⟨J,Q⟩:=x_ g0.place;have a3:zh l=true:=by rw[<- A];exact C _ I
  have a5:=zy (show xQ (zx ds) tt 0 r.length=g0.ty by rw[m];exact L.sub n g0 hd);rw[A]at c1;rw[Q]at c0;have a:=(A_ W N_).alloc (.cells #[I_ J,U_ l,.iface T x,.pointer d0] 189);have C:=B_ W #[I_ J,U_ l,.iface T x,.pointer d0] 189;have y:=L.new a;have O:=zy (b _ I _ _ y.M (N.fr a u_));have S:=zy (by simp:(W.alloc (.cells #[I_ J,U_ l,.iface T x,.pointer d0] 189)).heap.size=W.heap.size+1);replace y:=zy y;replace C:=zy C;replace u:=zy u;replace z:=zy z;replace L:=zy L;replace m:=zy m;replace r1:=zy r1;have I:=zy a;cases hp:rdT s (zx ds) pl f g0.ty j with
  |none=>
   have B:=zy (show jZ (rdT s (zx ds) pl f) fs r j=none by unfold jZ;rw[m.o,hd];simp only;rw[hp];rfl);replace hp:=zy hp;go_in;go_wp2_with (first
    |(go_at_call 135;apply O.o.mono;rintro e w1 ⟨v1,Q,rfl,b,hm⟩;rw[hp.o]at hm;obtain⟨rfl,A,j1,h1,N⟩:=hm;obtain⟨eT,a,rfl⟩:=A.iface;have a:=(b.bl C M_).c1;replace b:=zy b;replace A:=zy A;replace h1:=zy h1)
    |(go_at_call 194;apply(iD a3).mono;intro e a J;obtain⟨Z,a6,rfl,a,C,a⟩:=J;replace a:=zy a;replace C:=zy C))
   try go_ret
   rw[K.o];refine⟨_,rfl,?_⟩;rw[B.o];have J:=y.o.fr.trans b u_;have a7:=J.size;have a4:=y.o.fr.size;exact⟨⟨_,_,rfl⟩,J.trans a v_,.within Z M_ a6 C ((A.o.ls a4).fr a u_),j1,a.o.bl h1 id,N⟩
  |some q=>
   obtain⟨d,a⟩:=q;have a2:=H _ d a hp;have B:=zy (show jZ (rdT s (zx ds) pl f) fs r j=some (r++[d],a) by unfold jZ;rw[m.o,hd];simp only;rw[hp];rfl);replace hp:=zy hp;obtain⟨ti,A,Z,a0,a1⟩:=info_parts mC;go_in;go_wp2_with (first
    |(go_at_call 135;apply O.o.mono;rintro e w1 ⟨v1,Q,rfl,b,hm⟩;rw[hp.o]at hm;obtain⟨rfl,J,h1,N⟩:=hm;obtain⟨dT,dx,rfl⟩:=J.iface;have a:=y.o.call h1 b N (by rw[m.o];omega);have H:=(b.bl (I.o.bl r1 id) M_);have C:=zj (zj u I u_) b (λg hg e=>(by have:=u.o.lt g hg;omega));have V:=zy (λi d (e:r[i]?=some d)=>((z.o i d e).fr I u_).fr b (λg hg e=>(by omega)));replace J:=zy J;have U:=H.c0;have r:=a.hB;revert a H C;refine h_ λa H C=>?_)
    |(at_builtin;go_must (refine wpList_append_own_at _ rfl _ _ 150 rfl (w.heap.size+3) 59 ti _ 1 16 GK A Z a0 a1 rfl D_ (.slice la n lc) n ((List.range n).flatMap λi=>[Y i]) rfl ?hown _ 1 1 [.iface dT dx] rfl rfl (zN _ #[.iface dT dx] _ _ ?nn) ?one ?b1 ?b2 ?b3 ?_)
      case hown=>exact World.ownsRow.alloc C _
      case nn=>simp
      case one=>simp[Value.oneCell']
      case b1=>unfold maxLen;omega
      case b2=>omega
      case b3=>simp;omega
      intro I b A r U O
      have z:Fr w1 b (λg=>(Value.slice la n lc).ownBlock=some g):=a_ ((A_ w1 _).alloc _) r (λk e _=>e)
      have y:=z.bl H (λe=>by have:=C.o.lt _ e;omega)
      have H:=y.c0
      have H:=y.th 0
      have N:∀g,I.ownBlock=some g->w.heap.size+3<=g:=(λg hg=>(A.lt g hg).1)
      obtain⟨I,H,rfl⟩:=zm A M_
      replace z:=zy z
      replace A:=zy A
      replace y:=zy y
      replace N:=zy N
      have Q:H_ ((Value.slice (some ⟨I,0,none⟩) (n+1) H).ownBlock=(Value.slice la n lc).ownBlock\/∃h,(Value.slice (some ⟨I,0,none⟩) (n+1) H).ownBlock=some h/\w1.heap.size<=h):=zy (O.imp id (λe=>⟨_,e,by simp⟩))
      clear r O U))
   try go_ret
   rw[K.o];refine⟨_,rfl,?_⟩;rw[B.o];refine⟨rfl,a2,?_⟩;have B:Fr b (b.setCell ⟨w.heap.size+2,0,none⟩ (S_ I (n+1) H)) (λg=>g=w.heap.size+2):=(A_ b (λg=>g=w.heap.size+2)).setCell ⟨w.heap.size+2,0,none⟩ _ (λ_=>rfl);have r:Fr w1 (b.setCell ⟨w.heap.size+2,0,none⟩ (S_ I (n+1) H)) (λg=>w.heap.size+2<=g):=(z.o.mono (λg _ e=>by have:=C.o.lt g e;omega)).trans B (λg _ e=>M_);have b:=a.o.M;have C:=b.brG;have C:∀g,P g->¬(w.heap.size+2<=g):=λg hg=>by have:=b.Pbr g hg;omega
   exact⟨a.o.sub,⟨r.bl b.R M_,b.D.fr r C,b.G.fr r (by have:=b.lt;omega) (λg e=>M_),b.E,b.Pbr,b.brG,b.hs,b.il⟩,a.o.fr.trans r (λg hg e=>M_),a.o.lt,ak_ a.o.hB r.size,r.bl a.o.b2 M_,r.bl a.o.b3 M_,a.o.F.fr r C,by rw[ai_,m.o,av_];omega,by rw[ai_,m.o,av_];omega,_,y.o.set 0 _,kH.grow (t:=tt) (c:=w.heap.size+2) V (by rw[a5.o];exact(J.o.mono (λg _ hg=>⟨by have:=L.o.hB;rw[S.o]at hg;omega,λe=>by have:=u.o.lt g e;rw[S.o]at hg;omega⟩))) ((z.o.mono (λ_ _ e=>.inl e)).trans B (λ_ _ e=>.inr e)) M_ Q (by rw[m.o];exact zj A B (λg hg e=>by have:=N.o g hg;omega))⟩
def YV{s:BA}{pl:Bool}{f i:Nat}{fs:List PF}(k:sp env)(c:∀g∈fs,okT env g.ty):qF fs.length (jz (jZ (rdT s env pl f) fs) s 40 41 [] i)=yf (rdT s env pl f) s (.recd fs) i:=by
 unfold jz yf;simp only;by_cases b:bt s i=40
 .rw[i_ b,i_ b];have d:=zc (s:=s) (i:=i) M_;by_cases a:bt s (i+1)=41
  .rw[i_ a];cases fs with
   |nil=>
    simp only[bd_,zD,qF];rw[i_ a];rfl
   |cons g r=>
    rw[aw_,zD,i_ rfl,GD k a f g.ty (c g (by simp))];rfl
  .rw[n_ a];cases c:fs with
   |nil=>
    rw[vG];simp only[jZ,List.getElem?_nil,bd_,zD,qF];rw[n_ a]
   |cons g r=>
    rw[<- c];have h:=tM (rdT s env pl f) s fs (qx s env pl f) (s.size+2) [] (i+1) (by rw[c];simp) d M_;rw[h];simp only[a7_,List.drop_zero];cases zD (rdT s env pl f) s true (fs.map PF.ty) (i+1) with
    |none=>rfl
    |some q=>
     obtain⟨l,e⟩:=q;rfl
 .rw[n_ b,n_ b];rfl
def VO{tt:PT}{w0 w:World}{P:Nat->Prop}{ss:BA}{ds:List PD}{sv rv:Value}{xs:List Value}{s:BA}{nt:TypeId}{nx:Value}{pl:Bool}{br i:Nat}{fs:List PF}{p:Int}{zs:List Value}(n:∀k g,fs[k]?=some g->xQ (zx ds) tt 0 k=g.ty)(M:NC w0 P ss ds sv rv xs s nt nx pl br i w)(d:xB w P ss fs (.slice fa fs.length fc) zs){W':World}(h:zA W' br sv rv s (i+1) (!pl))(hf:Fr (((w.alloc (.cells #[P_ br] 293)).alloc (.cells #[z_ p,.slice fa fs.length fc] 215)).alloc (.cells #[L_] 150)) W' (· = br))(hi:i+1<=s.size):RI tt w0 w P ss ds sv rv xs s nt nx pl br i fs p (.slice fa fs.length fc) zs [] (i+1) W':=by
 have m:=M.lt;have A:Fr w (((w.alloc (.cells #[P_ br] 293)).alloc (.cells #[z_ p,.slice fa fs.length fc] 215)).alloc (.cells #[L_] 150)) N_:=(((A_ w _).alloc _).alloc _).alloc _;have hz:(((w.alloc (.cells #[P_ br] 293)).alloc (.cells #[z_ p,.slice fa fs.length fc] 215)).alloc (.cells #[L_] 150)).heap.size=w.heap.size+3:=by simp
 have o:(w.alloc (.cells #[P_ br] 293)).heap.size=w.heap.size+1:=by simp
 have q:((w.alloc (.cells #[P_ br] 293)).alloc (.cells #[z_ p,.slice fa fs.length fc] 215)).heap.size=w.heap.size+2:=by simp
 have c:=((B_ w #[P_ br] 293).alloc (.cells #[z_ p,.slice fa fs.length fc] 215)).alloc (.cells #[L_] 150);have a:=(B_ (w.alloc (.cells #[P_ br] 293)) #[z_ p,.slice fa fs.length fc] 215).alloc (.cells #[L_] 150);have b:=B_ ((w.alloc (.cells #[P_ br] 293)).alloc (.cells #[z_ p,.slice fa fs.length fc] 215)) #[L_] 150;rw[o]at a;rw[q]at b;have o:=hf.size;exact⟨n,(M.new A).call h hf hi,(A.mono v_).trans hf u_,m,M_,hf.bl c M_,hf.bl a M_,(d.fr A u_).fr hf (λg hg e=>M.brP (e▸hg)),by simp,al_ _,_,hf.bl b M_,kH.nil _ _ _ _ _⟩
def ic{tt:PT}{w0 w:World}{P:Nat->Prop}{ss:BA}{ds:List PD}{sv rv:Value}{xs:List Value}{s:BA}{nt:TypeId}{nx:Value}{pl:Bool}{br i:Nat}{fs:List PF}{p:Int}{zs:List Value}{f:Nat}(N:∀k g,fs[k]?=some g->xQ (zx ds) tt 0 k=g.ty)(M:NC w0 P ss ds sv rv xs s nt nx pl br i w)(y:xB w P ss fs (.slice fa fs.length fc) zs)(I:∀g∈fs,zh g.letter=true)(r:fs.length<=300)(L:sp (zx ds))(H:∀g∈fs,okT (zx ds) g.ty)(E:∀g∈fs,∀j,i<j->j<=s.size->jW w0 P ss ds sv rv xs s nt nx pl br f g.ty j):Calls prog 171 #[P_ br,.agg #[z_ p,.slice fa fs.length fc]] w (zO (zx ds) tt w sv rv s nt nx pl br (yf (rdT s (zx ds) pl f) s (.recd fs) i)):=by
 refine hq_ λm D=>?_;have J:s.size<=4000:=by have:=M.hs;omega
 have A:Fr w (((w.alloc (.cells #[P_ br] 293)).alloc (.cells #[z_ p,.slice fa fs.length fc] 215)).alloc (.cells #[L_] 150)) N_:=(((A_ w _).alloc _).alloc _).alloc _;have G:=qx s (zx ds) pl f;have x:nB sv rv s nt nx pl br 193 #[.pointer (some ⟨w.heap.size+2,0,none⟩),.pointer (some ⟨w.heap.size+1,0,none⟩),P_ w.heap.size] (jZ (rdT s (zx ds) pl f) fs) (λl j W=>RI tt w0 w P ss ds sv rv xs s nt nx pl br i fs p (.slice fa fs.length fc) zs l j W) (eL w sv rv s nt nx pl br):=
  { F:=λW=>by kernel_rfl
    R:=λh=>⟨h.M.R,h.M.il,h.M.e⟩
    K:=λh h1 m u z=>h.call h1 m u (by have:=h.c;omega)
    B:=λh=>⟨h.fr,.base,_,h.M.R,h.M.il⟩
    C:=λ{l j W} h=>(YN h I r (λg hg=>E g hg j (by have:=h.c;omega) h.M.il) (λt d j' e=>(G t j d j' e).1)).mono (by
     rintro e W' ⟨v,he,hm⟩
     refine⟨v,he,?_⟩
     cases r:jZ (rdT s (zx ds) pl f) fs l j with
     |none=>rw[r]at hm;exact hm
     |some q=>obtain⟨a,b⟩:=q;rw[r]at hm;exact hm) }
 have z:=zy (gX x (w:=(((w.alloc (.cells #[P_ br] 293)).alloc (.cells #[z_ p,.slice fa fs.length fc] 215)).alloc (.cells #[L_] 150))) (σ:=([]:List DT)) (i:=i) (co:=40) (cf:=41) 40 41 (A.bl M.R id) M.il (λW' h hf hi=>VO N M y h hf hi) (λW' h hf=>⟨⟨(A.mono v_).trans hf u_,.base,i,h,M.il⟩,((M.new A).call h hf M.il).e⟩) J rfl rfl D_ D_);have r:=zy (YV (s:=s) (pl:=pl) (f:=f) (i:=i) L H);cases hp:jz (jZ (rdT s (zx ds) pl f) fs) s 40 41 [] i with
 |none=>
  rw[hp]at r;replace hp:=zy hp;go_in;go_wp2_with (go_at_call 185;apply z.o.mono;rintro e I ⟨H,rfl,hm⟩;rw[hp.o]at hm;obtain⟨⟨eT,x,rfl⟩,hB⟩:=hm;replace hB:=zy hB);try go_ret
  rw[D.o,<- r.o];obtain⟨h1,m,u⟩:=hB.o;exact⟨.nilIface,_,rfl,h1,rfl,m,u⟩
 |some q=>
  obtain⟨l2,E⟩:=q;rw[hp]at r;replace hp:=zy hp;obtain⟨G,u⟩:=x_ l2.length;by_cases hn:G<fs.length
  .have L:(G:Int)<(fs.length:Int):=M_;rw[show qF fs.length (some (l2,E))=none from i_ M_]at r;replace u:=zy u;go_in;go_wp2_with (go_at_call 185;apply z.o.mono;rintro e I ⟨H,rfl,hm⟩;rw[hp.o]at hm;obtain⟨rfl,m⟩:=hm;obtain⟨lv,r1,x⟩:=m.row;obtain⟨ys,y⟩:=x.row;obtain⟨la,lc,rfl⟩:=zl y;rw[u.o]at r1;have N:=r1.c0;have J:=m.b3.c1;have O:=m.M.e;replace m:=zy m);go_quiet (fail);go_wp2;try go_ret
   rw[D.o,<- r.o];exact ii (m.o.fr.si (zq.drewN _ _)) (m.o.M.R.si (zq.drewN _ _)) m.o.M.il
  .have L:¬((G:Int)<(fs.length:Int)):=M_;rw[show qF fs.length (some (l2,E))=some (.mk 114 0 noB [] l2,E) from n_ M_]at r;replace u:=zy u;go_in;go_wp2_with (go_at_call 185;apply z.o.mono;rintro e I ⟨H,rfl,hm⟩;rw[hp.o]at hm;obtain⟨rfl,m⟩:=hm;obtain⟨lv,r1,x⟩:=m.row;obtain⟨ys,y⟩:=x.row;obtain⟨la,lc,rfl⟩:=zl y;have z:=x.dat (Q:=λg=>w.heap.size<=g) (λg _ hg=>(by omega)) (λg hg=>(by have:=y.lt g hg;omega)) (.inr ⟨rfl,rfl⟩);rw[u.o]at r1 z;replace z:=zy z;have N:=r1.c0;have J:=m.b3.c1;replace m:=zy m);try go_ret
   rw[D.o,<- r.o];exact nok z m.o.fr m.o.M.R m.o.M.il
def aG(k:Nat):Option (DT×Nat)->Option (DT×Nat)
 |none=>none
 |some (d,j)=>some (.mk 40 (k:Int) noB [] [d],j)
def ie{tt:PT}{w0 w:World}{P:Nat->Prop}{ss:BA}{ds:List PD}{sv rv:Value}{xs:List Value}{s:BA}{nt:TypeId}{nx:Value}{pl:Bool}{br i:Nat}{t:PT}{n k:Nat}{p:Int}{a:Value}{f:Nat}{X:Nat->Value}(D:xQ (zx ds) tt k 0=t)(M:NC w0 P ss ds sv rv xs s nt nx pl br i w)(ho:w.ownsRow 0 53 1 a n ((List.range n).map X))(b:k<n)(z:k<=4000)(hX:TyV w P t (X k))(y:yO w0)(c:jW w0 P ss ds sv rv xs s nt nx pl br f t i):Calls prog 192 #[P_ br,.agg #[z_ p,a],I_ k] w (zO (zx ds) tt w sv rv s nt nx pl br (aG k (rdT s (zx ds) pl f t i))):=by
 refine hq_ λa r=>?_;obtain⟨g,cap,rfl⟩:=zm ho M_;obtain⟨T,x,hx⟩:=hX.iface;have c0:=zr ho rfl (k:=k) (x:=X k) (by simp[b]);rw[hx]at c0 hX;have A:Fr w (w.alloc (.cells #[z_ p,S_ g n cap] 210)) N_:=(A_ w _).alloc _;have b:=M.new A;have a:=World.block_lt_of_cell? w ⟨g,k,none⟩ c0;have u:=zy (c _ _ b (hX.fr A u_));have a:(k:Int)<(n:Int):=M_;have E:=A.size;replace A:=zy A;replace b:=zy b;cases hp:rdT s (zx ds) pl f t i with
 |none=>
  replace hp:=zy hp;go_in;go_wp2_with (first
   |(go_at_call 135;apply u.o.mono;rintro e w1 ⟨I,B,rfl,a,hm⟩;rw[hp.o]at hm;obtain⟨rfl,c,F,h1,h⟩:=hm;obtain⟨eT,m,rfl⟩:=c.iface;have m:=zy ((b.o.call h1 a h).G);replace a:=zy a;replace c:=zy c;replace h1:=zy h1)
   |(go_at_call 201;apply(tR (n:=k) y m z).mono;intro e b y;obtain⟨C,H,rfl,b,m,b⟩:=y;replace b:=zy b;replace m:=zy m))
  try go_ret
  rw[r.o,hp.o];have y:=(A.o.mono (T:=λg=>g=br) v_).trans a u_;have J:=y.size;exact⟨.nilIface,_,rfl,y.trans b v_,rfl,.within C M_ H m ((c.o.ls E).fr b u_),F,b.o.bl h1 id,h⟩
 |some q=>
  obtain⟨d,b⟩:=q;replace hp:=zy hp;go_in;go_wp2_with (go_at_call 135;apply u.o.mono;rintro e w1 ⟨I,B,rfl,a,hm⟩;rw[hp.o]at hm;obtain⟨rfl,b,h1,h⟩:=hm;obtain⟨dT,dx,rfl⟩:=b.iface;replace b:=zy b;replace a:=zy a;replace h1:=zy h1);try go_ret
  rw[r.o,hp.o];exact nok (.branch k z (by rw[D];exact b.o.mono (λg _ hg=>M_))) ((A.o.mono (T:=λg=>g=br) v_).trans a u_) h1 h
def aB{tt:PT}{w0 w:World}{P:Nat->Prop}{ss:BA}{ds:List PD}{sv rv:Value}{xs:List Value}{s:BA}{nt:TypeId}{nx:Value}{br i:Nat}{t:PT}{l:List PT}{p:Int}{a:Value}{f:Nat}{X:Nat->Value}(r:xQ (zx ds) tt 0 0=t)(M:NC w0 P ss ds sv rv xs s nt nx true br i w)(ho:w.ownsRow 0 53 1 a (t::l).length ((List.range (t::l).length).map X))(hX:TyV w P t (X 0))(h:yO w0)(c:jW w0 P ss ds sv rv xs s nt nx true br f t i):Calls prog 170 #[P_ br,.agg #[z_ p,a]] w (zO (zx ds) tt w sv rv s nt nx true br (aG 0 (rdT s (zx ds) true f t i))):=by
 refine hq_ λa m=>?_;obtain⟨ba,a,rfl⟩:=zl ho;have A:Fr w (w.alloc (.cells #[z_ p,.slice ba (t::l).length a] 210)) N_:=(A_ w _).alloc _;have a:=M.new A;have b:=zy (ie (p:=p) (k:=0) r a (zj ho A u_) (by simp) M_ (hX.fr A u_) h c);have c4:=a.R.c4;have h:=A.size;replace A:=zy A;generalize (t::l).length=n at b A h c4⊢;go_in;go_wp2_with (go_at_call 192;apply b.o.mono;rintro e w1 ⟨c,b,rfl,a,hm⟩;replace a:=zy a;replace hm:=zy hm);try go_ret
 rw[m.o];refine⟨c,b,rfl,(A.o.mono (T:=λg=>g=br) v_).trans a u_,?_⟩;have a:=hm.o;cases hp:aG 0 (rdT s (zx ds) true f t i) with
 |none=>rw[hp]at a;exact⟨a.1,a.2.1.ls h,a.2.2⟩
 |some q=>obtain⟨d,j⟩:=q;rw[hp]at a;exact⟨a.1,a.2.1.mono (λg _ hg=>M_),a.2.2⟩
def mJ:∀(a b:List UInt8),(Op.bytesLess a b||a==b) = !Op.bytesLess b a:=by
 intro a;induction a with
 |nil=>intro b;cases b<;>rfl
 |cons x xs ih=>
  intro b;cases b with
  |nil=>rfl
  |cons y ys=>
   simp only[Op.bytesLess,List.cons_beq_cons];have h:=ih ys;by_cases h1:x<y
   .have c:¬y<x:=by simp only[UInt8.lt_iff_toNat_lt]at h1⊢;omega
    have d:¬y=x:=λe=>by subst e;simp only[UInt8.lt_iff_toNat_lt]at h1;omega
    simp[h1,c,d]
   .by_cases c:x=y
    .subst c;simp[h1,h]
    .have d:y<x:=by
      have:x.toNat≠y.toNat:=λe=>c (UInt8.toNat_inj.1 e);simp only[UInt8.lt_iff_toNat_lt]at h1⊢;omega
     simp[h1,c,d]
def vt(R:Nat->Option (DT×Nat))(s:BA)(es:List (BA×DT))(j:Nat):Option (List (BA×DT)×Nat):=
 match kE s true (fP es) j with
 |none=>none
 |some (k,j1)=>(R j1).map (λq=>(es++[(k,q.1)],q.2))
def Xo(R:Nat->Option (DT×Nat))(s:BA)(fin:Nat):∀n es j,vG (vt R s) s fin n es j=(yC R s fin true n (fP es) j).map (λq=>(es++q.1,q.2)):=by
 intro n;induction n with
 |zero=>intro es j;rfl
 |succ n ih=>
  intro es j;rw[vG,yC];simp only[vt];cases kE s true (fP es) j with
  |none=>rfl
  |some q=>
   obtain⟨key,a⟩:=q;simp only;cases R a with
   |none=>rfl
   |some q=>
    obtain⟨d,j'⟩:=q;simp only[bz_];split
    .rfl
    .split
     .rw[ih (es++[(key,d)]) (j'+1),gJ];cases yC R s fin true n (some key) (j'+1) with
      |none=>rfl
      |some q=>simp
     .rfl
def JM(R:Nat->Option (DT×Nat))(s:BA)(i:Nat):xI R s 123 i=(jz (vt R s) s 123 125 [] i).map (λq=>(.mk 123 0 noB (q.1.map Prod.fst) (q.1.map Prod.snd),q.2)):=by
 unfold jz xI qQ;by_cases h:bt s i=123
 .rw[i_ h,i_ h,show yE 123=125 from rfl,show((123:Nat)==123)=true from rfl];by_cases a:bt s (i+1)=125
  .rw[i_ a,i_ a];rfl
  .rw[n_ a,n_ a,Xo R s 125 _ [] (i+1),show fP []=none from rfl];cases yC R s 125 true (s.size+2) none (i+1) with
   |none=>rfl
   |some q=>simp
 .rw[n_ h,n_ h];rfl
structure MI(w0 w:World)(P:Nat->Prop)(ss:BA)(ds:List PD)(sv rv:Value)(xs:List Value)(s:BA)(nt:TypeId)(nx:Value)(pl:Bool)(br i:Nat)(t:PT)(p:Int)(v:Value)(es:List (BA×DT))(j:Nat)(W:World):Prop where
 M:NC w0 P ss ds sv rv xs s nt nx pl br j W
 fr:Fr w W (· = br)
 lt:br<w.heap.size
 hB:w.heap.size+3<=W.heap.size
 b2:Blk W w.heap.size [P_ br] 293
 b3:Blk W (w.heap.size+1) [z_ p,v] 207
 ty:TyV W P t v
 c:i+es.length<j
 row:∃lv ys,Blk W (w.heap.size+2) [lv] 145/\W.ownsRow (w.heap.size+3) 234 2 lv es.length ys/\Px (fP es) es.length ys/\pO (zx ds) W (λg=>w.heap.size+3<=g/\lv.ownBlock≠some g) (.wrap 123 0 t) es ys
section
variable {w0 w:World} {P:Nat->Prop} {ss:BA} {ds:List PD} {sv rv:Value} {xs:List Value} {s:BA} {nt:TypeId} {nx:Value} {pl:Bool} {br i:Nat} {t:PT} {p:Int} {v:Value} {es:List (BA×DT)} {j j':Nat} {W W':World}
def MI.call(L:MI w0 w P ss ds sv rv xs s nt nx pl br i t p v es j W)(h:zA W' br sv rv s j' (!pl))(hf:Fr W W' (· = br))(b:j'<=s.size)(hc:i+es.length<j'):MI w0 w P ss ds sv rv xs s nt nx pl br i t p v es j' W':=by
 have h1:=L.lt;obtain⟨lv,ys,r1,a,c,d⟩:=L.row;exact⟨L.M.call h hf b,L.fr.trans hf u_,L.lt,ak_ L.hB hf.size,hf.bl L.b2 M_,hf.bl L.b3 M_,L.ty.fr hf (λg hg e=>L.M.brP (e▸hg)),hc,lv,ys,hf.bl r1 M_,zj a hf (λg hg e=>by have:=a.lt g hg;omega),c,d.fr hf (λg hg e=>M_)⟩
end
def VF:Tryz.prog.underlying 145=some (.slice 234):=K_
def ZS:(Tryz.prog.info? 234).map (λi=>(i.zero,i.size,i.bytes))=some (some (.agg #[.string ⟨#[]⟩,.nilIface]),2,32):=K_
def Kz(w0 w:World)(P:Nat->Prop)(ss:BA)(ds:List PD)(sv rv:Value)(xs:List Value)(s:BA)(nt:TypeId)(nx:Value)(pl:Bool)(br i:Nat)(t:PT)(p:Int)(v:Value)(R:Nat->Option (DT×Nat))(es:List (BA×DT))(j:Nat)(e:Ending)(W':World):Prop:=
 ∃v1,e=.returned v1/\match vt R s es j with|some (es',j')=>v1=.nilIface/\j<j'/\MI w0 w P ss ds sv rv xs s nt nx pl br i t p v es' j' W'|none=>(∃T x,v1=.iface T x)/\eL w sv rv s nt nx pl br v1 W'
def YE{w0 w:World}{P:Nat->Prop}{ss:BA}{ds:List PD}{sv rv:Value}{xs:List Value}{s:BA}{nt:TypeId}{nx:Value}{pl:Bool}{br i:Nat}{t:PT}{p:Int}{es:List (BA×DT)}{j f:Nat}{W:World}(L:MI w0 w P ss ds sv rv xs s nt nx pl br i t p (.iface vT vx) es j W)(hI:yA w0)(hR:∀j',j<j'->j'<=s.size->jW w0 P ss ds sv rv xs s nt nx pl br f t j')(a3:∀j d j',rdT s (zx ds) pl f t j=some (d,j')->j<j'):Calls prog 188 #[P_ w.heap.size,.pointer (some ⟨w.heap.size+2,0,none⟩),.pointer (some ⟨w.heap.size+1,0,none⟩)] W (Kz w0 w P ss ds sv rv xs s nt nx pl br i t p (.iface vT vx) (rdT s (zx ds) pl f t) es j):=by
 refine hq_ λx Q_=>?_;have a:=L.b2.c0;have r:=L.M.il;have a:=L.M.hs;have b4:s.size<=4000:=M_;obtain⟨n,J⟩:=x_ es.length;obtain⟨last,b7⟩:=x_ (fP es);have a:i+n<j:=by rw[<- J];exact L.c
 have a:=L.lt;have O:=pL r;obtain⟨u,a⟩:=x_ (zG s j);rw[a]at O;obtain⟨key,b⟩:=x_ (s.extract j u);have e4:key.size<=4000:=by rw[<- b,bl_];omega
 have a9:=zy (show Calls prog 189 #[P_ br,.func (.func 190) #[] #[]] W λe w'=>e=.returned (.string key)/\Fr W w' (· = br)/\zA w' br sv rv s u (!pl) by
  have h:=ki L.M.R b4 r
  rw[show zV 97 122 s j=u from a,b]at h
  exact h)
 have d9:H_ (kE s true (fP es) j=if bt s u=58/\bK last key=true then some (key,u+1) else none):=zy (by unfold kE;rw[i_ rfl,a,b,b7]);have C:H_ (∀w1,Fr W w1 (· = br)->zA w1 br sv rv s u (!pl)->MI w0 w P ss ds sv rv xs s nt nx pl br i t p (.iface vT vx) es u w1):=zy (λw1 hf h=>L.call h hf O.2 M_);have e9:H_ (vt (rdT s (zx ds) pl f t) s es j=none->∀w1 r,Fr W w1 (· = br)->zA w1 br sv rv s r (!pl)->r<=s.size->x (.returned (.iface nt nx)) w1):=zy (λN w1 r hf h x=>by
  rw[Q_.o]
  refine⟨_,rfl,?_⟩
  rw[N]
  exact⟨⟨_,_,rfl⟩,L.fr.trans hf u_,.base,r,h,x⟩)
 replace L:=zy L;replace J:=zy J;replace b7:=zy b7;by_cases Q:bK last key=true;case neg=>
  have N:=zy (show vt (rdT s (zx ds) pl f t) s es j=none by unfold vt;rw[d9.o,n_ (λh=>Q h.2)]);cases last with
  |none=>exact absurd rfl Q
  |some lk=>
   have g7:(Op.bytesLess key.toList lk.toList||key.toList==lk.toList)=true:=by
    rw[mJ];cases hb:Op.bytesLess lk.toList key.toList with
    |false=>rfl
    |true=>exact absurd hb Q
   obtain⟨lv,ys,r1,r,hq,_⟩:=L.o.row;rw[b7.o,J.o]at hq;obtain⟨m,hm,e1⟩:=hq;rw[J.o]at r;have d8:n=m+1:=hm;subst d8;obtain⟨la,lc,rfl⟩:=zl r;obtain⟨g,cap,f0⟩:=zm r (by simp);cases f0;have h2:IntKind.i64.wrap (((m+1:Nat):Int)-1)=(m:Int):=by rw[IntKind.wrap_i64];omega
   have a2:H_ (∀w1,Fr W w1 (· = br)->w1.cell? ⟨w.heap.size+2,0,none⟩=some (S_ g (m+1) lc)/\w1.cell? ⟨g,m*2,none⟩=some (.string lk)):=zy (λw1 hf=>⟨by rw[(hf.bl r1 M_).cell 0];rfl,zr (zj r hf (λg' hg e=>by have:=r.lt g' hg;omega)) rfl e1⟩);go_in;go_wp2_with (go_at_call 189;apply a9.o.mono;rintro e w1 ⟨rfl,a,h1⟩;obtain⟨k0,k1⟩:=a2.o w1 a;have e0:=(C.o w1 a h1).M.e;replace a:=zy a;replace h1:=zy h1);try go_ret
   exact e9.o N w1 u a h1 O.2
 case pos=>
  cases last with
  |none=>
   obtain⟨lv,ys,r1,r,hm,_⟩:=L.o.row;rw[b7.o,J.o]at hm;rw[J.o]at r;have d8:n=0:=hm;subst d8;obtain⟨la,lc,rfl⟩:=zl r;have a2:H_ (∀w1,Fr W w1 (· = br)->w1.cell? ⟨w.heap.size+2,0,none⟩=some (.slice la 0 lc)):=zy (λw1 hf=>by rw[(hf.bl r1 M_).cell 0];rfl);by_cases B:bt s u=58;case neg=>
    have N:=zy (show vt (rdT s (zx ds) pl f t) s es j=none by unfold vt;rw[d9.o,n_ (λh=>B h.1)]);replace B:=zy B;go_in;go_wp2_with (first
     |(go_at_call 189;apply a9.o.mono;rintro e w1 ⟨rfl,a,h1⟩;have k0:=a2.o w1 a;have b8:=(C.o w1 a h1).b2.c0;have H:=zy (C.o w1 a h1);replace a:=zy a;replace h1:=zy h1)
     |(go_at_call 164;apply(xm 58 h1 b4 O.2 rfl D_ B).mono;rintro e Z ⟨rfl,x,A⟩;have e2:=(H.o.call A x O.2 H.o.c).M.e;replace x:=zy x;replace A:=zy A))
    try go_ret
    exact e9.o N Z u (a.o.trans x u_) A O.2
   case pos=>
    have a5:u+1<=s.size:=zc (s:=s) (i:=u) M_;have a6:vt (rdT s (zx ds) pl f t) s es j=(rdT s (zx ds) pl f t (u+1)).map (λq=>(es++[(key,q.1)],q.2)):=by
     unfold vt;rw[d9.o,i_ ⟨B,Q⟩]
    replace B:=zy B;cases hp:rdT s (zx ds) pl f t (u+1) with
    |none=>
     have N:=zy (show vt (rdT s (zx ds) pl f t) s es j=none by rw[a6,hp];rfl);replace hp:=zy hp;go_in;go_wp2_with (first
      |(go_at_call 189;apply a9.o.mono;rintro e w1 ⟨rfl,a,h1⟩;have k0:=a2.o w1 a;have b8:=(C.o w1 a h1).b2.c0;have H:=zy (C.o w1 a h1);replace a:=zy a;replace h1:=zy h1)
      |(go_at_call 164;apply(yF 58 h1 b4 O.2 rfl D_ B).mono;rintro e Z ⟨rfl,x,A⟩;have b:=H.o.call A x a5 (by have:=H.o.c;omega);have hC:=zy (hR (u+1) M_ a5 Z _ b.M b.ty);have e6:=b.b2.c0;have e7:=b.b3.c1;replace b:=zy b)
      |(go_at_call 135;apply hC.o.mono;rintro e w3 ⟨v3,e8,rfl,F,V⟩;rw[hp.o]at V;obtain⟨rfl,a1,j3,K,a4⟩:=V;obtain⟨eT,ex,rfl⟩:=a1.iface;have G3:=(b.o.M.call K F a4).G;have F3:=zy (b.o.fr.trans F u_);replace a1:=zy a1;replace K:=zy K;replace G3:=zy G3)
      |(go_at_call 191;apply(ri (k:=key) hI G3 e4).mono;intro e w4 hW;obtain⟨g4,f9,rfl,g2,a7,U⟩:=hW;replace U:=zy U;replace a7:=zy a7))
     try go_ret
     rw[Q_.o];refine⟨_,rfl,?_⟩;rw[N.o];have g9:=F3.o.size;have f8:=b.o.fr.size;exact⟨⟨_,_,rfl⟩,F3.o.trans U v_,.within g4 M_ f9 a7 ((a1.o.ls f8).fr U u_),j3,U.o.bl K id,a4⟩
    |some q=>
     obtain⟨d,j2⟩:=q;have g3:=a3 _ d j2 hp;have N:=zy (show vt (rdT s (zx ds) pl f t) s es j=some (es++[(key,d)],j2) by rw[a6,hp];rfl);replace hp:=zy hp;obtain⟨ti,f1,f2,f3,f4⟩:=info_parts ZS;go_in;go_wp2_with (first
      |(go_at_call 189;apply a9.o.mono;rintro e w1 ⟨rfl,a,h1⟩;have k0:=a2.o w1 a;have b8:=(C.o w1 a h1).b2.c0;have H:=zy (C.o w1 a h1);replace a:=zy a;replace h1:=zy h1)
      |(go_at_call 164;apply(yF 58 h1 b4 O.2 rfl D_ B).mono;rintro e Z ⟨rfl,x,A⟩;have b:=H.o.call A x a5 (by have:=H.o.c;omega);have hC:=zy (hR (u+1) M_ a5 Z _ b.M b.ty);have e6:=b.b2.c0;have e7:=b.b3.c1;replace b:=zy b)
      |(go_at_call 135;apply hC.o.mono;rintro e w3 ⟨v3,e8,rfl,F,V⟩;rw[hp.o]at V;obtain⟨rfl,a0,K,a4⟩:=V;obtain⟨dT,dx,rfl⟩:=a0.iface;have y:=b.o.call K F a4 (by have:=b.o.c;omega);obtain⟨h4,e3,q1,Y,q3,q4⟩:=b.o.row;rw[J.o]at Y;have r0:=zy Y.lt;have r1:=F.bl q1 M_;have r:=zj Y F (λg hg e=>(by have:=Y.lt g hg;omega));have rM:=zy (q4.fr F (λg hg e=>(by omega)));obtain⟨b5,b6,rfl⟩:=zl r;replace a0:=zy a0;have k3:=r1.c0;have g0:=y.hB;replace y:=zy y;replace r1:=zy r1;replace r:=zy r)
      |(at_builtin;go_must (refine wpList_append_own_at _ rfl _ _ 145 rfl (w.heap.size+3) 234 ti _ 2 32 VF f1 f2 f3 f4 rfl D_ (.slice b5 0 b6) 0 e3 rfl ?hown _ 1 1 [.string key,.iface dT dx] rfl rfl (zN _ #[.string key,.iface dT dx] _ _ ?nn) ?one ?b1 ?b2 ?b3 ?_)
        case hown=>exact World.ownsRow.alloc r _
        case nn=>simp
        case one=>simp[Value.oneCell']
        case b1=>unfold maxLen;omega
        case b2=>omega
        case b3=>simp;omega
        intro v5 w5 X d6 f7 d7
        have T:Fr w3 w5 (λg=>(Value.slice b5 0 b6).ownBlock=some g):=a_ ((A_ w3 _).alloc _) d6 (λk e _=>e)
        have f6:H_ (v5.ownBlock=(Value.slice b5 0 b6).ownBlock\/∃h,v5.ownBlock=some h/\w3.heap.size<=h):=zy (d7.imp id (λe=>⟨_,e,by simp⟩))
        have S:=T.bl r1 (λe=>by have:=r.o.lt _ e;omega)
        have e5:=S.c0
        have f5:=S.th 0
        have a8:∀g,v5.ownBlock=some g->w.heap.size+3<=g:=(λg hg=>(X.lt g hg).1)
        obtain⟨g5,b9,rfl⟩:=zm X M_
        replace T:=zy T
        replace X:=zy X
        replace S:=zy S
        replace a8:=zy a8
        clear d6 d7 f7))
     try go_ret
     rw[Q_.o];refine⟨_,rfl,?_⟩;rw[N.o];refine⟨rfl,M_,?_⟩;have hG:Fr w5 (w5.setCell ⟨w.heap.size+2,0,none⟩ (S_ g5 (0+1) b9)) (λg=>g=w.heap.size+2):=(A_ w5 (λg=>g=w.heap.size+2)).setCell ⟨w.heap.size+2,0,none⟩ _ (λ_=>rfl);have I:Fr w3 (w5.setCell ⟨w.heap.size+2,0,none⟩ (S_ g5 (0+1) b9)) (λg=>w.heap.size+2<=g):=(T.o.mono (λg _ e=>by have:=r.o.lt g e;omega)).trans hG (λg _ e=>M_);have z:=y.o.M;have g1:=z.brG;have d2:∀g,P g->¬(w.heap.size+2<=g):=λg hg=>by have:=z.Pbr g hg;omega
     have h3:=r.o.1;exact⟨⟨I.bl z.R M_,z.D.fr I d2,z.G.fr I (by have:=z.lt;omega) (λg e=>M_),z.E,z.Pbr,z.brG,z.hs,z.il⟩,y.o.fr.trans I (λg hg e=>M_),y.o.lt,ak_ y.o.hB I.size,I.bl y.o.b2 M_,I.bl y.o.b3 M_,y.o.ty.fr I d2,by rw[ai_,J.o,av_];omega,_,_,S.o.set 0 _,by rw[ai_,J.o,av_];exact zj X hG (λg hg e=>by have:=a8.o g hg;omega),by rw[gJ,ai_,J.o,av_];exact⟨0,rfl,by rw[as_ M_,show 0*2-e3.length=0 by omega];rfl⟩,rM.o.grow (c:=w.heap.size+2) (a0.o.mono (λg _ hg=>⟨by have:=b.o.hB;omega,λe=>by have:=r0.o g e;omega⟩)) e4 ((T.o.mono (λ_ _ e=>.inl e)).trans hG (λ_ _ e=>.inr e)) M_ f6⟩
  |some lk=>
   have g7:(Op.bytesLess key.toList lk.toList||key.toList==lk.toList)=false:=by
    rw[mJ];rw[show Op.bytesLess lk.toList key.toList=true from Q];rfl
   obtain⟨lv,ys,r1,r,hq,_⟩:=L.o.row;rw[b7.o,J.o]at hq;obtain⟨m,hm,e1⟩:=hq;rw[J.o]at r;have d8:n=m+1:=hm;subst d8;obtain⟨la,lc,rfl⟩:=zl r;obtain⟨g,cap,f0⟩:=zm r (by simp);cases f0;have h2:IntKind.i64.wrap (((m+1:Nat):Int)-1)=(m:Int):=by rw[IntKind.wrap_i64];omega
   have a2:H_ (∀w1,Fr W w1 (· = br)->w1.cell? ⟨w.heap.size+2,0,none⟩=some (S_ g (m+1) lc)/\w1.cell? ⟨g,m*2,none⟩=some (.string lk)):=zy (λw1 hf=>⟨by rw[(hf.bl r1 M_).cell 0];rfl,zr (zj r hf (λg' hg e=>by have:=r.lt g' hg;omega)) rfl e1⟩);by_cases B:bt s u=58;case neg=>
    have N:=zy (show vt (rdT s (zx ds) pl f t) s es j=none by unfold vt;rw[d9.o,n_ (λh=>B h.1)]);replace B:=zy B;go_in;go_wp2_with (first
     |(go_at_call 189;apply a9.o.mono;rintro e w1 ⟨rfl,a,h1⟩;obtain⟨k0,k1⟩:=a2.o w1 a;have b8:=(C.o w1 a h1).b2.c0;have H:=zy (C.o w1 a h1);replace a:=zy a;replace h1:=zy h1)
     |(go_at_call 164;apply(xm 58 h1 b4 O.2 rfl D_ B).mono;rintro e Z ⟨rfl,x,A⟩;have e2:=(H.o.call A x O.2 H.o.c).M.e;replace x:=zy x;replace A:=zy A))
    try go_ret
    exact e9.o N Z u (a.o.trans x u_) A O.2
   case pos=>
    have a5:u+1<=s.size:=zc (s:=s) (i:=u) M_;have a6:vt (rdT s (zx ds) pl f t) s es j=(rdT s (zx ds) pl f t (u+1)).map (λq=>(es++[(key,q.1)],q.2)):=by
     unfold vt;rw[d9.o,i_ ⟨B,Q⟩]
    replace B:=zy B;cases hp:rdT s (zx ds) pl f t (u+1) with
    |none=>
     have N:=zy (show vt (rdT s (zx ds) pl f t) s es j=none by rw[a6,hp];rfl);replace hp:=zy hp;go_in;go_wp2_with (first
      |(go_at_call 189;apply a9.o.mono;rintro e w1 ⟨rfl,a,h1⟩;obtain⟨k0,k1⟩:=a2.o w1 a;have b8:=(C.o w1 a h1).b2.c0;have H:=zy (C.o w1 a h1);replace a:=zy a;replace h1:=zy h1)
      |(go_at_call 164;apply(yF 58 h1 b4 O.2 rfl D_ B).mono;rintro e Z ⟨rfl,x,A⟩;have b:=H.o.call A x a5 (by have:=H.o.c;omega);have hC:=zy (hR (u+1) M_ a5 Z _ b.M b.ty);have e6:=b.b2.c0;have e7:=b.b3.c1;replace b:=zy b)
      |(go_at_call 135;apply hC.o.mono;rintro e w3 ⟨v3,e8,rfl,F,V⟩;rw[hp.o]at V;obtain⟨rfl,a1,j3,K,a4⟩:=V;obtain⟨eT,ex,rfl⟩:=a1.iface;have G3:=(b.o.M.call K F a4).G;have F3:=zy (b.o.fr.trans F u_);replace a1:=zy a1;replace K:=zy K;replace G3:=zy G3)
      |(go_at_call 191;apply(ri (k:=key) hI G3 e4).mono;intro e w4 hW;obtain⟨g4,f9,rfl,g2,a7,U⟩:=hW;replace U:=zy U;replace a7:=zy a7))
     try go_ret
     rw[Q_.o];refine⟨_,rfl,?_⟩;rw[N.o];have g9:=F3.o.size;have f8:=b.o.fr.size;exact⟨⟨_,_,rfl⟩,F3.o.trans U v_,.within g4 M_ f9 a7 ((a1.o.ls f8).fr U u_),j3,U.o.bl K id,a4⟩
    |some q=>
     obtain⟨d,j2⟩:=q;have g3:=a3 _ d j2 hp;have N:=zy (show vt (rdT s (zx ds) pl f t) s es j=some (es++[(key,d)],j2) by rw[a6,hp];rfl);replace hp:=zy hp;obtain⟨ti,f1,f2,f3,f4⟩:=info_parts ZS;go_in;go_wp2_with (first
      |(go_at_call 189;apply a9.o.mono;rintro e w1 ⟨rfl,a,h1⟩;obtain⟨k0,k1⟩:=a2.o w1 a;have b8:=(C.o w1 a h1).b2.c0;have H:=zy (C.o w1 a h1);replace a:=zy a;replace h1:=zy h1)
      |(go_at_call 164;apply(yF 58 h1 b4 O.2 rfl D_ B).mono;rintro e Z ⟨rfl,x,A⟩;have b:=H.o.call A x a5 (by have:=H.o.c;omega);have hC:=zy (hR (u+1) M_ a5 Z _ b.M b.ty);have e6:=b.b2.c0;have e7:=b.b3.c1;replace b:=zy b)
      |(go_at_call 135;apply hC.o.mono;rintro e w3 ⟨v3,e8,rfl,F,V⟩;rw[hp.o]at V;obtain⟨rfl,a0,K,a4⟩:=V;obtain⟨dT,dx,rfl⟩:=a0.iface;have y:=b.o.call K F a4 (by have:=b.o.c;omega);obtain⟨h4,e3,q1,Y,q3,q4⟩:=b.o.row;rw[J.o]at Y;have r0:=zy Y.lt;have r1:=F.bl q1 M_;have r:=zj Y F (λg hg e=>(by have:=Y.lt g hg;omega));have rM:=zy (q4.fr F (λg hg e=>(by omega)));obtain⟨b5,b6,rfl⟩:=zl r;replace a0:=zy a0;have k3:=r1.c0;have g0:=y.hB;replace y:=zy y;replace r1:=zy r1;replace r:=zy r)
      |(at_builtin;go_must (refine wpList_append_own_at _ rfl _ _ 145 rfl (w.heap.size+3) 234 ti _ 2 32 VF f1 f2 f3 f4 rfl D_ (.slice b5 (m+1) b6) (m+1) e3 rfl ?hown _ 1 1 [.string key,.iface dT dx] rfl rfl (zN _ #[.string key,.iface dT dx] _ _ ?nn) ?one ?b1 ?b2 ?b3 ?_)
        case hown=>exact World.ownsRow.alloc r _
        case nn=>simp
        case one=>simp[Value.oneCell']
        case b1=>unfold maxLen;omega
        case b2=>omega
        case b3=>simp;omega
        intro v5 w5 X d6 f7 d7
        have T:Fr w3 w5 (λg=>(Value.slice b5 (m+1) b6).ownBlock=some g):=a_ ((A_ w3 _).alloc _) d6 (λk e _=>e)
        have f6:H_ (v5.ownBlock=(Value.slice b5 (m+1) b6).ownBlock\/∃h,v5.ownBlock=some h/\w3.heap.size<=h):=zy (d7.imp id (λe=>⟨_,e,by simp⟩))
        have S:=T.bl r1 (λe=>by have:=r.o.lt _ e;omega)
        have e5:=S.c0
        have f5:=S.th 0
        have a8:∀g,v5.ownBlock=some g->w.heap.size+3<=g:=(λg hg=>(X.lt g hg).1)
        obtain⟨g5,b9,rfl⟩:=zm X M_
        replace T:=zy T
        replace X:=zy X
        replace S:=zy S
        replace a8:=zy a8
        clear d6 d7 f7))
     try go_ret
     rw[Q_.o];refine⟨_,rfl,?_⟩;rw[N.o];refine⟨rfl,M_,?_⟩;have hG:Fr w5 (w5.setCell ⟨w.heap.size+2,0,none⟩ (S_ g5 ((m+1)+1) b9)) (λg=>g=w.heap.size+2):=(A_ w5 (λg=>g=w.heap.size+2)).setCell ⟨w.heap.size+2,0,none⟩ _ (λ_=>rfl);have I:Fr w3 (w5.setCell ⟨w.heap.size+2,0,none⟩ (S_ g5 ((m+1)+1) b9)) (λg=>w.heap.size+2<=g):=(T.o.mono (λg _ e=>by have:=r.o.lt g e;omega)).trans hG (λg _ e=>M_);have z:=y.o.M;have g1:=z.brG;have d2:∀g,P g->¬(w.heap.size+2<=g):=λg hg=>by have:=z.Pbr g hg;omega
     have h3:=r.o.1;exact⟨⟨I.bl z.R M_,z.D.fr I d2,z.G.fr I (by have:=z.lt;omega) (λg e=>M_),z.E,z.Pbr,z.brG,z.hs,z.il⟩,y.o.fr.trans I (λg hg e=>M_),y.o.lt,ak_ y.o.hB I.size,I.bl y.o.b2 M_,I.bl y.o.b3 M_,y.o.ty.fr I d2,by rw[ai_,J.o,av_];omega,_,_,S.o.set 0 _,by rw[ai_,J.o,av_];exact zj X hG (λg hg e=>by have:=a8.o g hg;omega),by rw[gJ,ai_,J.o,av_];exact⟨(m+1),rfl,by rw[as_ M_,show(m+1)*2-e3.length=0 by omega];rfl⟩,rM.o.grow (c:=w.heap.size+2) (a0.o.mono (λg _ hg=>⟨by have:=b.o.hB;omega,λe=>by have:=r0.o g e;omega⟩)) e4 ((T.o.mono (λ_ _ e=>.inl e)).trans hG (λ_ _ e=>.inr e)) M_ f6⟩
def JG{w0 w:World}{P:Nat->Prop}{ss:BA}{ds:List PD}{sv rv:Value}{xs:List Value}{s:BA}{nt:TypeId}{nx:Value}{pl:Bool}{br i:Nat}{t:PT}{p:Int}(M:NC w0 P ss ds sv rv xs s nt nx pl br i w)(d:TyV w P t (.iface vT vx)){W':World}(h:zA W' br sv rv s (i+1) (!pl))(hf:Fr (((w.alloc (.cells #[P_ br] 293)).alloc (.cells #[z_ p,.iface vT vx] 207)).alloc (.cells #[L_] 145)) W' (· = br))(hi:i+1<=s.size):MI w0 w P ss ds sv rv xs s nt nx pl br i t p (.iface vT vx) [] (i+1) W':=by
 have k:=M.lt;have A:Fr w (((w.alloc (.cells #[P_ br] 293)).alloc (.cells #[z_ p,.iface vT vx] 207)).alloc (.cells #[L_] 145)) N_:=(((A_ w _).alloc _).alloc _).alloc _;have hz:(((w.alloc (.cells #[P_ br] 293)).alloc (.cells #[z_ p,.iface vT vx] 207)).alloc (.cells #[L_] 145)).heap.size=w.heap.size+3:=by simp
 have m:(w.alloc (.cells #[P_ br] 293)).heap.size=w.heap.size+1:=by simp
 have n:((w.alloc (.cells #[P_ br] 293)).alloc (.cells #[z_ p,.iface vT vx] 207)).heap.size=w.heap.size+2:=by simp
 have c:=((B_ w #[P_ br] 293).alloc (.cells #[z_ p,.iface vT vx] 207)).alloc (.cells #[L_] 145);have a:=(B_ (w.alloc (.cells #[P_ br] 293)) #[z_ p,.iface vT vx] 207).alloc (.cells #[L_] 145);have b:=B_ ((w.alloc (.cells #[P_ br] 293)).alloc (.cells #[z_ p,.iface vT vx] 207)) #[L_] 145;rw[m]at a;rw[n]at b;have m:=hf.size;exact⟨(M.new A).call h hf hi,(A.mono v_).trans hf u_,k,M_,hf.bl c M_,hf.bl a M_,(d.fr A u_).fr hf (λg hg e=>M.brP (e▸hg)),by simp,_,_,hf.bl b M_,World.ownsRow_nil _ _ _ _,rfl,pO.nil _ _ _ _⟩
def th{q0:Nat}{w0 w:World}{P:Nat->Prop}{ss:BA}{ds:List PD}{sv rv:Value}{xs:List Value}{s:BA}{nt:TypeId}{nx:Value}{pl:Bool}{br i:Nat}{t:PT}{p:Int}{f:Nat}(M:NC w0 P ss ds sv rv xs s nt nx pl br i w)(E:TyV w P t (.iface vT vx))(z:yA w0)(D:∀j,i<j->j<=s.size->jW w0 P ss ds sv rv xs s nt nx pl br f t j):Calls prog 169 #[P_ br,.agg #[z_ p,.iface vT vx]] w (zO (zx ds) (.wrap 123 q0 t) w sv rv s nt nx pl br (xI (rdT s (zx ds) pl f t) s 123 i)):=by
 refine hq_ λk x=>?_;have H:s.size<=4000:=by have:=M.hs;omega
 have A:Fr w (((w.alloc (.cells #[P_ br] 293)).alloc (.cells #[z_ p,.iface vT vx] 207)).alloc (.cells #[L_] 145)) N_:=(((A_ w _).alloc _).alloc _).alloc _;have G:=qx s (zx ds) pl f t;have u:nB (St:=List (BA×DT)) sv rv s nt nx pl br 188 #[P_ w.heap.size,.pointer (some ⟨w.heap.size+2,0,none⟩),.pointer (some ⟨w.heap.size+1,0,none⟩)] (vt (rdT s (zx ds) pl f t) s) (λn j W=>MI w0 w P ss ds sv rv xs s nt nx pl br i t p (.iface vT vx) n j W) (eL w sv rv s nt nx pl br):=
  { F:=λW=>by kernel_rfl
    R:=λh=>⟨h.M.R,h.M.il,h.M.e⟩
    K:=λh h1 k r m=>h.call h1 k r (by have:=h.c;omega)
    B:=λh=>⟨h.fr,.base,_,h.M.R,h.M.il⟩
    C:=λ{n j W} h=>(YE h z (λj' h1 k=>D j' (by have:=h.c;omega) k) (λj d j' e=>(G j d j' e).1)).mono (by
     rintro e W' ⟨v,he,hm⟩
     refine⟨v,he,?_⟩
     cases m:vt (rdT s (zx ds) pl f t) s n j with
     |none=>rw[m]at hm;exact hm
     |some q=>obtain⟨a,b⟩:=q;rw[m]at hm;exact hm) }
 have y:=zy (gX u (w:=(((w.alloc (.cells #[P_ br] 293)).alloc (.cells #[z_ p,.iface vT vx] 207)).alloc (.cells #[L_] 145))) (σ:=([]:List (BA×DT))) (i:=i) (co:=123) (cf:=125) 123 125 (A.bl M.R id) M.il (λW' h hf hi=>JG M E h hf hi) (λW' h hf=>⟨⟨(A.mono v_).trans hf u_,.base,i,h,M.il⟩,((M.new A).call h hf M.il).e⟩) H rfl rfl D_ D_);have m:=zy (JM (rdT s (zx ds) pl f t) s i);cases hp:jz (vt (rdT s (zx ds) pl f t) s) s 123 125 [] i with
 |none=>
  rw[hp]at m;replace hp:=zy hp;go_in;go_wp2_with (go_at_call 185;apply y.o.mono;rintro e z ⟨u,rfl,hm⟩;rw[hp.o]at hm;obtain⟨⟨eT,D,rfl⟩,hB⟩:=hm;replace hB:=zy hB);try go_ret
  rw[x.o,m.o];obtain⟨h1,k,r⟩:=hB.o;exact⟨.nilIface,_,rfl,h1,rfl,k,r⟩
 |some q=>
  obtain⟨k,k⟩:=q;rw[hp]at m;replace hp:=zy hp;go_in;go_wp2_with (go_at_call 185;apply y.o.mono;rintro e z ⟨u,rfl,hm⟩;rw[hp.o]at hm;obtain⟨rfl,k⟩:=hm;obtain⟨lv,ys,r1,r,z,u⟩:=k.row;obtain⟨la,lc,rfl⟩:=zl r;have y:=r1.c0;have y:=zy ((show pO (zx ds) _ _ (.wrap 123 q0 t) _ _ from u).dat (Q:=λg=>w.heap.size<=g) r (λg _ hg=>(by omega)) (λg hg=>(by have:=r.lt g hg;omega)));replace k:=zy k);try go_ret
  rw[x.o,m.o];exact nok y k.o.fr k.o.M.R k.o.M.il
def zO.pre{t:PT}{w w1 w':World}{sv rv:Value}{s:BA}{nt:TypeId}{nx:Value}{pl:Bool}{br:Nat}{a:Option (DT×Nat)}{e:Ending}(A:Fr w w1 N_)(h:zO env t w1 sv rv s nt nx pl br a e w'):zO env t w sv rv s nt nx pl br a e w':=by
 obtain⟨v,b,he,hf,hm⟩:=h;refine⟨v,b,he,(A.mono v_).trans hf u_,?_⟩;cases a with
 |none=>exact⟨hm.1,hm.2.1.ls A.size,hm.2.2⟩
 |some q=>obtain⟨d,j⟩:=q;exact⟨hm.1,hm.2.1.mono (λg _ hg=>ak_ A.size hg),hm.2.2⟩
def WC(w0:World)(P:Nat->Prop)(ss:BA)(ds:List PD)(sv rv:Value)(xs:List Value)(s:BA)(nt:TypeId)(nx:Value)(pl:Bool)(br:Nat):Prop:=
 ∀(w:World) (i:Nat) (t:PT),NC w0 P ss ds sv rv xs s nt nx pl br i w->
  Calls prog 166 #[P_ br,z_ (-2147483648),z_ 2147483647] w (zO (zx ds) t w sv rv s nt nx pl br ((xE s 105 i).map (λq=>(.mk 105 q.1 noB [] [],q.2))))/\
  Calls prog 166 #[P_ br,z_ (-9223372036854775808),z_ 9223372036854775807] w (zO (zx ds) t w sv rv s nt nx pl br ((xE s 108 i).map (λq=>(.mk 108 q.1 noB [] [],q.2))))
section
variable {w0:World} {P:Nat->Prop} {ss:BA} {ds:List PD} {sv rv:Value} {xs:List Value} {s:BA} {nt:TypeId} {nx:Value} {pl:Bool} {br i:Nat} {f p:Nat}
def WY:jW w0 P ss ds sv rv xs s nt nx pl br (f+1) (.leaf 110 p) i:=by
 intro w v M a;obtain rfl:v=.iface 199 (.agg #[I_ p]):=by
  cases a with
  |base _ _ h=>rfl
  |name _ _ h=>exact absurd h D_
 refine hq_ λb n=>?_;have A:Fr w (w.alloc (.cells #[I_ p] 199)) N_:=(A_ w _).alloc _;have d:=M.new A;have q:s.size<=4000:=by have:=M.hs;omega
 have k:=M.il;have m:=zy (A.mono (T:=λg=>g=br) v_);replace d:=zy d;by_cases b:bt s i=78
 .have r:i+1<=s.size:=zc (s:=s) (i:=i) M_;have hr:=zy (show rdT s (zx ds) pl (f+1) (.leaf 110 p) i=some (.mk 110 0 noB [] [],i+1) by rw[rdT];unfold xj;rw[i_ rfl,i_ b]);replace b:=zy b;go_in;go_wp2_with (go_at_call 164;apply(yF 78 d.o.R q k rfl D_ b).mono;rintro e u ⟨rfl,c,a⟩;replace c:=zy c;replace a:=zy a);try go_ret
  rw[n.o,hr.o];exact nok (DaV.plain .nothing D_) (m.o.trans c u_) a r
 .have hr:=zy (show rdT s (zx ds) pl (f+1) (.leaf 110 p) i=none by rw[rdT];unfold xj;rw[i_ rfl,n_ b]);replace b:=zy b;go_in;go_wp2_with (go_at_call 164;apply(xm 78 d.o.R q k rfl D_ b).mono;rintro e u ⟨rfl,c,a⟩;have b:=(d.o.call a c k).e;replace c:=zy c;replace a:=zy a);go_quiet (fail);go_wp2;try go_ret
  rw[n.o,hr.o];exact ii ((m.o.trans c u_).si (zq.drewN _ _)) (a.o.si (zq.drewN _ _)) k
def Wo:jW w0 P ss ds sv rv xs s nt nx pl br (f+1) (.leaf 116 p) i:=by
 intro w v M a;obtain rfl:v=.iface 201 (.agg #[I_ p]):=by
  cases a with
  |base _ _ h=>rfl
  |name _ _ h=>exact absurd h D_
 have hr:rdT s (zx ds) pl (f+1) (.leaf 116 p) i=uM s i:=by
  rw[rdT];unfold xj uM;rw[n_ D_,i_ rfl]
 rw[hr];refine hq_ λb b=>?_;have A:Fr w (w.alloc (.cells #[I_ p] 201)) N_:=(A_ w _).alloc _;have a:=M.new A;have c:=zy (aM (t:=.leaf 116 p) a);replace A:=zy A;go_in;go_wp2_with (go_at_call 165;apply c.o.mono;intro e a d;obtain⟨g,c,rfl,a⟩:=d;replace a:=zy a);try go_ret
 rw[b.o];exact zO.pre A ⟨g,c,rfl,a⟩
def WV(a:WC w0 P ss ds sv rv xs s nt nx pl br):jW w0 P ss ds sv rv xs s nt nx pl br (f+1) (.leaf 105 p) i:=by
 intro w v M b;obtain rfl:v=.iface 202 (.agg #[I_ p]):=by
  cases b with
  |base _ _ h=>rfl
  |name _ _ h=>exact absurd h D_
 have hr:rdT s (zx ds) pl (f+1) (.leaf 105 p) i=(xE s 105 i).map (λq=>(.mk 105 q.1 noB [] [],q.2)):=by
  rw[rdT];unfold xj;rw[n_ D_,n_ D_,i_ D_];cases xE s 105 i<;>rfl
 rw[hr];refine hq_ λc c=>?_;have A:Fr w (w.alloc (.cells #[I_ p] 202)) N_:=(A_ w _).alloc _;have b:=M.new A;have d:=zy ((a _ _ (.leaf 105 p) b).1);replace A:=zy A;go_in;go_wp2_with (go_at_call 166;apply d.o.mono;intro e b a;obtain⟨g,d,rfl,b⟩:=a;replace b:=zy b);try go_ret
 rw[c.o];exact zO.pre A ⟨g,d,rfl,b⟩
def WX(a:WC w0 P ss ds sv rv xs s nt nx pl br):jW w0 P ss ds sv rv xs s nt nx pl br (f+1) (.leaf 108 p) i:=by
 intro w v M b;obtain rfl:v=.iface 203 (.agg #[I_ p]):=by
  cases b with
  |base _ _ h=>rfl
  |name _ _ h=>exact absurd h D_
 have hr:rdT s (zx ds) pl (f+1) (.leaf 108 p) i=(xE s 108 i).map (λq=>(.mk 108 q.1 noB [] [],q.2)):=by
  rw[rdT];unfold xj;rw[n_ D_,n_ D_,i_ D_];cases xE s 108 i<;>rfl
 rw[hr];refine hq_ λc c=>?_;have A:Fr w (w.alloc (.cells #[I_ p] 203)) N_:=(A_ w _).alloc _;have b:=M.new A;have d:=zy ((a _ _ (.leaf 108 p) b).2);replace A:=zy A;go_in;go_wp2_with (go_at_call 166;apply d.o.mono;intro e b a;obtain⟨g,d,rfl,b⟩:=a;replace b:=zy b);try go_ret
 rw[c.o];exact zO.pre A ⟨g,d,rfl,b⟩
def WZ:jW w0 P ss ds sv rv xs s nt nx pl br (f+1) (.leaf 115 p) i:=by
 intro w v M a;obtain rfl:v=.iface 204 (.agg #[I_ p]):=by
  cases a with
  |base _ _ h=>rfl
  |name _ _ h=>exact absurd h D_
 have hr:rdT s (zx ds) pl (f+1) (.leaf 115 p) i=dW s i:=by
  rw[rdT];unfold xj dW;rw[n_ D_,n_ D_,n_ D_,i_ rfl]
 rw[hr];refine hq_ λb b=>?_;have A:Fr w (w.alloc (.cells #[I_ p] 204)) N_:=(A_ w _).alloc _;have a:=M.new A;have c:=zy (ir (t:=.leaf 115 p) a);replace A:=zy A;go_in;go_wp2_with (go_at_call 167;apply c.o.mono;intro e a d;obtain⟨g,c,rfl,a⟩:=d;replace a:=zy a);try go_ret
 rw[b.o];exact zO.pre A ⟨g,c,rfl,a⟩
def Fe{t:PT}(k:yO w0)(m:∀j,i<j->j<=s.size->jW w0 P ss ds sv rv xs s nt nx pl br f t j):jW w0 P ss ds sv rv xs s nt nx pl br (f+1) (.wrap 91 p t) i:=by
 intro w v M b;obtain⟨a,c,rfl⟩:∃a,TyV w P t a/\v=.iface 206 (.agg #[I_ p,a]):=by
  cases b with
  |wrap _ _ h=>exact⟨_,h,rfl⟩
 obtain⟨vT,vx,rfl⟩:=c.iface;rw[rdT];refine hq_ λd d=>?_;have A:Fr w (w.alloc (.cells #[I_ p,.iface vT vx] 206)) N_:=(A_ w _).alloc _;have b:=M.new A;have g:=zy (YO (q0:=p) (p:=(p:Int)) b (c.fr A u_) k m);replace A:=zy A;go_in;go_wp2_with (go_at_call 168;apply g.o.mono;intro e b g;obtain⟨a,c,rfl,b⟩:=g;replace b:=zy b);try go_ret
 rw[d.o];exact zO.pre A ⟨a,c,rfl,b⟩
def Wa{t:PT}(k:yA w0)(m:∀j,i<j->j<=s.size->jW w0 P ss ds sv rv xs s nt nx pl br f t j):jW w0 P ss ds sv rv xs s nt nx pl br (f+1) (.wrap 123 p t) i:=by
 intro w v M b;obtain⟨a,c,rfl⟩:∃a,TyV w P t a/\v=.iface 207 (.agg #[I_ p,a]):=by
  cases b with
  |wrap _ _ h=>exact⟨_,h,rfl⟩
 obtain⟨vT,vx,rfl⟩:=c.iface;rw[rdT];refine hq_ λd d=>?_;have A:Fr w (w.alloc (.cells #[I_ p,.iface vT vx] 207)) N_:=(A_ w _).alloc _;have b:=M.new A;have g:=zy (th (q0:=p) (p:=(p:Int)) b (c.fr A u_) k m);replace A:=zy A;go_in;go_wp2_with (go_at_call 169;apply g.o.mono;intro e b g;obtain⟨a,c,rfl,b⟩:=g;replace b:=zy b);try go_ret
 rw[d.o];exact zO.pre A ⟨a,c,rfl,b⟩
def Fa{l:List PT}(m:l≠[])(y:yO w0)(b:∀t∈l,jW w0 P ss ds sv rv xs s nt nx true br f t i):jW w0 P ss ds sv rv xs s nt nx true br (f+1) (.alts p l) i:=by
 intro w v M c;cases l with
 |nil=>exact absurd rfl m
 |cons t r=>
 obtain⟨X,a,ho,_,hX,rfl⟩:∃X a,w.ownsRow 0 53 1 a (t::r).length ((List.range (t::r).length).map X)/\(∀g,a.ownBlock=some g->P g)/\(∀i u,(t::r)[i]?=some u->TyV w P u (X i))/\v=.iface 210 (.agg #[I_ p,a]):=by
  cases c with
  |alts _ X ho hP h=>exact⟨X,_,ho,hP,h,rfl⟩
 obtain⟨ba,x,rfl⟩:=zl ho;have hr:rdT s (zx ds) true (f+1) (.alts p (t::r)) i=aG 0 (rdT s (zx ds) true f t i):=by
  rw[rdT];unfold qj;rw[i_ rfl];simp only;cases rdT s (zx ds) true f t i<;>rfl
 rw[hr];refine hq_ λd q=>?_;have d:=b t (by simp);have k:=hX 0 t rfl;have A:Fr w (w.alloc (.cells #[I_ p,.slice ba (t::r).length x] 210)) N_:=(A_ w _).alloc _;have b:=M.new A;have c:=zy (aB (tt:=.alts p (t::r)) (p:=(p:Int)) rfl b (zj ho A u_) (k.fr A u_) y d);replace A:=zy A;generalize (t::r).length=n at c A⊢;go_in;go_wp2_with (go_at_call 170;apply c.o.mono;intro e b d;obtain⟨a,c,rfl,b⟩:=d;replace b:=zy b);try go_ret
 rw[q.o];exact zO.pre A ⟨a,c,rfl,b⟩
end
end Go.Proofs.YtjkiencmjggakaaGreatDoor
