import Derived.Test.YtahhhgbojlkjnaaGreatDoorW16
import Derived.Lib.AppendStr
import Derived.Deep.RegionWith
import Derived.Test.YtahhhgbojlkjnaaGreatDoorShelf
set_option maxHeartbeats 16000000
set_option maxRecDepth 100000
set_option linter.defProp false
set_option linter.unusedSimpArgs false
open Go.Proofs.Tryz
namespace Go.Proofs.YtahhhgbojlkjnaaGreatDoor
open Go.RowKit
variable {c n g m lc:Nat}{Y:Cx}{cT:As}{cx:Ax}{la:Ao}{b:BA}
def yf(w:Aw)(br:Nat)(sv rv:Ax)(s:BA)(i:Nat)(nb:Ap):Prop:=Blk w br [sv,rv,.string s,I_ i,.bool nb] 255
section
variable {w w':Aw} {br:Nat} {sv rv:Ax} {s:BA} {i:Nat} {nb:Ap}
def yf.c0(h:yf w br sv rv s i nb):w.cell? ⟨br,0,none⟩=some sv:=by rw[G_ h];rfl
def yf.c1(h:yf w br sv rv s i nb):w.cell? ⟨br,1,none⟩=some rv:=by rw[G_ h];rfl
def yf.c2(h:yf w br sv rv s i nb):w.cell? ⟨br,2,none⟩=some (.string s):=by rw[G_ h];rfl
def yf.c3(h:yf w br sv rv s i nb):w.cell? ⟨br,3,none⟩=some (I_ i):=by rw[G_ h];rfl
def yf.c4(h:yf w br sv rv s i nb):w.cell? ⟨br,4,none⟩=some (.bool nb):=by rw[G_ h];rfl
def yf.th(h:yf w br sv rv s i nb)(o:Nat):w.frozen? ⟨br,o,none⟩=false:=Blk.th h o
def yf.si(h:yf w br sv rv s i nb)(a:zw w w'):yf w' br sv rv s i nb:=by obtain⟨n,rfl⟩:=a;exact h
def yf.inc(h:yf w br sv rv s i nb):yf (w.setCell ⟨br,3,none⟩ (Z_ ((i:Int)+1))) br sv rv s (i+1) nb:=C_ h 3 _
end
def GM(w:Aw)(br:Nat)(sv rv:Ax)(s:BA)(i:Nat)(nb:Ap)(d:Nat)(b:Ap)(w':Aw):Prop:=
 Fr w w' (· = br)/\((bt s i=d/\b=true/\yf w' br sv rv s (i+1) nb/\i<s.size)\/(bt s i≠d/\b=false/\yf w' br sv rv s i nb))
def ue{w:Aw}{br:Nat}{sv rv:Ax}{s:BA}{i:Nat}{nb:Ap}{c:Int}(d:Nat)(h:yf w br sv rv s i nb)(hs:s.size<=4000)(hi:i<=s.size)(hd:c=(d:Int))(l:0<d):Calls prog 166 #[P_ br,.int .u8 c] w λe w'=>∃b,e=.returned (.bool b)/\GM w br sv rv s i nb d b w':=by
 subst hd;refine hq_ λl a=>?_;have c2:=h.c2;have c3:=h.c3;have f3:=h.th 3;by_cases hl:i<s.size
 .have j:(i:Int)<(s.size:Int):=M_;obtain⟨x,hx⟩:=x_ (bt s i);have l:((s[i]'hl).toNat:Int)=(x:Int):=zq_
  by_cases hb:x=d
  .subst hb;replace hx:=zy hx;replace h:=zy h;go_in;go_wp2;go_quiet (fail);go_wp2;try go_ret
   rw[a.o];exact⟨true,rfl,((A_ w _).si (zw.drewN _ _)).setCell _ _ (λ_=>rfl),.inl ⟨hx,rfl,(h.o.si (zw.drewN _ _)).inc,hl⟩⟩
  .have hn:((x:Int)==(d:Int))=false:=x4_
   replace hx:=zy hx;replace h:=zy h;go_in;go_wp2;go_quiet (fail);go_wp2;try go_ret
   rw[a.o];exact⟨false,rfl,(A_ w _).si (zw.drewN _ _),.inr ⟨by rw[hx.o];exact hb,rfl,h.o.si (zw.drewN _ _)⟩⟩
 .have j:¬((i:Int)<(s.size:Int)):=M_;have hb:H_ (bt s i≠d):=zy (by rw[pZ M_];omega);replace h:=zy h;go_in;go_wp2;go_quiet (fail);go_wp2;try go_ret
  rw[a.o];exact⟨false,rfl,(A_ w _).si (zw.drewN _ _),.inr ⟨hb,rfl,h.o.si (zw.drewN _ _)⟩⟩
def xy{w:Aw}{br:Nat}{sv rv:Ax}{s:BA}{i:Nat}{nb:Ap}{c:Int}(d:Nat)(h:yf w br sv rv s i nb)(hs:s.size<=4000)(hi:i<=s.size)(hd:c=(d:Int))(a:0<d)(hb:bt s i=d):Calls prog 166 #[P_ br,.int .u8 c] w λe w'=>e=.returned (.bool true)/\Fr w w' (· = br)/\yf w' br sv rv s (i+1) nb:=by
 apply(ue d h hs hi hd a).mono;rintro e w' ⟨b,rfl,j,a⟩;rcases a with⟨_,rfl,h1,_⟩|⟨hn,_⟩
 .exact⟨rfl,j,h1⟩
 .exact absurd hb hn
def xF{w:Aw}{br:Nat}{sv rv:Ax}{s:BA}{i:Nat}{nb:Ap}{c:Int}(d:Nat)(h:yf w br sv rv s i nb)(hs:s.size<=4000)(hi:i<=s.size)(hd:c=(d:Int))(a:0<d)(hb:bt s i≠d):Calls prog 166 #[P_ br,.int .u8 c] w λe w'=>e=.returned (.bool false)/\Fr w w' (· = br)/\yf w' br sv rv s i nb:=by
 apply(ue d h hs hi hd a).mono;rintro e w' ⟨b,rfl,j,a⟩;rcases a with⟨hy,_⟩|⟨_,rfl,h1⟩
 .exact absurd hy hb
 .exact⟨rfl,j,h1⟩
def sH(c:Nat)(w:Aw):Calls prog 190 #[U_ c] w λe w'=>e=.returned (.bool (decide (97<=c/\c<=122)))/\w'=w:=by
 have hb:decide (97<=c/\c<=122)=(decide ((97:Int)<=(c:Int))&&decide ((c:Int)<=122)):=by
  rw[Bool.decide_and,show decide ((97:Int)<=(c:Int))=decide (97<=c) by congr 1;exact propext M_,show decide ((c:Int)<=122)=decide (c<=122) by congr 1;exact propext M_]
 rw[hb];by_cases h1:(97:Int)<=(c:Int)
 .go_in;go_wp2;go_ret;exact⟨by simp[h1],rfl⟩
 .go_in;go_wp2;go_ret;exact⟨by simp;omega,rfl⟩
def cq3_{p:Prop}(h:p:=by
 refine hq_ λF G=>?_;have c3:=h.c3;(first|(have:=cc1;have E:H_ (∃k,i<=k/\k<=s.size/\s.size+1-k<=s.size+1/\Fr w w (· = br)/\yf w br sv rv s k nb/\zU 48 57 s i=zU 48 57 s k):=zy ⟨i,l_,hi,M_,A_ _ _,h,rfl⟩)|(have E:H_ (∃k,i<=k/\k<=s.size/\s.size+1-k<=s.size+1/\Fr w w (· = br)/\yf w br sv rv s k nb/\zU 97 122 s i=zU 97 122 s k):=zy ⟨i,l_,hi,M_,A_ _ _,h,rfl⟩));replace h:=zy h;go_in;go_wp2;clear c3;(first|(have:=cc1;go_loopg [] (s.size+1) (λm W=>∃k,i<=k/\k<=s.size/\s.size+1-k<=m/\Fr w W (· = br)/\yf W br sv rv s k nb/\zU 48 57 s i=zU 48 57 s k))|(go_loopg [] (s.size+1) (λm W=>∃k,i<=k/\k<=s.size/\s.size+1-k<=m/\Fr w W (· = br)/\yf W br sv rv s k nb/\zU 97 122 s i=zU 97 122 s k)));case atStart=>exact E.o
 case round=>
  clear E;obtain⟨k,K,M,hm,r,j,he⟩:=hrel;have c2:=j.c2;have c3:=j.c3;have f3:=j.th 3;have L:(i:Int)<=(k:Int):=M_;have N:(k:Int)<=(s.size:Int):=M_;replace r:=zy r;replace j:=zy j
  first
   |have:=cc1
    have y:H_ (zU 48 57 s k=k->∀W,zw wr W->F (.returned (.string (s.extract i k))) W):=zy (λhk W l=>by
     rw[G.o,he,hk]
     exact⟨rfl,r.o.si l,j.o.si l⟩)
   |have y:H_ (zU 97 122 s k=k->∀W,zw wr W->F (.returned (.string (s.extract i k))) W):=zy (λhk W l=>by
     rw[G.o,he,hk]
     exact⟨rfl,r.o.si l,j.o.si l⟩)
  by_cases hk:k<s.size
  .have D:(k:Int)<(s.size:Int):=M_;have H:decide ((k:Int)<(s.size:Int))=true:=decide_eq_true D;obtain⟨c,hc⟩:=x_ (bt s k);have J:((s[k]'hk).toNat:Int)=(c:Int):=by rw[<- hc,vS s k hk]
   (first|(have:=cc1;have A:H_ (∀(q:Nat) (b:Bool),decide (48<=c/\c<=57)=b->Calls prog 197 #[U_ c] (wr.drewN q) λe w'=>e=.returned (.bool b)/\w'=wr.drewN q):=zy (λq b hb=>by rw[<- hb];exact aj c _))|(have A:H_ (∀(q:Nat) (b:Bool),decide (97<=c/\c<=122)=b->Calls prog 190 #[U_ c] (wr.drewN q) λe w'=>e=.returned (.bool b)/\w'=wr.drewN q):=zy (λq b hb=>by rw[<- hb];exact sH c _)));(first|(have:=cc1;refine have a:zU 48 57 s k=if 48<=c/\c<=57 then zU 48 57 s (k+1) else k:=?_;?_)|(refine have a:zU 97 122 s k=if 97<=c/\c<=122 then zU 97 122 s (k+1) else k:=?_;?_))
   .rw[zU,dif_pos hk,hc]
   (first|(have:=cc1;by_cases u:48<=c/\c<=57)|(by_cases u:97<=c/\c<=122))
   .rw[i_ u]at a;have C:=zy (decide_eq_true u);have I:=zy (he.trans a);clear a he y;replace hc:=zy hc;go_wp2;go_quiet (first|((first|go_at_call 190|go_at_call 197);exact Calls.quiet_of_same (A.o _ _ C.o)));go_wp2;go_roundg (s.size+1-(k+1));case measure=>omega
    case rel=>exact⟨k+1,M_,hk,l_,(r.o.si (zw.drewN _ _)).setCell _ _ (λ_=>rfl),(j.o.si (zw.drewN _ _)).inc,I.o⟩
   .rw[n_ u]at a;have C:=zy (decide_eq_false u);replace a:=zy a;replace hc:=zy hc;clear he;go_wp2;go_quiet (first|((first|go_at_call 190|go_at_call 197);exact Calls.quiet_of_same (A.o _ _ C.o)));go_wp2;go_quiet (fail);go_wp2;try go_ret
    exact y.o a.o _ ((zw.drewN _ _).trans (zw.drewN _ _))
  .have D:¬((k:Int)<(s.size:Int)):=M_;have H:decide ((k:Int)<(s.size:Int))=false:=decide_eq_false D;(first|(have:=cc1;have a:=zy (show zU 48 57 s k=k by rw[zU,dif_neg hk]))|(have a:=zy (show zU 97 122 s k=k by rw[zU,dif_neg hk])));clear he;go_wp2;go_quiet (fail);go_wp2;go_quiet (fail);go_wp2;try go_ret
   exact y.o a.o _ ((zw.drewN _ _).trans (zw.drewN _ _))):p:=h
def wK{w:Aw}{br:Nat}{sv rv:Ax}{s:BA}{i:Nat}{nb:Ap}(h:yf w br sv rv s i nb)(hs:s.size<=4000)(hi:i<=s.size):Calls prog 189 #[P_ br,.func (.func 190) #[] #[]] w λe w'=>e=.returned (.string (s.extract i (zU 97 122 s i)))/\Fr w w' (· = br)/\yf w' br sv rv s (zU 97 122 s i) nb:=by
 exact cq3_
def aj(c:Nat)(w:Aw):Calls prog 197 #[U_ c] w λe w'=>e=.returned (.bool (decide (48<=c/\c<=57)))/\w'=w:=by
 have hb:decide (48<=c/\c<=57)=(decide ((48:Int)<=(c:Int))&&decide ((c:Int)<=57)):=by
  rw[Bool.decide_and,show decide ((48:Int)<=(c:Int))=decide (48<=c) by congr 1;exact propext M_,show decide ((c:Int)<=57)=decide (c<=57) by congr 1;exact propext M_]
 rw[hb];by_cases h1:(48:Int)<=(c:Int)
 .go_in;go_wp2;go_ret;exact⟨by simp[h1],rfl⟩
 .go_in;go_wp2;go_ret;exact⟨by simp;omega,rfl⟩
def eB{w:Aw}{br:Nat}{sv rv:Ax}{s:BA}{i:Nat}{nb:Ap}(h:yf w br sv rv s i nb)(hs:s.size<=4000)(hi:i<=s.size):Calls prog 189 #[P_ br,.func (.func 197) #[] #[]] w λe w'=>e=.returned (.string (s.extract i (zU 48 57 s i)))/\Fr w w' (· = br)/\yf w' br sv rv s (zU 48 57 s i) nb:=by
 have cc1:=Nat
 exact cq3_
inductive qb:DT->Value->Prop
 |nothing:qb (.mk 110 0 noB [] []) (.iface 138 (.agg #[]))
 |truth (b:Bool):qb (.mk 116 (if b=true then 1 else 0) noB [] []) (.iface 139 (.bool b))
 |num (c:Nat) (n:Int) (hc:c=105\/c=108) (h0 : -9223372036854775808<=n) (h1:n<=9223372036854775807):qb (.mk c n noB [] []) (.iface 141 (.int .i64 n))
 |text (tx:BA) (h:tx.size<=4000):qb (.mk 115 0 tx [] []) (.iface 143 (.string tx))
 |bytes (tx:BA) (h:tx.size<=4000):qb (.mk 102 0 tx [] []) (.iface 150 (.string tx))
 |sym (n l:Nat) (h:n<=4000):qb (.mk 101 (n:Int) noB [] []) (.iface 149 (.agg #[U_ l,I_ n]))
inductive kP (w:Aw) (P:Au):DT->Value->Prop
 |flat {d:DT} {v:Value} (h:qb d v):kP w P d v
 |branch (n:Nat) (h:n<=4000) {d:DT} {v:Value} (hd:kP w P d v):kP w P (.mk 40 (n:Int) noB [] [d]) (.iface 135 (.agg #[I_ n,v]))
 |row {c:Nat} {T:TypeId} {ds:List DT} {lv:Value} (Y:Nat->Value) (hc:(c=91/\T=129)\/(c=114/\T=136)) (ho:w.ownsRow 0 69 1 lv ds.length ((List.range ds.length).flatMap λi=>[Y i])) (hP:∀g,lv.ownBlock=some g->P g)
  (hd:∀i d,ds[i]?=some d->kP w P d (Y i)):kP w P (.mk c 0 noB [] ds) (.iface T lv)
 |map {ks:List BA} {ds:List DT} {lv:Value} (Y:Nat->Value) (hl:ks.length=ds.length) (hk:∀k∈ks,k.size<=4000) (ho:w.ownsRow 0 133 2 lv ds.length ((List.range ds.length).flatMap λi=>[.string (ks.getD i noB),Y i])) (hP:∀g,lv.ownBlock=some g->P g)
  (hd:∀i d,ds[i]?=some d->kP w P d (Y i)):kP w P (.mk 123 0 noB ks ds) (.iface 131 lv)
section
variable {w w':Aw} {P Q S:Au} {d:DT} {v:Ax}
def kP.fr(h:kP w P d v)(j:Fr w w' S)(a:∀g,P g->¬S g):kP w' P d v:=by
 induction h with
 |flat h=>exact .flat h
 |branch n h hd ih=>exact .branch n h ih
 |row Y hc ho hP hd ih=>exact .row Y hc (zk ho j (λg e=>a g (hP g e))) hP ih
 |map Y hl hk ho hP hd ih=>exact .map Y hl hk (zk ho j (λg e=>a g (hP g e))) hP ih
def kP.iface(h:kP w P d v):∃T x,v=.iface T x:=by
 cases h with
 |flat h=>cases h<;>exact⟨_,_,rfl⟩
 |branch n h hd=>exact⟨_,_,rfl⟩
 |row Y hc ho hP hd=>exact⟨_,_,rfl⟩
 |map Y hl hk ho hP hd=>exact⟨_,_,rfl⟩
end
section
variable {w w':Aw} {B:Nat} {P Q S:Au} {lv:Ax} {ds:Ak}
end
section
variable {w w':Aw} {B:Nat} {P Q S:Au} {es:Ae} {ys:Az}
end
def wT(es:Ae):Option BA:=es.getLast?.map Prod.fst
def jL(es:Ae)(e:BA×DT):wT (es++[e])=some e.1:=by unfold wT;simp
def QE(o:Dw)(n:Nat)(ys:Az):Prop:=match o with|none=>n=0|some lk=>∃m,n=m+1/\ys[m*2]?=some (.string lk)
def GU(W:Aw)(t:BA)(e:Ah)(w':Aw):Prop:=Fr W w' N_/\
 ((∃v,Lib.parseIntB 64 t.data.toList=.ok v/\e=.returned (.tuple #[Z_ v,.nilIface]))\/((∀v,Lib.parseIntB 64 t.data.toList≠.ok v)/\∃v T x,e=.returned (.tuple #[Z_ v,.iface T x])))
def wQ(s:BA)(i:Nat):Prop:=0<(yv s i).size/\¬(bt (yv s i) 0=48/\(1<(yv s i).size\/xP s i=true))
def YX(w:Aw)(br:Nat)(sv rv:Ax)(s:BA)(i:Nat)(nb:Ap)(lo hi:Int)(e:Ah)(w':Aw):Prop:=
 ∃n b,e=.returned (.tuple #[Z_ n,.bool b])/\Fr w w' (· = br)/\yf w' br sv rv s (yY s i) nb/\
  (b=true↔(wQ s i/\∃v,Lib.parseIntB 64 (s.extract i (yY s i)).data.toList=.ok v/\lo<=v/\v<=hi))/\(b=true->Lib.parseIntB 64 (s.extract i (yY s i)).data.toList=.ok n)
section
variable {w:Aw} {br:Nat} {sv rv:Ax} {s:BA} {i:Nat} {nb:Ap} {lo hi:Int}
def Xh(h:yf w br sv rv s i nb)(hs:s.size<=4000)(hi:i<=s.size):Calls prog 166 #[P_ br,.int .u8 45] w λe w'=>e=.returned (.bool (xP s i))/\Fr w w' (· = br)/\yf w' br sv rv s (sgn s i) nb:=by
 apply(ue 45 h hs hi rfl D_).mono;rintro e w' ⟨b,rfl,a,j⟩;rcases j with⟨hy,rfl,h1,_⟩|⟨hn,rfl,h1⟩
 .refine⟨?_,a,?_⟩
  .unfold xP;rw[hy];rfl
  .unfold sgn;rw[i_ hy];exact h1
 .refine⟨?_,a,?_⟩
  .have:xP s i=false:=by unfold xP;exact beq_eq_false_iff_ne.2 M_
   rw[this]
  .unfold sgn;rw[n_ hn];exact h1
def VS(hi:i<=s.size):i<=sgn s i/\sgn s i<=s.size/\sgn s i<=yY s i/\yY s i<=s.size:=by
 have h1:i<=sgn s i/\sgn s i<=s.size:=by
  unfold sgn;split
  .rename_i h;have:i<s.size:=by
    by_cases e:i<s.size
    .exact e
    .unfold bt at h;rw[dif_neg e]at h;exact absurd h D_
   omega
  .omega
 have a:=xz 48 57 s _ (sgn s i) l_;exact⟨h1.1,h1.2,a.1,a.2 h1.2⟩
def cwsY1_{p:Prop}(h:p:=by
 (first|(have:=cc1;have hnf:=zy (show ¬wQ s i by rw[hfit];simp))|(have:=cc2;have hnf:=zy (show ¬wQ s i by rw[hfit];simp[h1]))|((have e0:t.toList=[]:=by rw[ByteArray.toList_eq];exact cl_ (by rw[Array.length_toList];exact ht0));have hnf:=zy (show ¬wQ s i by rw[hfit];omega)));clear hfit;(try have:=cc2;have h1':(1:Int)<(t.size:Int):=M_);go_in;go_wp2_with (first
  |(go_at_call 166;apply hC1.o.mono;rintro e w1 ⟨rfl,hf1,h1⟩;have F1:=zy hf1;have R1:=zy h1;clear hf1 h1)
  |(go_at_call 189;apply(hC2.o _ R1.o).mono;rintro e w2 ⟨rfl,hf2,h2⟩;have F2:=zy (F1.o.trans hf2 u_);have R2:=zy h2;clear hf2 h2))
 exact hbad.o hnf.o _ F2.o R2.o):p:=h
def sY(h:yf w br sv rv s i nb)(hs:s.size<=4000)(H:i<=s.size)(hP:∀W,Fr w W (· = br)->Calls prog 198 #[.string (s.extract i (yY s i)),Z_ 10,Z_ 64] W (GU W (s.extract i (yY s i)))):Calls prog 184 #[P_ br,Z_ lo,Z_ hi] w (YX w br sv rv s i nb lo hi):=by
 refine hq_ λF G=>?_;obtain⟨l1,l2,R,U⟩:=VS H;have c3:=h.c3;have hC1:=zy (Xh h hs H);have hC2:H_ (∀W,yf W br sv rv s (sgn s i) nb->Calls prog 189 #[P_ br,.func (.func 197) #[] #[]] W λe w'=>e=.returned (.string (yv s i))/\Fr W w' (· = br)/\yf w' br sv rv s (yY s i) nb):=zy (λW H=>eB H hs l2);have hbad:H_ (¬wQ s i->∀W,Fr w W (· = br)->yf W br sv rv s (yY s i) nb->F (.returned (.tuple #[O_,.bool false])) W):=zy (λhn W a A=>by
  rw[G.o]
  exact⟨0,false,rfl,a,A,⟨λe=>absurd e D_,λe=>absurd e.1 hn⟩,λe=>absurd e D_⟩)
 have y:H_ (wQ s i->∀n b W,Fr w W (· = br)->yf W br sv rv s (yY s i) nb->(b=true↔∃v,Lib.parseIntB 64 (s.extract i (yY s i)).data.toList=.ok v/\lo<=v/\v<=hi)->(b=true->Lib.parseIntB 64 (s.extract i (yY s i)).data.toList=.ok n)->F (.returned (.tuple #[Z_ n,.bool b])) W):=zy (λhn n b W a A hb l=>by
  rw[G.o]
  exact⟨n,b,rfl,a,A,hb.trans ⟨λe=>⟨hn,e⟩,λe=>e.2⟩,l⟩)
 replace hP:=zy hP;have hfit:wQ s i=(0<(yv s i).size/\¬(bt (yv s i) 0=48/\(1<(yv s i).size\/xP s i=true))):=rfl;have A:i<=yY s i:=M_;generalize yv s i=t at hC2 hfit;generalize yY s i=k at *;generalize xP s i=neg at *;generalize sgn s i=j at *;by_cases ht0:t.size=0
 .exact cwsY1_
 .have h0:0<t.size:=M_;have e0:¬t.toList=[]:=by
   rw[ByteArray.toList_eq];intro e;have:t.data.toList.length=t.size:=Array.length_toList;rw[e,ar_]at this;omega
  have A:t.toList.isEmpty=false:=by cases A:t.toList with|nil=>exact absurd A e0|cons _ _=>rfl
  obtain⟨c,hc⟩:=x_ (bt t 0);have A:((t[0]'h0).toNat:Int)=(c:Int):=by rw[<- hc,vS t 0 h0]
  rw[hc]at hfit;replace hc:=zy hc;have N:(c=48/\neg=true)\/(c=48/\neg=false/\1<t.size)\/c≠48\/(c=48/\neg=false/\t.size=1):=by
   cases neg
   .by_cases c=48
    .by_cases 1<t.size
     .simp_all
     .exact .inr (.inr (.inr ⟨by assumption,rfl,M_⟩))
    .simp_all
   .by_cases c=48<;>simp_all
  rcases N with⟨rfl,rfl⟩|⟨rfl,rfl,h1⟩|O|⟨rfl,rfl,h1⟩
  .have cc1:=Nat;exact cwsY1_
  .have cc2:=Nat;exact cwsY1_
  case' neg.inr.inr.inl=>have a:=zy (show wQ s i by rw[hfit];exact⟨h0,λe=>O e.1⟩)
  case' neg.inr.inr.inl=>have A:((c:Int)==48)=false:=x4_
  case' neg.inr.inr.inr=>have a:=zy (show wQ s i by rw[hfit];exact⟨h0,by simp[h1]⟩)
  case' neg.inr.inr.inr=>have h1':¬(1:Int)<(t.size:Int):=M_
  all_goals clear hfit
  all_goals
   go_in;go_wp2_with (first
    |(go_at_call 166;apply hC1.o.mono;rintro e w1 ⟨rfl,hf1,h1⟩;have F1:=zy hf1;have R1:=zy h1)
    |(go_at_call 189;apply(hC2.o _ R1).mono;rintro e w2 ⟨rfl,hf2,h2⟩;have F2:=zy (F1.o.trans hf2 u_);have R2:=zy h2))
   have F:=R2.o.c2;have G:=R2.o.c3;refine tR_ (λW=>z_ W br 2 (.string s)/\z_ W br 3 (I_ k)) ?_;refine zm 0 (P_ br) rfl K_ (λ_ _ _ h=>h) K_ xc_ ?_;refine zm 1 (P_ br) rfl K_ (λ_ _ _ h=>h) K_ xc_ ?_;refine zm 2 (.pointer (some ⟨br,2,none⟩)) rfl K_ (λ_ _ _ h=>h) K_ xc_ ?_;refine zm 3 (.string s) rfl K_ (λ_ _ _ h=>h) K_ xc_ ?_;refine zm 4 (I_ i) rfl K_ (λ_ _ _ h=>h) K_ xc_ ?_;refine zm 5 (P_ br) rfl K_ (λ_ _ _ h=>h) K_ xc_ ?_;refine zm 6 (P_ br) rfl K_ (λ_ _ _ h=>h) K_ xc_ ?_;refine zm 7 (.pointer (some ⟨br,3,none⟩)) rfl K_ (λ_ _ _ h=>h) K_ xc_ ?_;refine zm 8 (I_ k) rfl K_ (λ_ _ _ h=>h) K_ xc_ ?_;refine zm 9 (.string (s.extract i k)) rfl K_ (λ_ _ _ h=>h) K_ xc_ ?_;refine zd 10 rfl K_ ⟨F,G⟩ (λK r=>?_);go_simp;apply(hP.o _ F2.o.drew).mono;rintro e H ⟨A,hm⟩;have q:=zy (F2.o.drew.trans A v_);have p:H_ (yf H br sv rv s k nb):=zy (A.bl R2 id);have I:=p.o.c2;have J:=p.o.c3;replace hm:=zy hm;rcases hm.o with⟨v,l,rfl⟩|⟨E,v,T,x,rfl⟩
   .replace l:=zy l;refine r _ _ ?_;refine zm 11 (.tuple #[Z_ v,.nilIface]) rfl K_ (λ_ _ _ h=>h) K_ xc_ ?_;refine zm 12 (Z_ v) rfl K_ (λ_ _ _ h=>h) K_ xc_ ?_;refine zm 13 .nilIface rfl K_ (λ_ _ _ h=>h) K_ xc_ ?_;refine zm 14 (Z_ v) rfl K_ (λ_ _ _ h=>h) K_ xc_ ?_;refine zm 15 .nilIface rfl K_ (λ_ _ _ h=>h) K_ xc_ ?_;refine zV K_ ⟨I,J⟩ ?_ _;by_cases D:v≥lo
    .have M:decide (v≥lo)=true:=decide_eq_true D;by_cases C:v<=hi
     .have L:decide (v<=hi)=true:=decide_eq_true C;go_wp2;exact y.o a v true _ q p ⟨λ_=>⟨v,l,D,C⟩,λ_=>rfl⟩ (λ_=>l)
     .have L:decide (v<=hi)=false:=decide_eq_false C;go_wp2;exact y.o a v false _ q p ⟨λe=>absurd e D_,λ⟨u,hu,_,h2⟩=>by rw[l.o]at hu;cases hu;exact absurd h2 M_⟩ (λe=>absurd e D_)
    .have M:decide (v≥lo)=false:=decide_eq_false D;go_wp2;exact y.o a v false _ q p ⟨λe=>absurd e D_,λ⟨u,hu,h1,_⟩=>by rw[l.o]at hu;cases hu;exact absurd h1 M_⟩ (λe=>absurd e D_)
   .replace E:=zy E;refine r _ _ ?_;refine zm 11 (.tuple #[Z_ v,.iface T x]) rfl K_ (λ_ _ _ h=>h) K_ xc_ ?_;refine zm 12 (Z_ v) rfl K_ (λ_ _ _ h=>h) K_ xc_ ?_;refine zm 13 (.iface T x) rfl K_ (λ_ _ _ h=>h) K_ xc_ ?_;refine zm 14 (Z_ v) rfl K_ (λ_ _ _ h=>h) K_ xc_ ?_;refine zm 15 (.iface T x) rfl K_ (λ_ _ _ h=>h) K_ xc_ ?_;refine zV K_ ⟨I,J⟩ ?_ _;go_wp2;exact y.o a v false _ q p ⟨λe=>absurd e D_,λ⟨u,hu,_,_⟩=>absurd hu (E.o u)⟩ (λe=>absurd e D_)
end
def mz(n:Int)(h : -9223372036854775808<=n)(a:n<=9223372036854775807):wrap64 n=n:=by
 have:=IntKind.wrap_i64 n;unfold wrap64;omega
def ij:∀a b:List UInt8,dv (a++b)=dv a*10 ^ b.length+dv b
 | [],b=>by simp[dv]
 |c::r,b=>by
  simp only[bf_,dv,ij r b,ah_,Nat.pow_add,Nat.add_mul,Nat.mul_assoc];omega
def WW{t:BA}{a:Nat}(h:a<t.size):∃c,t.data.toList[a]?=some c/\bt t a=c.toNat:=by
 refine⟨t[a],?_,vS t a h⟩;rw[Array.getElem?_toList];exact Array.getElem?_eq_getElem h
def lZ{neg:Ap}{t:BA}(hd:qR t.data.toList)(hb:dv t.data.toList<=9223372036854775807+(if neg=true then 1 else 0)):∀a,a<=t.size->lY neg t a=if neg=true then -(dv (t.data.toList.take a):Int) else (dv (t.data.toList.take a):Int):=by
 intro a;induction a with
 |zero=>intro _;simp[lY,dv]
 |succ a ih=>
  intro ha;obtain⟨c,hc,h⟩:=WW (t:=t) (a:=a) M_;have hm:c∈t.data.toList:=al_ hc;have e:=hd c hm;have j:t.data.toList.take (a+1)=t.data.toList.take a++[c]:=by rw[a8_,hc];rfl
  have h1:=ij (t.data.toList.take a) [c];have e:=ij (t.data.toList.take (a+1)) (t.data.toList.drop (a+1));rw[List.take_append_drop]at e;have e:dv (t.data.toList.take (a+1))<=dv t.data.toList:=by
   have:1<=10 ^ (t.data.toList.drop (a+1)).length:=Nat.one_le_pow _ _ D_;have:=cc_ (dv (t.data.toList.take (a+1))) this;omega
  simp only[ap_,Nat.pow_one,dv,ar_,Nat.pow_zero,Nat.mul_one,bs_]at h1;rw[j]at e⊢;rw[lY,ih M_,h];rw[h1]at e⊢;generalize dv (t.data.toList.take a)=x at *;generalize dv t.data.toList=y at *;cases neg with
  |true=>
   simp only[if_true]at hb⊢;unfold ce;rw[i_ rfl,mz (10 * -(x:Int)) M_ M_,mz (c.toNat:Int) M_ M_,mz ((c.toNat:Int)-48) M_ M_,mz _ M_ M_];omega
  |false=>
   simp only[a2_,if_false,bs_]at hb⊢;unfold ce;rw[n_ D_,mz (10*(x:Int)) M_ M_,mz (c.toNat:Int) M_ M_,mz ((c.toNat:Int)-48) M_ M_,mz _ M_ M_];omega
def Xl{s:BA}{i:Nat}{v:Int}(h0:0<(yv s i).size)(hp:Lib.parseIntB 64 (s.extract i (yY s i)).data.toList=.ok v):lY (xP s i) (yv s i) (yv s i).size=v/\-9223372036854775808<=v/\v<=9223372036854775807:=by
 have hd:qR (yv s i).data.toList:=rk s (sgn s i);have j:(yv s i).size=(yv s i).data.toList.length:=Array.length_toList.symm;have h:(yv s i).data.toList≠[]:=by
  intro e;rw[e,ar_]at j;omega
 have k:(yv s i).data.toList.take (yv s i).size=(yv s i).data.toList:=by rw[j];exact List.take_length
 by_cases h45:bt s i=45
 .have a:xP s i=true:=by unfold xP;rw[h45];rfl
  have q:i<s.size:=zr M_;have hs:sgn s i=i+1:=z6_
  have l:=xz 48 57 s _ (i+1) l_;have he:(s.extract i (yY s i)).data.toList=45::(yv s i).data.toList:=by
   unfold yv yY;rw[hs,bM M_ (l.2 M_)];refine List.cons_eq_cons.2 ⟨?_,rfl⟩;rw[vS s i q]at h45;exact UInt8.toNat_inj.1 (h45.trans D_)
  rw[he,Yu h hd]at hp;split at hp
  .rename_i p;cases hp;refine⟨?_,M_,M_⟩;rw[a,lZ hd (by simp only[if_true];omega) _ l_,i_ rfl,k]
  .cases hp
 .have a:xP s i=false:=by
   unfold xP;exact beq_eq_false_iff_ne.2 M_
  have hs:sgn s i=i:=z7_
  have he:s.extract i (yY s i)=yv s i:=by unfold yv;rw[hs]
  rw[he,Yb h hd]at hp;split at hp
  .rename_i p;cases hp;refine⟨?_,M_,M_⟩;rw[a,lZ hd (by simp only[a2_,if_false];omega) _ l_,n_ D_,k]
  .cases hp
set_option maxRecDepth 100000
set_option linter.defProp false
@[go_sem]def FC:=xw 139 69
@[go_sem]def Ps:=vR 139 69 (.bool false)
@[go_sem]def Ga:=xw 141 69
@[go_sem]def FH:=vR 141 69 (O_)
@[go_sem]def Pi:=xw 143 69
@[go_sem]def Bm:=vR 143 69 (.string ⟨#[]⟩)
@[go_sem]def Pe:=xw 129 69
@[go_sem]def Qi:=vR 129 69 (L_)
@[go_sem]def Bc:=xw 131 69
@[go_sem]def WK:=vR 131 69 (L_)
@[go_sem]def GY:=xw 135 69
@[go_sem]def ZQ:=vR 135 69 (.agg #[O_,.nilIface])
@[go_sem]def Gi:=xw 136 69
@[go_sem]def ZJ:=vR 136 69 (L_)
@[go_sem]def Gs:=xw 149 69
@[go_sem]def FL:=vR 149 69 (.agg #[.int .u8 0,O_])
@[go_sem]def FR:=xw 150 69
def QD(m:Nat):Prop:=∀(d:DT),ndT d<=m->ndT d<=1000000000->∀(w:World) (P:Nat->Prop) (v:Value),kP w P d v->
 Calls prog 35 #[v] w λe w'=>e=.returned (Z_ (ndT d:Int))/\Fr w w' N_
def gp{w:Aw}(ho:w.ownsRow 0 69 1 (S_ g n c) n ((List.range n).flatMap λi=>[Y i])){q:Nat}(a:q<n):w.cell? ⟨g,q,none⟩=some (Y q):=
 ze ho rfl (by have:=gG n (λi=>[Y i]) (m:=1) (λ_ _=>rfl) q 0 a D_;simpa using this)
def lF{w:Aw}{K:Nat->BA}(ho:w.ownsRow 0 133 2 (S_ g n c) n ((List.range n).flatMap λi=>[.string (K i),Y i])){q:Nat}(a:q<n):w.cell? ⟨g,q*2,none⟩=some (.string (K q))/\w.cell? ⟨g,q*2+1,none⟩=some (Y q):=by
 have h:=gG n (λi=>[.string (K i),Y i]) (m:=2) (λ_ _=>rfl) q;exact⟨ze ho rfl (by have:=h 0 a D_;simpa using this),ze ho rfl (by have:=h 1 a D_;simpa using this)⟩
def fi{d:DT}{T:As}{x:Ax}(a:T≠129/\T≠131/\T≠135/\T≠136)(hd:ndT d=1)(w:Aw):Calls prog 35 #[.iface T x] w λe w'=>e=.returned (Z_ (ndT d:Int))/\Fr w w' N_:=by
 refine hq_ λh h=>?_;have j:=Qi T a.1;have j:=WK T a.2.1;have j:=ZQ T a.2.2.1;have j:=ZJ T a.2.2.2;replace hd:=zy hd;go_in;go_wp2;try go_ret
 rw[h.o,hd.o];exact⟨rfl,A_ _ _⟩
def Xo(l:QD m){d:DT}{v:Ax}{w:Aw}{P:Au}(hm:ndT d<=m)(hb:ndT d<=1000000000)(h:kP w P d v):Calls prog 35 #[.iface 135 (.agg #[I_ n,v])] w λe w'=>e=.returned (Z_ (ndT (.mk 40 (n:Int) noB [] [d]):Int))/\Fr w w' N_:=by
 refine hq_ λq p=>?_;obtain⟨T,x,rfl⟩:=h.iface;have k:=zy (show ndT (.mk 40 (n:Int) noB [] [d])=1+ndT d by simp only[ndT,zM,bs_]);have A:Fr w (w.alloc (.cells #[I_ n,.iface T x] 135)) N_:=(A_ w _).alloc _;have j:=zy (l d hm hb _ P _ (h.fr A u_));obtain⟨D,a⟩:=x_ (ndT d);rw[a]at j k hb;replace a:=zy a;replace A:=zy A;go_in;go_wp2_with (go_at_call 35;apply j.o.mono;rintro e a ⟨rfl,a⟩;replace a:=zy a);try go_ret
 rw[p.o,k.o];exact⟨by simp,A.o.trans a u_⟩
def cq2_{p:Prop}(h:p:=by
 refine hq_ λM I=>?_;(first|(have:=cc1;have F:=zy (show ndT (.mk 114 0 noB [] ds)=1+zM ds by unfold ndT;rfl))|(have F:=zy (show ndT (.mk 91 0 noB [] ds)=1+zM ds by unfold ndT;rfl)));have G:H_ (∃q:Nat,Value.int .i64 1=.int .i64 ((1+zM (ds.take q):Nat):Int)/\Value.int .i64 0=I_ q/\q<=ds.length/\ds.length+1-q<=ds.length+1/\Fr w w N_):=zy ⟨0,by simp[zM],rfl,aj_ _,M_,A_ _ _⟩;replace ho:=zy ho;replace hd:=zy hd;go_in;go_wp2_with fail;(first|(have:=cc1;go_loopg [3,13,57] (ds.length+1) (λm C L v W=>∃q:Nat,C=.int .i64 ((1+zM (ds.take q):Nat):Int)/\v=I_ q/\q<=ds.length/\ds.length+1-q<=m/\Fr w W N_))|(go_loopg [3,6,20] (ds.length+1) (λm C L v W=>∃q:Nat,C=.int .i64 ((1+zM (ds.take q):Nat):Int)/\v=I_ q/\q<=ds.length/\ds.length+1-q<=m/\Fr w W N_)));case atStart=>exact G.o
 case round=>
  clear G;obtain⟨q,rfl,rfl,U,R,a⟩:=hrel;by_cases A:q<ds.length
  .have K:(q:Int)<(ds.length:Int):=M_;have j:ds[q]?=some ds[q]:=ak_ A;generalize ds[q]=d at j;obtain⟨l,H⟩:=yE j;obtain⟨g,N,J⟩:=zu ho.o M_;cases J;have k:=hd.o q d j;obtain⟨T,x,hx⟩:=k.iface;rw[hx]at k;have O:wr.cell? ⟨g,q,none⟩=some (.iface T x):=by
    rw[<- hx];exact gp (zk ho.o a u_) A
   have E:=zy (ih d M_ M_ wr P _ (k.fr a u_));have V:q<=1000000000:=by have:=xY ds;omega
   obtain⟨S,r⟩:∃S,zM (ds.take q)=S:=⟨_,rfl⟩;obtain⟨D,u⟩:∃D,ndT d=D:=⟨_,rfl⟩;rw[r]at l H;rw[u]at l H E;rw[r];replace l:=zy l;replace r:=zy r;replace u:=zy u;replace a:=zy a;replace j:=zy j;replace k:=zy k;clear hx;go_wp2_with (go_at_call 35;refine E.o.mono ?_;rintro e X ⟨rfl,y⟩;replace y:=zy y);go_roundg (ds.length+1-(q+1));case measure=>omega
   case rel=>exact⟨q+1,by rw[l.o];simp;omega,by simp,A,l_,a.o.trans y.o u_⟩
  .have K:¬((q:Int)<(ds.length:Int)):=M_;rw[a6_ M_];replace a:=zy a;go_wp2_with fail;try go_ret
   rw[I.o,F.o];exact⟨rfl,a.o⟩):p:=h
def KL(ih:QD m){ds:Ak}{w:Aw}{P:Au}(hm:1+zM ds<=m+1)(hb:1+zM ds<=1000000000)(ho:w.ownsRow 0 69 1 (.slice la ds.length lc) ds.length ((List.range ds.length).flatMap λi=>[Y i]))(hd:∀i d,ds[i]?=some d->kP w P d (Y i)):Calls prog 35 #[.iface 129 (.slice la ds.length lc)] w λe w'=>e=.returned (Z_ (ndT (.mk 91 0 noB [] ds):Int))/\Fr w w' N_:=by
 exact cq2_
def KC(ih:QD m){ds:Ak}{w:Aw}{P:Au}(hm:1+zM ds<=m+1)(hb:1+zM ds<=1000000000)(ho:w.ownsRow 0 69 1 (.slice la ds.length lc) ds.length ((List.range ds.length).flatMap λi=>[Y i]))(hd:∀i d,ds[i]?=some d->kP w P d (Y i)):Calls prog 35 #[.iface 136 (.slice la ds.length lc)] w λe w'=>e=.returned (Z_ (ndT (.mk 114 0 noB [] ds):Int))/\Fr w w' N_:=by
 have cc1:=Nat
 exact cq2_
def Fo(H:QD m){ks:Aa}{ds:Ak}{K:Nat->BA}{w:Aw}{P:Au}(hm:1+zM ds<=m+1)(hb:1+zM ds<=1000000000)(ho:w.ownsRow 0 133 2 (.slice la ds.length lc) ds.length ((List.range ds.length).flatMap λi=>[.string (K i),Y i]))(hd:∀i d,ds[i]?=some d->kP w P d (Y i)):Calls prog 35 #[.iface 131 (.slice la ds.length lc)] w λe w'=>e=.returned (Z_ (ndT (.mk 123 0 noB ks ds):Int))/\Fr w w' N_:=by
 refine hq_ λI E=>?_;have G:=zy (show ndT (.mk 123 0 noB ks ds)=1+zM ds by unfold ndT;rfl);have y:H_ (∃q:Nat,Value.int .i64 1=Z_ ((1+zM (ds.take q):Nat):Int)/\Value.int .i64 0=I_ q/\q<=ds.length/\ds.length+1-q<=ds.length+1/\Fr w w N_):=zy ⟨0,by simp[zM],rfl,aj_ _,M_,A_ _ _⟩;replace ho:=zy ho;replace hd:=zy hd;go_in;go_wp2;go_loopg [3,9,34] (ds.length+1) (λm I J v W=>∃q:Nat,I=Z_ ((1+zM (ds.take q):Nat):Int)/\v=I_ q/\q<=ds.length/\ds.length+1-q<=m/\Fr w W N_);case atStart=>exact y
 case round=>
  obtain⟨q,rfl,rfl,y,y,a⟩:=hrel;by_cases r:q<ds.length
  .have F:(q:Int)<(ds.length:Int):=M_;have h:ds[q]?=some ds[q]:=ak_ r;generalize ds[q]=d at h;obtain⟨k,C⟩:=yE h;obtain⟨g,y,y⟩:=zu ho M_;cases y;have j:=hd.o q d h;obtain⟨T,x,hx⟩:=j.iface;rw[hx]at j;obtain⟨y,y⟩:=lF (zk ho a u_) r;rw[hx]at y;have A:Fr wr (wr.alloc (.cells #[.string (K q),.iface T x] 133)) N_:=(A_ wr _).alloc _;have u:=zy (H d M_ M_ (wr.alloc (.cells #[.string (K q),.iface T x] 133)) P _ ((j.fr a u_).fr A u_));replace A:=zy A;have y:q<=1000000000:=by have:=xY ds;omega
   obtain⟨S,l⟩:=x_ (zM (ds.take q));obtain⟨D,p⟩:=x_ (ndT d);rw[l]at k C;rw[p]at k C u;rw[l];replace k:=zy k;replace l:=zy l;replace p:=zy p;replace a:=zy a;replace h:=zy h;replace j:=zy j;go_wp2_with (go_at_call 35;apply u.o.mono;rintro e h ⟨rfl,h⟩;replace h:=zy h);go_roundg (ds.length+1-(q+1));case measure=>omega
   case rel=>exact⟨q+1,by rw[k.o];simp;omega,by simp,r,l_,(a.o.trans A u_).trans h u_⟩
  .have F:¬((q:Int)<(ds.length:Int)):=M_;rw[a6_ M_];replace a:=zy a;go_wp2;try go_ret
   rw[E.o,G.o];exact⟨rfl,a⟩
def oN:∀m,QD m:=by
 intro m;induction m with
 |zero=>intro d h;obtain⟨_,_,_,_,_⟩:=d;unfold ndT at h;omega
 |succ m ih=>
  intro d hm hb w P v a;cases a with
  |flat h=>
   cases h with
   |nothing=>exact fi D_ y8_ w
   |truth b=>exact fi D_ y8_ w
   |num c n hc h0 h1=>exact fi D_ y8_ w
   |text tx h=>exact fi D_ y8_ w
   |bytes tx h=>exact fi D_ y8_ w
   |sym n l h=>exact fi D_ y8_ w
  |branch n h hd=>
   unfold ndT at hm hb;simp only[zM,bs_]at hm hb;exact Xo ih M_ M_ hd
  |row Y hc ho hP hd=>
   unfold ndT at hm hb;obtain⟨la,lc,rfl⟩:=zh ho;rcases hc with⟨rfl,rfl⟩|⟨rfl,rfl⟩
   .exact KL ih hm hb ho hd
   .exact KC ih hm hb ho hd
  |map Y hl hk ho hP hd=>
   unfold ndT at hm hb;obtain⟨la,lc,rfl⟩:=zh ho;exact Fo ih (K:=λi=>_) hm hb ho hd
def ye(w:Aw)(B:Nat)(v:Ax)(b:BA):Prop:=w.ownsRow B 5 1 v b.size (Lib.strCells b)
def iG:Tryz.prog.underlying 94=some (.slice 5):=K_
def Wp:(Tryz.prog.info? 5).map (λi=>(i.zero,i.size,i.bytes))=some (some (.int .u8 0),1,1):=K_
def vw(a b:BA):Lib.strCells (a++b)=Lib.strCells a++Lib.strCells b:=by
 unfold Lib.strCells;simp
def pN(h:c<256):Lib.strCells (bts [c])=[U_ c]:=by
 unfold Lib.strCells bts;simp;omega
def ye.own{w:Aw}{B:Nat}{v:Ax}(h:ye w B v b)(e:v.ownBlock=some g):B<=g/\g<w.heap.size:=World.ownsRow.lt h g e
section
variable {w W w5:Aw} {B z f:Nat} {T acc:BA} {v v0 v5:Ax} {o:Cj} {x:Int}
end
def bm:∀{ds:List DT},(∀(i:Nat) (d:DT),ds[i]?=some d->okD d)->qo ds
 | [],_=>by simp[qo]
 |d::r,h=>by
  unfold qo;exact⟨h 0 d rfl,bm (λi e he=>h (i+1) e he)⟩
def kP.ok{w:Aw}{P:Au}{d:DT}{v:Ax}(h:kP w P d v):okD d:=by
 induction h with
 |flat h=>
  cases h with
  |nothing=>simp[okD,qo,dX];exact aj_ _
  |truth b=>cases b<;>simp[okD,qo,dX]<;>exact aj_ _
  |num c n hc h0 h1=>simp only[okD,qo,dX];refine⟨⟨h0,h1,M_⟩,λe=>M_,by show(0:Nat)<=_;omega,by simp,λe=>M_,trivial⟩
  |text tx h=>simp[okD,qo,dX,h]
  |bytes tx h=>simp[okD,qo,dX,h]
  |sym n l h=>simp only[okD,qo,dX];refine⟨⟨M_,M_,by simp⟩,λe=>M_,by show(0:Nat)<=_;omega,by simp,λe=>M_,trivial⟩
 |branch n h hd ih=>simp only[okD,qo,dX];refine⟨⟨M_,M_,by simp⟩,λe=>M_,by show(0:Nat)<=_;omega,by simp,λe=>M_,ih,trivial⟩
 |row Y hc ho hP hd ih=>simp only[okD,dX];refine⟨⟨M_,M_,M_⟩,λe=>M_,by show(0:Nat)<=_;omega,by simp,λe=>M_,bm ih⟩
 |map Y hl hk ho hP hd ih=>simp only[okD,dX];refine⟨⟨M_,M_,by simp⟩,λe=>M_,by show(0:Nat)<=_;omega,hk,λ_=>hl,bm ih⟩
def ye.fr{w w':Aw}{B:Nat}{v:Ax}{S:Au}(h:ye w B v b)(e:Fr w w' S)(a:∀g,v.ownBlock=some g->¬S g):ye w' B v b:=zk h e a
def Qa{w:Aw}{B:Nat}{v:Ax}(h:ye w B v b):(convert 94 9 v).run prog w=.ok (.string b) w:=by
 obtain⟨xs,a⟩:∃xs:List Int,xs=b.data.toList.map λx=>((x.toNat:Nat):Int):=⟨_,rfl⟩;have hb:strOfNums xs=b:=by
  apply bx_;unfold strOfNums;subst a;apply Array.toList_inj.1;rw[List.map_map];show b.data.toList.map _=_;conv=>rhs;rw[<- List.map_id b.data.toList]
  apply List.map_congr_left;intro x _;show UInt8.ofNat ((x.toNat:Int).toNat)=x;rw[bb_,UInt8.ofNat_toNat]
 have hl:xs.length=b.size:=by subst a;rw[bm_];rfl
 have h0:=h;rcases h.2 with⟨rfl,e⟩|⟨g,j,k,rfl,_⟩
 .have:=run_convert_bytes_nil (P:=prog) w 94 5 underlying94 underlying5 0 0 9 underlying9;have hz:b.data.size=0:=e;have he:b=ByteArray.empty:=bx_ (Array.eq_empty_of_size_eq_zero hz);rw[he];exact this
 .have:=run_convert_bytes_arg (P:=prog) w 94 5 underlying94 underlying5 g 0 b.size j xs hl (λi hi=>by
   rw[bp_]
   refine ze h0 rfl ?_
   unfold Lib.strCells
   subst a
   rw[az_,a1_,a1_,ak_ (show i<b.data.toList.length from hi)]
   rfl) 9 underlying9
  rw[hb]at this;exact this
inductive DaV (env:Ay) (w:Aw) (P:Au):DT->PT->Value->Prop
 |flat {d:DT} {t:PT} {v:Value} (h:qb d v) (hs:∀n l:Nat,v=.iface 149 (.agg #[U_ l,I_ n])->fI env t n=l/\l<256):DaV env w P d t v
 |branch (n:Nat) (h:n<=4000) {d:DT} {t:PT} {v:Value} (hd:DaV env w P d (zN env t n 0) v):DaV env w P (.mk 40 (n:Int) noB [] [d]) t (.iface 135 (.agg #[I_ n,v]))
 |row {c:Nat} {T:TypeId} {ds:List DT} {t:PT} {lv:Value} (Y:Nat->Value) (hc:(c=91/\T=129)\/(c=114/\T=136)) (ho:w.ownsRow 0 69 1 lv ds.length ((List.range ds.length).flatMap λi=>[Y i])) (hP:∀g,lv.ownBlock=some g->P g)
  (hd:∀i d,ds[i]?=some d->DaV env w P d (zN env t 0 i) (Y i)):DaV env w P (.mk c 0 noB [] ds) t (.iface T lv)
 |map {ks:List BA} {ds:List DT} {t:PT} {lv:Value} (Y:Nat->Value) (hl:ks.length=ds.length) (hk:∀k∈ks,k.size<=4000) (ho:w.ownsRow 0 133 2 lv ds.length ((List.range ds.length).flatMap λi=>[.string (ks.getD i noB),Y i])) (hP:∀g,lv.ownBlock=some g->P g)
  (hd:∀i d,ds[i]?=some d->DaV env w P d (zN env t 0 i) (Y i)):DaV env w P (.mk 123 0 noB ks ds) t (.iface 131 lv)
section
variable {env:Ay} {w w':Aw} {P Q S:Au} {d:DT} {t:PT} {v:Ax}
def DaV.mono(h:DaV env w P d t v)(a:∀g,g<w.heap.size->P g->Q g):DaV env w Q d t v:=by
 induction h with
 |flat h hs=>exact .flat h hs
 |branch n h hd ih=>exact .branch n h ih
 |row Y hc ho hP hd ih=>exact .row Y hc ho (λg e=>a g (ho.lt g e).2 (hP g e)) ih
 |map Y hl hk ho hP hd ih=>exact .map Y hl hk ho (λg e=>a g (ho.lt g e).2 (hP g e)) ih
def DaV.fr(h:DaV env w P d t v)(j:Fr w w' S)(a:∀g,P g->¬S g):DaV env w' P d t v:=by
 induction h with
 |flat h hs=>exact .flat h hs
 |branch n h hd ih=>exact .branch n h ih
 |row Y hc ho hP hd ih=>exact .row Y hc (zk ho j (λg e=>a g (hP g e))) hP ih
 |map Y hl hk ho hP hd ih=>exact .map Y hl hk (zk ho j (λg e=>a g (hP g e))) hP ih
def DaV.dat(h:DaV env w P d t v):kP w P d v:=by
 induction h with
 |flat h hs=>exact .flat h
 |branch n h hd ih=>exact .branch n h ih
 |row Y hc ho hP hd ih=>exact .row Y hc ho hP ih
 |map Y hl hk ho hP hd ih=>exact .map Y hl hk ho hP ih
def DaV.iface(h:DaV env w P d t v):∃T x,v=.iface T x:=h.dat.iface
def DaV.plain{T:As}{x:Ax}(h:qb d (.iface T x))(a:T≠149):DaV env w P d t (.iface T x):=.flat h (λn l e=>by cases e;exact absurd rfl a)
def J_:=@DaV.plain
end
def jG(env:Ay)(w:Aw)(B:Nat)(P:Au)(t:PT)(lv:Ax)(ds:Ak):Prop:=
 ∃Y:Nat->Value,w.ownsRow B 69 1 lv ds.length ((List.range ds.length).flatMap λi=>[Y i])/\∀i d,ds[i]?=some d->DaV env w P d (zN env t 0 i) (Y i)
def bG{α:Type}{l:List α}{a x:α}{i:Nat}(h:(l++[a])[i]?=some x):(i<l.length/\l[i]?=some x)\/(i=l.length/\x=a):=by
 by_cases hi:i<l.length
 .rw[ay_ hi]at h;exact .inl ⟨hi,h⟩
 .rw[ax_ M_]at h;have h0:i-l.length=0:=by
   rcases b6_ (i-l.length) with e|e
   .exact e
   .rw[bq_ x4_]at h;cases h
  rw[h0]at h;simp only[aa_,ae_]at h;exact .inr ⟨M_,h.symm⟩
section
variable {env:Ay} {w w':Aw} {B:Nat} {P Q S:Au} {t:PT} {lv:Ax} {ds:Ak}
def jG.nil(env:Ay)(w:Aw)(B:Nat)(P:Au)(t:PT):jG env w B P t (L_) []:=⟨λ_=>.nilIface,World.ownsRow_nil _ _ _ _,λi d h=>by simp at h⟩
def jG.fr(h:jG env w B P t lv ds)(j:Fr w w' S)(k:∀g,P g->¬S g)(l:∀g,lv.ownBlock=some g->¬S g):jG env w' B P t lv ds:=by
 obtain⟨Y,a,b⟩:=h;exact⟨Y,zk a j l,λi d e=>(b i d e).fr j k⟩
def jG.row(h:jG env w B P t lv ds):∃ys,w.ownsRow B 69 1 lv ds.length ys:=by
 obtain⟨Y,a,_⟩:=h;exact⟨_,a⟩
def jG.grow{w1 a:Aw}{lv v5 v:Ax}{d:DT}(k:∀i d,ds[i]?=some d->DaV env w1 (λg=>B<=g/\lv.ownBlock≠some g) d (zN env t 0 i) (Y i))(hd:DaV env w1 (λg=>B<=g/\lv.ownBlock≠some g) d (zN env t 0 ds.length) v)(l:Fr w1 a (λg=>lv.ownBlock=some g\/g=c))(hc:c<B)(hl:v5.ownBlock=lv.ownBlock\/∃h,v5.ownBlock=some h/\w1.heap.size<=h)(ho:a.ownsRow B 69 1 v5 (ds.length+1) (((List.range ds.length).flatMap λi=>[Y i])++[v])):jG env a B (λg=>B<=g/\v5.ownBlock≠some g) t v5 (ds++[d]):=by
 have up:∀{d u v},DaV env w1 (λg=>B<=g/\lv.ownBlock≠some g) d u v->DaV env a (λg=>B<=g/\v5.ownBlock≠some g) d u v:=λh=>by
  have h1:DaV env w1 (λg=>(B<=g/\lv.ownBlock≠some g)/\g<w1.heap.size) _ _ _:=h.mono (λg h1 j=>⟨j,h1⟩);refine(h1.fr l (λg hg e=>?_)).mono (λg _ hg=>⟨hg.1.1,λe=>?_⟩)
  .rcases e with e|e
   .exact hg.1.2 e
   .have:=hg.1.1;omega
  .rcases hl with h|⟨q,h,p⟩
   .exact hg.1.2 (h▸e)
   .rw[h]at e;have:=hg.2;simp only[ae_]at e;omega
 refine⟨λi=>if i<ds.length then Y i else v,?_,λi e he=>?_⟩
 .rw[ah_,ap_,bt_,bj_,yo ds.length _ (λi=>[Y i]) (λi hi=>by simp[hi])];simpa using ho
 .rcases bG he with⟨hi,he⟩|⟨rfl,rfl⟩
  .simp only[hi,if_true];exact up (k i e he)
  .simp only[b2_,if_false];exact up hd
def jG.dat(h:jG env w B P t lv ds)(hP:∀g,g<w.heap.size->P g->Q g)(j:∀g,lv.ownBlock=some g->Q g){T:As}(hc:(c=91/\T=129)\/(c=114/\T=136)):DaV env w Q (.mk c 0 noB [] ds) t (.iface T lv):=by
 obtain⟨Y,a,b⟩:=h;exact .row Y hc (yP a) j (λi d e=>(b i d e).mono hP)
end
def qJ(env:Ay)(w:Aw)(P:Au)(t:PT)(es:Ae)(ys:Az):Prop:=
 ∃Y:Nat->Value,(ys=(List.range es.length).flatMap λi=>[.string ((es.map Prod.fst).getD i noB),Y i])/\(∀i e,es[i]?=some e->DaV env w P e.2 (zN env t 0 i) (Y i))/\∀e∈es,e.1.size<=4000
section
variable {env:Ay} {w w':Aw} {B:Nat} {P Q S:Au} {t:PT} {es:Ae} {ys:Az}
def qJ.nil(env:Ay)(w:Aw)(P:Au)(t:PT):qJ env w P t [] []:=⟨λ_=>.nilIface,rfl,λi d h=>by simp at h,λe h=>by simp at h⟩
def qJ.fr(h:qJ env w P t es ys)(k:Fr w w' S)(j:∀g,P g->¬S g):qJ env w' P t es ys:=by
 obtain⟨Y,a,b,c⟩:=h;exact⟨Y,a,λi d e=>(b i d e).fr k j,c⟩
def qJ.grow{w1 j:Aw}{lv v5 v:Ax}{key:BA}{d:DT}(h:qJ env w1 (λg=>B<=g/\lv.ownBlock≠some g) t es ys)(hd:DaV env w1 (λg=>B<=g/\lv.ownBlock≠some g) d (zN env t 0 es.length) v)(hk:key.size<=4000)(r:Fr w1 j (λg=>lv.ownBlock=some g\/g=c))(hc:c<B)(hl:v5.ownBlock=lv.ownBlock\/∃h,v5.ownBlock=some h/\w1.heap.size<=h):qJ env j (λg=>B<=g/\v5.ownBlock≠some g) t (es++[(key,d)]) (ys++[.string key,v]):=by
 obtain⟨Y,a,b,k⟩:=h;have up:∀{d u v},DaV env w1 (λg=>B<=g/\lv.ownBlock≠some g) d u v->DaV env j (λg=>B<=g/\v5.ownBlock≠some g) d u v:=λh=>by
  have h1:DaV env w1 (λg=>(B<=g/\lv.ownBlock≠some g)/\g<w1.heap.size) _ _ _:=h.mono (λg h1 l=>⟨l,h1⟩);refine(h1.fr r (λg hg e=>?_)).mono (λg _ hg=>⟨hg.1.1,λe=>?_⟩)
  .rcases e with e|e
   .exact hg.1.2 e
   .have:=hg.1.1;omega
  .rcases hl with h|⟨q,h,p⟩
   .exact hg.1.2 (h▸e)
   .rw[h]at e;have:=hg.2;simp only[ae_]at e;omega
 refine⟨λi=>if i<es.length then Y i else v,?_,λi e he=>?_,λe he=>?_⟩
 .have p:=yo es.length (λi=>[Value.string (((es++[(key,d)]).map Prod.fst).getD i noB),if i<es.length then Y i else v]) (λi=>[Value.string ((es.map Prod.fst).getD i noB),Y i]) (λi hi=>by
   simp only[bh_,az_]
   rw[ay_ (by simpa using hi),i_ hi])
  rw[a,ah_,ap_,bt_,bj_,p];simp[az_]
 .rcases bG he with⟨hi,he⟩|⟨rfl,rfl⟩
  .simp only[hi,if_true];exact up (b i e he)
  .simp only[b2_,if_false];exact up hd
 .rcases bn_.1 he with h|h
  .exact k e h
  .simp only[ba_]at h;subst h;exact hk
def qJ.dat{lv:Ax}(h:qJ env w P t es ys)(ho:w.ownsRow B 133 2 lv es.length ys)(hP:∀g,g<w.heap.size->P g->Q g)(j:∀g,lv.ownBlock=some g->Q g):DaV env w Q (.mk 123 0 noB (es.map Prod.fst) (es.map Prod.snd)) t (.iface 131 lv):=by
 obtain⟨Y,a,b,k⟩:=h;subst a;refine .map Y x8_ (λx hx=>?_) (by rw[bm_];exact yP ho) j (λi d e=>?_)
 .obtain⟨e,he,rfl⟩:=bl_.1 hx;exact k e he
 .rw[a1_]at e;obtain⟨q,l,rfl⟩:=b9_.1 e;exact(b i q l).mono hP
end
def yt(w0 w:Aw):Prop:=∀g,g<w0.heap.size->w.heap[g]?=w0.heap[g]?
def yt.refl(w:Aw):yt w w:=λ_ _=>rfl
def yt.fr{w0 w w':Aw}{S:Au}(h:yt w0 w)(j:Fr w w' S)(hk:w0.heap.size<=w.heap.size)(a:∀g,S g->w0.heap.size<=g):yt w0 w':=λg hg=>
 (j.block g M_ (λe=>by have:=a g e;omega)).trans (h g hg)
def yt.err{w0 w:Aw}{e:As}{j:Ax}(h:yt w0 w)(he:vt g w0 e j):vt g w e j:=
 (World.cell?_of_block (a:=⟨g,0,none⟩) (h g (World.block_lt_of_cell? w0 ⟨g,0,none⟩ he))).trans he
def yt.var{w0 w:Aw}(h:yt w0 w){n:String}{cs:Ci}(a:w0.var? prog n=some cs):w.var? prog n=some cs:=by
 unfold World.var? at a⊢;cases hg:Tryz.prog.globalNamed n with
 |none=>rw[hg]at a;simp at a
 |some g=>
  rw[hg]at a;simp only[Option.bind_some]at a⊢;by_cases hl:g<w0.heap.size
  .rw[h g hl];exact a
  .rw[Array.getElem?_eq_none M_]at a;simp at a
def Fr.grow(w:Aw)(k:Nat)(os:Array Obj):Fr w (Sort.grow (w.drewN k) os) N_:=by
 refine⟨rfl,rfl,rfl,?_,λg hg _=>?_⟩
 .show w.heap.size<=(w.heap++os).size;simp
 .show(w.heap++os)[g]?=w.heap[g]?;rw[Array.getElem?_append_left hg]
def yV(w0:Aw):Prop:=∀(W:World),yt w0 W->∀n:Nat,n<=4000->Calls prog 156 #[I_ n] W λe w'=>∃tx,e=.returned (.string tx)/\tx.size<=100000/\Fr W w' N_
def yJ(w0:Aw):Prop:=∀(W:World),yt w0 W->∀k:BA,k.size<=4000->Calls prog 157 #[.string k] W λe w'=>∃tx,e=.returned (.string tx)/\tx.size<=100000/\Fr W w' N_
def Zz:∀(k n:Nat),n<10 ^ (k+1)->Lib.nDigits n<=k+1:=by
 intro k;induction k with
 |zero=>intro n h;rw[Lib.nDigits,dif_pos (by simpa using h)];omega
 |succ k ih=>
  intro n h;rw[Lib.nDigits];split
  .omega
  .have:=ih (n / 10) (by rw[Nat.div_lt_iff_lt_mul D_];rw[Nat.pow_succ]at h;exact h);omega
def Wf{w0:Aw}(h:Lib.TabIs prog w0 "internal/strconv.uint64pow10" .u64 Lib.pow10Tab):yV w0:=by
 intro W a n hn
 have h1:Lib.TabIs prog W "internal/strconv.uint64pow10" .u64 Lib.pow10Tab:=a.var h
 apply(Tryz.strconv_Itoa (n:Int) M_ M_ W h1).mono;rintro e w' ⟨rfl,k,os,rfl⟩;refine⟨_,rfl,?_,Fr.grow W k os⟩;show(Lib.itoa (n:Int)).toArray.size<=100000;rw[List.size_toArray];unfold Lib.itoa;rw[n_ M_,Lib.decDigits_length];have:=Zz 3 (Int.toNat (n:Int)) x4_;omega
def vj(w:Aw)(cv:Ax)(e:Ah)(w':Aw):Prop:=
 ∃g tx,e=.returned (.iface 291 (P_ g))/\w.heap.size<=g/\Blk w' g [.string tx,cv] 293/\Fr w w' N_
def cq18_{p:Prop}(h:p:=by
 refine hq_ λr l=>?_;(first|(have:=cc2;have j:=zy (H w hG k hn))|(have j:=zy (H w hG n hn)));go_in;go_wp2_with (first|(go_at_call 156;apply j.o.mono;rintro e w1 ⟨tx,rfl,q,a⟩;replace a:=zy a)|(go_at_call 157;apply j.o.mono;rintro e w1 ⟨tx,rfl,q,a⟩;replace a:=zy a));try go_ret
 rw[l.o];exact⟨w1.heap.size,_,rfl,a.o.size,B_ w1 _ _,a.o.alloc _⟩):p:=h
def pm{w0 w:Aw}(H:yV w0)(hG:yt w0 w)(hn:n<=4000):Calls prog 128 #[I_ n,.iface cT cx] w (vj w (.iface cT cx)):=by
 exact cq18_
def wM{w0 w:Aw}(H:yV w0)(hG:yt w0 w)(hn:n<=4000):Calls prog 131 #[I_ n,.iface cT cx] w (vj w (.iface cT cx)):=by
 have cc1:=Nat
 exact cq18_
def kE{w0 w:Aw}{k:BA}(H:yJ w0)(hG:yt w0 w)(hn:k.size<=4000):Calls prog 129 #[.string k,.iface cT cx] w (vj w (.iface cT cx)):=by
 have cc2:=Nat
 exact cq18_
def gW{w:Aw}{l:Nat}(hl:zt l=true):Calls prog 132 #[U_ l,.iface cT cx] w (vj w (.iface cT cx)):=by
 refine hq_ λh a=>?_;obtain⟨k,hk,e⟩:=wa hl;have hc:l=97\/l=98\/l=99\/l=100\/l=101\/l=102\/l=103\/l=104\/l=105\/l=106\/l=107\/l=108\/l=109\/l=110\/l=111\/l=112\/l=113\/l=114\/l=115\/l=116\/l=117\/l=118\/l=119\/l=120\/l=121\/l=122:=M_;clear hl hk e;rcases hc with rfl|rfl|rfl|rfl|rfl|rfl|rfl|rfl|rfl|rfl|rfl|rfl|rfl|rfl|rfl|rfl|rfl|rfl|rfl|rfl|rfl|rfl|rfl|rfl|rfl|rfl;all_goals
  go_in;go_wp2;try go_ret
  rw[a.o];exact⟨w.heap.size,_,rfl,l_,B_ w _ _,(A_ w _).alloc _⟩
inductive jp (w:Aw) (lo:Nat) (nt:As) (nx:Ax):Value->Prop
 |base:jp w lo nt nx (.iface nt nx)
 |within (g:Nat) (hg:lo<=g) (tx:BA) {v:Value} (hb:Blk w g [.string tx,v] 293) (h:jp w lo nt nx v):jp w lo nt nx (.iface 291 (P_ g))
def jp.fr{w w':Aw}{lo:Nat}{nt:As}{nx v:Ax}{S:Au}(h:jp w lo nt nx v)(e:Fr w w' S)(a:∀g,lo<=g->¬S g):jp w' lo nt nx v:=by
 induction h with
 |base=>exact .base
 |within g hg tx hb h ih=>exact .within g hg tx (e.bl hb (a g hg)) ih
def jp.ls{w:Aw}{lo a:Nat}{nt:As}{nx v:Ax}(h:jp w lo nt nx v)(hl:a<=lo):jp w a nt nx v:=by
 induction h with
 |base=>exact .base
 |within g hg tx hb h ih=>exact .within g (ai_ hl hg) tx hb ih
def jp.iface{w:Aw}{lo:Nat}{nt:As}{nx v:Ax}(h:jp w lo nt nx v):∃T x,v=.iface T x:=by
 cases h<;>exact⟨_,_,rfl⟩
def jp.wrap{w w':Aw}{lo:Nat}{nt:As}{nx a v:Ax}(h:jp w lo nt nx a){e:Ah}(k:vj w a e w')(hl:lo<=w.heap.size)(he:e=.returned v):jp w' lo nt nx v:=by
 obtain⟨g,tx,rfl,h1,a,j⟩:=k;cases he;exact .within g (ai_ hl h1) tx a (h.fr j u_)
structure NC(w0:Aw)(P:Au)(ss:BA)(ds:Ar)(sv rv:Ax)(xs:Az)(s:BA)(nt:As)(nx:Ax)(pl:Ap)(br i:Nat)(W:Aw):Prop where
 R:yf W br sv rv s i (!pl)
 D:xf W P ss ds sv xs
 G:yt w0 W
 E:vt 3 w0 nt nx
 Pbr:∀g,P g->g<br
 brG:w0.heap.size<=br
 hs:s.size<=4000
 il:i<=s.size
section
variable {w0 W W':Aw} {P:Au} {ss:BA} {ds:Ar} {sv rv:Ax} {xs:Az} {s:BA} {nt:As} {nx:Ax} {pl:Ap} {br i i':Nat}
def NC.brP(M:NC w0 P ss ds sv rv xs s nt nx pl br i W):¬P br:=λh=>b2_ _ (M.Pbr br h)
def NC.lt(M:NC w0 P ss ds sv rv xs s nt nx pl br i W):br<W.heap.size:=Blk.lt M.R
def NC.call(M:NC w0 P ss ds sv rv xs s nt nx pl br i W)(h:yf W' br sv rv s i' (!pl))(a:Fr W W' (· = br))(hi:i'<=s.size):NC w0 P ss ds sv rv xs s nt nx pl br i' W':=by
 have h1:=M.lt;have j:=M.brG;exact⟨h,M.D.fr a (λg hg e=>M.brP (e▸hg)),M.G.fr a M_ (λg e=>e▸M.brG),M.E,M.Pbr,M.brG,M.hs,hi⟩
def NC.new(M:NC w0 P ss ds sv rv xs s nt nx pl br i W)(a:Fr W W' N_):NC w0 P ss ds sv rv xs s nt nx pl br i W':=M.call (a.bl M.R id) (a.mono v_) M.il
def NC.si(M:NC w0 P ss ds sv rv xs s nt nx pl br i W)(a:zw W W'):NC w0 P ss ds sv rv xs s nt nx pl br i W':=M.new ((A_ W _).si a)
def NC.e(M:NC w0 P ss ds sv rv xs s nt nx pl br i W):W.cell? ⟨3,0,none⟩=some (.iface nt nx):=M.G.err M.E
end
def yp(env:Ay)(t:PT)(w:Aw)(sv rv:Ax)(s:BA)(nt:As)(nx:Ax)(pl:Ap)(br:Nat)(res:Cf)(e:Ah)(w':Aw):Prop:=
 ∃v ev,e=.returned (.tuple #[v,ev])/\Fr w w' (· = br)/\
 match res with
 |some (d,j)=>ev=.nilIface/\DaV env w' (λg=>w.heap.size<=g) d t v/\yf w' br sv rv s j (!pl)/\j<=s.size
 |none=>v=.nilIface/\jp w' w.heap.size nt nx ev/\∃j,yf w' br sv rv s j (!pl)/\j<=s.size
section
variable {w0 w:Aw} {P:Au} {ss:BA} {ds:Ar} {sv rv:Ax} {xs:Az} {s:BA} {nt:As} {nx:Ax} {pl:Ap} {br i:Nat}
def eC{env:Ay}{t:PT}{W:Aw}{j:Nat}(a:Fr w W (· = br))(h:yf W br sv rv s j (!pl))(e:j<=s.size):yp env t w sv rv s nt nx pl br none (.returned (.tuple #[.nilIface,.iface nt nx])) W:=⟨.nilIface,_,rfl,a,rfl,.base,j,h,e⟩
def nok{env:Ay}{t:PT}{W:Aw}{j:Nat}{d:DT}{v:Ax}(a:DaV env W (λg=>w.heap.size<=g) d t v)(e:Fr w W (· = br))(h:yf W br sv rv s j (!pl))(k:j<=s.size):yp env t w sv rv s nt nx pl br (some (d,j)) (.returned (.tuple #[v,.nilIface])) W:=⟨v,_,rfl,e,rfl,a,h,k⟩
end
def uP{s:BA}{i:Nat}(h:i<=s.size):i<=zX s i/\zX s i<=s.size:=⟨(xz 97 122 s _ i l_).1,(xz 97 122 s _ i l_).2 h⟩
def cH(s:BA)(i:Nat):Option (DT×Nat):=if bt s i=84 then some (.mk 116 1 noB [] [],i+1) else if bt s i=70 then some (.mk 116 0 noB [] [],i+1) else none
def oR{w0 w:Aw}{P:Au}{ss:BA}{ds:Ar}{sv rv:Ax}{xs:Az}{s:BA}{nt:As}{nx:Ax}{pl:Ap}{br i:Nat}{t:PT}(M:NC w0 P ss ds sv rv xs s nt nx pl br i w):Calls prog 167 #[P_ br] w (yp (zx ds) t w sv rv s nt nx pl br (cH s i)):=by
 refine hq_ λG C=>?_;have r:s.size<=4000:=ya_
 have F:=zy (A_ w (λg=>g=br));have j:=M.il;replace M:=zy M;by_cases l:bt s i=84
 .have q:i+1<=s.size:=zr (s:=s) (i:=i) M_;have hr:=zy (show cH s i=some (.mk 116 1 noB [] [],i+1) by unfold cH;rw[i_ l]);have hb:=zy l;go_in;go_wp2_with (go_at_call 166;apply(xy 84 M.o.R r j D_ D_ hb).mono;rintro e D ⟨rfl,a,h⟩;have k:=zy (M.o.call h a q);have p:=zy (F.o.trans a u_));try go_ret
  rw[C.o,hr.o];exact nok (J_ (.truth true) D_) p k.o.R q
 .by_cases y:bt s i=70
  .have q:i+1<=s.size:=zr (s:=s) (i:=i) M_;have hr:=zy (show cH s i=some (.mk 116 0 noB [] [],i+1) by unfold cH;rw[n_ l,i_ y]);have hn:=zy l;have hb:=zy y;go_in;go_wp2_with (first
    |(go_at_call 166;apply(xF 84 M.o.R r j D_ D_ hn).mono;rintro e D ⟨rfl,a,h⟩;have k:=zy (M.o.call h a j);have p:=zy (F.o.trans a u_))
    |(go_at_call 166;apply(xy 70 k.o.R r j D_ D_ hb).mono;rintro e E ⟨rfl,a,h⟩;have u:=zy (k.o.call h a q);have A:=zy (p.o.trans a u_)))
   try go_ret
   rw[C.o,hr.o];exact nok (J_ (.truth false) D_) A u.o.R q
  .have hr:=zy (show cH s i=none by unfold cH;rw[n_ l,n_ y]);have hn:=zy l;have hb:=zy y;go_in;go_wp2_with (first
    |(go_at_call 166;apply(xF 84 M.o.R r j D_ D_ hn).mono;rintro e D ⟨rfl,a,h⟩;have k:=zy (M.o.call h a j);have p:=zy (F.o.trans a u_))
    |(go_at_call 166;apply(xF 70 k.o.R r j D_ D_ hb).mono;rintro e E ⟨rfl,a,h⟩;have u:=zy (k.o.call h a j);have A:=zy (p.o.trans a u_)))
   have a:=u.o.e;go_quiet (fail);go_wp2;try go_ret
   rw[C.o,hr.o];exact eC (A.o.si (zw.drewN _ _)) (u.o.R.si (zw.drewN _ _)) j
end Go.Proofs.YtahhhgbojlkjnaaGreatDoor
