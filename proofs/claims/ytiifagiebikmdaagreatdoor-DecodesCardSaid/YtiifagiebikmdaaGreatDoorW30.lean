import Derived.Test.YtiifagiebikmdaaGreatDoorW28
import Derived.Test.YtiifagiebikmdaaGreatDoorW26
import Derived.Test.YtiifagiebikmdaaGreatDoorA00
set_option maxHeartbeats 16000000
set_option maxRecDepth 100000
set_option linter.unusedSimpArgs false
open Go.Proofs.Tryz
namespace Go.Proofs.YtiifagiebikmdaaGreatDoor
open Go.RowKit
theorem Fr.ofBelow {w w':World}(h:Below w.heap.size w w'):Fr w w' (λ _=>False):=⟨h.os,h.tape,h.output,h.size,λ k hk _=>h.block k hk⟩
theorem Fr.bytes (w:World) (e:TypeId) (t:BA):Fr w (Lib.bytesWorld w e t) (λ _=>False):=
 ⟨rfl,rfl,rfl,by rw[Lib.bytesWorld_size];omega,λ k hk _=>Lib.bytesWorld_at_old w e t k hk⟩
def zbl (w0:World):Prop:=∀ (W:World),xd_ w0 W->∀ t:BA,t.size<=4000->Calls prog 164 #[.string t,.int .i64 10,.int .i64 64] W (zze W t)
theorem zls {w0:World}{b c:TypeId}{f g:Value}(h1:w0.var? prog "strconv.ErrSyntax" = some #[.iface b f]) (k:w0.var? prog "strconv.ErrRange" = some #[.iface c g]):zbl w0:=by
 intro W d t m
 cases a:Lib.parseIntB 64 t.data.toList with
 | ok v=>
  refine(Tryz.strconv_ParseInt_10_at64_ok t (by omega) v a W).mono ?_;rintro e w' ⟨rfl,l⟩;refine⟨?_,.inl ⟨v,a,rfl⟩⟩
  rcases l with rfl|⟨n,rfl⟩
  ·exact Fr.refl _ _
  ·exact Fr.bytes _ _ _
 | range=>
  refine(Tryz.strconv_ParseInt_10_at64_range_var t (by omega) a c g W (d.var k)).mono ?_;rintro e w' ⟨j,rfl,_,_,hb⟩;exact⟨Fr.ofBelow hb,.inr ⟨λ v h=>(by rw[a] at h;cases h),_,_,_,rfl⟩⟩
 | _=>
  refine(Tryz.strconv_ParseInt_10_at64_syntax_var t (by omega) a b f W (d.var h1)).mono ?_;rintro e w' ⟨j,rfl,_,_,hb⟩;exact⟨Fr.ofBelow hb,.inr ⟨λ v h=>(by rw[a] at h;cases h),_,_,_,rfl⟩⟩
theorem xd_.cell {w0 w:World}(h:xd_ w0 w){a:Addr}{v:Value}(hc:w0.cell? a=some v):w.cell? a=some v:=
 (World.cell?_of_block (h a.block (World.block_lt_of_cell? w0 a hc))).trans hc
theorem xd_.tab {w0 w:World}(h:xd_ w0 w){g:Nat}{k:IntKind}{t:List Nat}(b:Lib.TabSlice g k t w0):Lib.TabSlice g k t w:=by
 obtain⟨R,o,c,h1,a⟩:=b;exact⟨R,o,c,h.cell h1,λ j d=>h.cell (a j d)⟩
theorem ztr {w0:World}{T:Lib.PrintTabs}(b:Lib.PrintTabsAt 17 18 19 20 T w0) (d:Lib.Utf8Tabs 15 16 w0):xs_ w0:=by
 intro W a k hk;refine(Tryz.strconv_Quote T k W (by omega) ⟨a.tab b.1,a.tab b.2.1,a.tab b.2.2.1,a.tab b.2.2.2.1,b.2.2.2.2⟩ ⟨λ c hc=>a.cell (d.1 c hc),λ i f=>⟨a.cell (d.2 i f).1,a.cell (d.2 i f).2⟩⟩).mono ?_;rintro e w' ⟨rfl,hb⟩;refine⟨_,rfl,?_,Fr.ofBelow hb⟩;rw[strOfNums_size];have:=Lib.quoteZ_length_le T k;omega
section
variable {w0 w:World} {P:Nat->Prop} {ss:BA} {ds:List PD} {sv rv:Value} {xs:List Value} {s:BA} {nt:TypeId} {nx:Value} {pl:Bool} {br i:Nat}
theorem zw6 (hP:zbl w0){kd:Nat}(M:NC w0 P ss ds sv rv xs s nt nx pl br i w) :
 Calls prog 141 #[.pointer (some ⟨br,0,none⟩),.int .i64 (loV kd),.int .i64 (hiV kd)] w λ e w'=>∃ n b,e=.returned (.tuple #[.int .i64 n,.bool b])/\Fr w w' (· = br)/\RdAt w' br sv rv s (xe_ s i) (!pl)/\(b=true↔zcy kd (jb_ s i) (y6_ s i))/\(b=true->n=numV (jb_ s i) (y6_ s i) (y6_ s i).size/\-9223372036854775808<=n/\n<=9223372036854775807):=by
 have hs:=M.hs;refine(zj5 M.R (by omega) M.il (λ W c=>hP W (M.G.fr c (by have:=M.lt;have:=M.brG;omega) (λ g e=>e▸M.brG)) _ (by rw[bb_];omega))).mono ?_;rintro e w' ⟨n,b,rfl,c,l,hb,d⟩;refine⟨n,b,rfl,c,l,hb.trans ?_,λ e=>?_⟩
 rotate_left
 ·obtain⟨h1,k⟩:=zq8 (hb.1 e).1.1 (d e);exact⟨h1.symm,k⟩
 constructor
 ·rintro⟨⟨f,j⟩,d⟩;exact(zng f j).2 d
 ·intro h;have a:=h;unfold zcy at a;exact⟨⟨a.1,a.2.1⟩,(zng a.1 a.2.1).1 h⟩
theorem zft {kd:Nat}{lo m:Int}(hP:zbl w0) (M:NC w0 P ss ds sv rv xs s nt nx pl br i w) (p:kd=105\/kd=108) (h1:loV kd=lo) (l:hiV kd=m) :
 Calls prog 116 #[.pointer (some ⟨br,0,none⟩),.int .i64 lo,.int .i64 m] w (yy_ w sv rv s nt nx pl br ((jj_ s kd i).map (λ q=>(.mk kd q.1 noB [] [],q.2)))):=by
 have g:=zw6 (kd:=kd) hP M;rw[h1,l] at g;clear h1 l hP;refine hq_ λ r k=>?_;replace g:=q_ g;have h:=(zvb (s:=s) M.il).2.2.2;replace M:=q_ M
 by_cases d:zcy kd (jb_ s i) (y6_ s i)
 ·have j:=q_ (show(jj_ s kd i).map (λ q=>(DT.mk kd q.1 noB [] [],q.2))=some (.mk kd (numV (jb_ s i) (y6_ s i) (y6_ s i).size) noB [] [],xe_ s i) by unfold jj_;rw[if_pos d];rfl);replace d:=q_ d
  go_in
  go_wp2_with (go_at_call 141;refine g.o.mono ?_;rintro e w1 ⟨n,b,rfl,c,a,hb,f⟩;obtain rfl:=hb.2 d.o;replace f:=q_ (f rfl);replace c:=q_ c;replace a:=q_ a;clear hb)
  try go_ret
  rw[k.o,j.o];exact nok (by rw[<- f.o.1];exact .flat (.num kd n p f.o.2.1 f.o.2.2)) c.o a.o h
 ·have j:=q_ (show(jj_ s kd i).map (λ q=>(DT.mk kd q.1 noB [] [],q.2))=none by unfold jj_;rw[if_neg d];rfl);replace d:=q_ d
  go_in
  go_wp2_with (go_at_call 141;refine g.o.mono ?_;rintro e w1 ⟨n,b,rfl,c,a,hb,f⟩;clear f;obtain rfl:b=false:=(by cases b;rfl;exact absurd (hb.1 rfl) d.o);have t:=(M.o.call a c h).e;replace c:=q_ c;replace a:=q_ a;clear hb)
  go_quiet (fail)
  go_wp2_with fail
  try go_ret
  rw[k.o,j.o];exact nerr (c.o.still (zd_.drewN _ _)) (a.o.still (zd_.drewN _ _)) h
end
theorem zwj {w0:World}(hP:zbl w0):zn1 w0:=λ _ _ _ _ _ _ _ _ _ _ _ _ _ M=>⟨zft (kd:=105) hP M (.inl rfl) rfl rfl,zft (kd:=108) hP M (.inr rfl) rfl rfl⟩
end Go.Proofs.YtiifagiebikmdaaGreatDoor
