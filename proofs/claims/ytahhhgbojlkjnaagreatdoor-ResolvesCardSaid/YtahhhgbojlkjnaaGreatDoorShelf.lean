import Derived.Shelf.Strconv.Quote
import Derived.Shelf.LaysM
import Derived.Shelf.Strconv.Itoa3
import Derived.Shelf.Strconv.Clone
import Derived.Shelf.LaysC
import Derived.Shelf.Strconv.ErrVarParseInt
import Derived.Shelf.Strconv.AppendIntPublic10
import Derived.Test.YtahhhgbojlkjnaaGreatDoorProg
namespace Go.Proofs
open Go.Shelf
theorem lz_ {p:Prop}(h:p:=by constructor <;> first|(intros;kernel_rfl)|(constructor <;> first|(intros;kernel_rfl)|(constructor <;> intros <;> kernel_rfl))):p:=h
def Tryz.lays177_ren:Go.Shelf.Ren:=⟨fun |177=>157|250=>177|289=>194|197=>199|323=>200|260=>203|339=>204|340=>205|242=>206|119=>207|345=>213|346=>214|278=>215|n=>n,fun |9=>9|5=>5|4=>4|3=>3|37=>94|21=>21|105=>335|46=>321|119=>349|0=>0|139=>352|138=>351|49=>353|234=>354|131=>273|51=>318|236=>356|n=>n,fun |3=>13|4=>14|20=>15|21=>16|22=>17|23=>18|24=>19|n=>n⟩
theorem Tryz.lays177:Go.Proofs.Lays.n177 Tryz.prog Tryz.lays177_ren:=lz_
open Go.RowKit in
theorem Tryz.strconv_Quote (T:Lib.PrintTabs) (s:ByteArray) (w:World) (hlen:10*s.size+12≤140737488355328) (hT:Lib.PrintTabsAt 15 16 17 18 T w) (hU:Lib.Utf8Tabs 13 14 w) :
 Calls Tryz.prog 157 #[.string s] w fun e w'=>e=.returned (.string (strOfNums (Lib.quoteZ T s)))∧Below w.heap.size w w':=Any.strconv_Quote Tryz.lays177 (by kernel_rfl) T s w hlen hT hU
def Tryz.laysM171_ren:Go.Shelf.Ren:=⟨fun |171=>156|243=>176|246=>193|283=>160|284=>161|285=>162|286=>163|129=>179|317=>178|318=>180|319=>181|320=>182|337=>195|338=>196|n=>n,fun |3=>3|9=>9|2=>2|4=>4|171=>304|0=>0|53=>283|37=>94|5=>5|173=>307|212=>317|51=>318|20=>20|213=>319|46=>321|232=>338|233=>339|n=>n,fun |17=>10|18=>11|19=>12|n=>n⟩
theorem Tryz.laysM171:Go.Proofs.LaysM.n171 Tryz.prog Tryz.laysM171_ren:=lz_
open Go.RowKit Go.Sort Go.Lib in
theorem Tryz.strconv_Itoa (n:Int) (h0 : -9223372036854775808≤n) (h1:n≤9223372036854775807) (w:World) (htab:Lib.TabIs Tryz.prog w "internal/strconv.uint64pow10" .u64 Lib.pow10Tab) :
 Calls Tryz.prog 156 #[.int .i64 n] w fun e w'=>e=.returned (.string ⟨(Lib.itoa n).toArray⟩)∧∃ k os,w'=grow (w.drewN k) os:=Any.strconv_Itoa Tryz.laysM171 n h0 h1 w htab
def Tryz.laysM316_ren:Go.Shelf.Ren:=⟨fun |316=>218|n=>n,fun |9=>9|3=>3|4=>4|37=>94|0=>0|127=>363|5=>5|n=>n,fun |n=>n⟩
theorem Tryz.laysM316:Go.Proofs.LaysM.n316 Tryz.prog Tryz.laysM316_ren:=lz_
open Go.RowKit in
theorem Tryz.stringslite_Clone (s:ByteArray) (w:World) (hlim:s.size≤281474976710656) :
 Calls Tryz.prog 218 #[.string s] w fun e w'=>e=.returned (.string s)∧Below w.heap.size w w':=Any.stringslite_Clone Tryz.laysM316 s w hlim
def Tryz.laysC174_ren:Go.Shelf.Ren:=⟨fun |174=>198|247=>201|245=>202|287=>208|279=>209|280=>210|281=>211|282=>212|321=>216|322=>217|316=>218|171=>156|205=>219|243=>176|246=>193|283=>160|284=>161|285=>162|286=>163|129=>179|317=>178|318=>180|319=>181|320=>182|337=>195|338=>196|n=>n,fun |9=>9|3=>3|2=>2|75=>45|85=>258|4=>4|167=>343|5=>5|53=>283|175=>344|46=>321|168=>346|37=>94|0=>0|210=>361|21=>21|127=>363|145=>366|143=>364|171=>304|173=>307|212=>317|51=>318|20=>20|213=>319|232=>338|233=>339|80=>240|n=>n,fun |15=>20|16=>21|17=>10|18=>11|19=>12|n=>n⟩
theorem Tryz.laysC174:Go.Proofs.LaysC.n174 Tryz.prog Tryz.laysC174_ren:=lz_
open Go.RowKit in
theorem Tryz.strconv_ParseInt_10_at64_ok (s:ByteArray) (hmax:s.size≤9223372036854775806) (v:Int) (h:Lib.parseIntB 64 s.data.toList=.ok v) (w:World) :
 Calls Tryz.prog 198 #[.string s,.int .i64 10,.int .i64 64] w fun e w'=>e=.returned (.tuple #[.int .i64 v,.nilIface])∧(w'=w∨∃ t,w'=Lib.bytesWorld w 5 t):=Any.strconv_ParseInt_10_at64_ok Tryz.laysC174 s hmax v h w
open Go.RowKit in
theorem Tryz.strconv_ParseInt_10_at64_syntax_var (s:ByteArray) (hlim:s.size≤281474976710656) (h:Lib.parseIntB 64 s.data.toList=.«syntax») (tp:TypeId) (p:Value) (w:World) (hvar:w.var? Tryz.prog "strconv.ErrSyntax" = some #[.iface tp p]) :
 Calls Tryz.prog 198 #[.string s,.int .i64 10,.int .i64 64] w fun e w'=>∃ N,e=.returned (.tuple #[.int .i64 (0),.iface 346 (.pointer (some ⟨N,0,none⟩))])∧w.heap.size≤N∧w'.heap[N]?=some (.cells #[.string ⟨#[80,97,114,115,101,73,110,116]⟩,.string s,.iface tp p] 361 (0,0))∧Below w.heap.size w w':=Any.strconv_ParseInt_10_at64_syntax_var Tryz.laysC174 s hlim h tp p w hvar
open Go.RowKit in
theorem Tryz.strconv_ParseInt_10_at64_range_var (s:ByteArray) (hlim:s.size≤281474976710656) (h:Lib.parseIntB 64 s.data.toList=.range) (tp:TypeId) (p:Value) (w:World) (hvar:w.var? Tryz.prog "strconv.ErrRange" = some #[.iface tp p]) :
 Calls Tryz.prog 198 #[.string s,.int .i64 10,.int .i64 64] w fun e w'=>∃ N,e=.returned (.tuple #[.int .i64 (Lib.intSat 64 s.data.toList),.iface 346 (.pointer (some ⟨N,0,none⟩))])∧w.heap.size≤N∧w'.heap[N]?=some (.cells #[.string ⟨#[80,97,114,115,101,73,110,116]⟩,.string s,.iface tp p] 361 (0,0))∧Below w.heap.size w w':=Any.strconv_ParseInt_10_at64_range_var Tryz.laysC174 s hlim h tp p w hvar
def Tryz.laysM176_ren:Go.Shelf.Ren:=⟨fun |176=>61|249=>98|288=>147|283=>160|284=>161|285=>162|286=>163|129=>179|317=>178|318=>180|319=>181|320=>182|337=>195|338=>196|n=>n,fun |37=>94|2=>2|3=>3|53=>283|4=>4|9=>9|171=>304|0=>0|173=>307|212=>317|51=>318|5=>5|20=>20|213=>319|46=>321|232=>338|233=>339|n=>n,fun |17=>10|18=>11|19=>12|n=>n⟩
theorem Tryz.laysM176:Go.Proofs.LaysM.n176 Tryz.prog Tryz.laysM176_ren:=lz_
open Go.RowKit Go.Sort Go.Lib in
theorem Tryz.strconv_AppendInt_10 (B n:Nat) (i:Int) (h0 : -9223372036854775808≤i) (h1:i≤9223372036854775807) (sv:Value) (xs:List Value) (w:World) (hown:w.ownsRow B 5 1 sv n xs) (hBw:B≤w.heap.size) (hlim:n+21≤140737488355328) (htab:Lib.TabBelow Tryz.prog B w "internal/strconv.uint64pow10" .u64 Lib.pow10Tab) :
 Calls Tryz.prog 61 #[sv,.int .i64 i,.int .i64 10] w fun e w'=>∃ v',e=.returned v'∧w'.ownsRow B 5 1 v' (n+(Lib.itoa i).length) (xs++Lib.byteCells (Lib.itoa i))∧Below B w w'∧Lib.OthersKept 5 none w w':=Any.strconv_AppendInt_10 Tryz.laysM176 B n i h0 h1 sv xs w hown hBw hlim htab
end Go.Proofs
