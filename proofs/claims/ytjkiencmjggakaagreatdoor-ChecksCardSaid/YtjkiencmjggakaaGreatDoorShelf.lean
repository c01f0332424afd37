import Derived.Shelf.Strconv.Quote
import Derived.Shelf.LaysM
import Derived.Shelf.Strconv.Itoa3
import Derived.Shelf.Strconv.Clone
import Derived.Shelf.LaysC
import Derived.Shelf.Strconv.ErrVarParseInt
import Derived.Shelf.Strconv.AppendIntPublic10
import Derived.Shelf.Strings.Repeat
import Derived.Test.YtjkiencmjggakaaGreatDoorProg
namespace Go.Proofs
open Go.Shelf
theorem lz_ {p:Prop}(h:p:=by constructor <;> first|(intros;kernel_rfl)|(constructor <;> first|(intros;kernel_rfl)|(constructor <;> intros <;> kernel_rfl))):p:=h
def Tryz.lays177_ren:Go.Shelf.Ren:=⟨fun |177=>200|250=>205|289=>212|197=>217|323=>218|260=>219|339=>220|340=>221|242=>222|119=>223|345=>224|346=>225|278=>226|n=>n,fun |9=>9|5=>5|4=>4|3=>3|37=>97|21=>21|105=>380|46=>263|119=>388|0=>0|139=>391|138=>390|49=>392|234=>393|131=>228|51=>294|236=>395|n=>n,fun |3=>16|4=>17|20=>18|21=>19|22=>20|23=>21|24=>22|n=>n⟩
theorem Tryz.lays177:Go.Proofs.Lays.n177 Tryz.prog Tryz.lays177_ren:=lz_
open Go.RowKit in
theorem Tryz.strconv_Quote (T:Lib.PrintTabs) (s:ByteArray) (w:World) (hlen:10*s.size+12≤140737488355328) (hT:Lib.PrintTabsAt 18 19 20 21 T w) (hU:Lib.Utf8Tabs 16 17 w) :
 Calls Tryz.prog 200 #[.string s] w fun e w'=>e=.returned (.string (strOfNums (Lib.quoteZ T s)))∧Below w.heap.size w w':=Any.strconv_Quote Tryz.lays177 (by kernel_rfl) T s w hlen hT hU
def Tryz.laysM171_ren:Go.Shelf.Ren:=⟨fun |171=>199|243=>204|246=>211|283=>158|284=>159|285=>160|286=>161|129=>178|317=>177|318=>179|319=>180|320=>181|337=>195|338=>196|n=>n,fun |3=>3|9=>9|2=>2|4=>4|171=>308|0=>0|53=>287|37=>97|5=>5|173=>311|212=>341|51=>294|20=>20|213=>342|46=>263|232=>363|233=>364|n=>n,fun |17=>10|18=>12|19=>13|n=>n⟩
theorem Tryz.laysM171:Go.Proofs.LaysM.n171 Tryz.prog Tryz.laysM171_ren:=lz_
open Go.RowKit Go.Sort Go.Lib in
theorem Tryz.strconv_Itoa (n:Int) (h0 : -9223372036854775808≤n) (h1:n≤9223372036854775807) (w:World) (htab:Lib.TabIs Tryz.prog w "internal/strconv.uint64pow10" .u64 Lib.pow10Tab) :
 Calls Tryz.prog 199 #[.int .i64 n] w fun e w'=>e=.returned (.string ⟨(Lib.itoa n).toArray⟩)∧∃ k os,w'=grow (w.drewN k) os:=Any.strconv_Itoa Tryz.laysM171 n h0 h1 w htab
def Tryz.laysM316_ren:Go.Shelf.Ren:=⟨fun |316=>215|n=>n,fun |9=>9|3=>3|4=>4|37=>97|0=>0|127=>299|5=>5|n=>n,fun |n=>n⟩
theorem Tryz.laysM316:Go.Proofs.LaysM.n316 Tryz.prog Tryz.laysM316_ren:=lz_
open Go.RowKit in
theorem Tryz.stringslite_Clone (s:ByteArray) (w:World) (hlim:s.size≤281474976710656) :
 Calls Tryz.prog 215 #[.string s] w fun e w'=>e=.returned (.string s)∧Below w.heap.size w w':=Any.stringslite_Clone Tryz.laysM316 s w hlim
def Tryz.laysC174_ren:Go.Shelf.Ren:=⟨fun |174=>198|247=>202|245=>203|287=>206|279=>207|280=>208|281=>209|282=>210|321=>213|322=>214|316=>215|171=>199|205=>216|243=>204|246=>211|283=>158|284=>159|285=>160|286=>161|129=>178|317=>177|318=>179|319=>180|320=>181|337=>195|338=>196|n=>n,fun |9=>9|3=>3|2=>2|75=>32|85=>357|4=>4|167=>367|5=>5|53=>287|175=>368|46=>263|168=>370|37=>97|0=>0|210=>378|21=>21|127=>299|145=>385|143=>383|171=>308|173=>311|212=>341|51=>294|20=>20|213=>342|232=>363|233=>364|80=>236|n=>n,fun |15=>14|16=>15|17=>10|18=>12|19=>13|n=>n⟩
theorem Tryz.laysC174:Go.Proofs.LaysC.n174 Tryz.prog Tryz.laysC174_ren:=lz_
open Go.RowKit in
theorem Tryz.strconv_ParseInt_10_at64_ok (s:ByteArray) (hmax:s.size≤9223372036854775806) (v:Int) (h:Lib.parseIntB 64 s.data.toList=.ok v) (w:World) :
 Calls Tryz.prog 198 #[.string s,.int .i64 10,.int .i64 64] w fun e w'=>e=.returned (.tuple #[.int .i64 v,.nilIface])∧(w'=w∨∃ t,w'=Lib.bytesWorld w 5 t):=Any.strconv_ParseInt_10_at64_ok Tryz.laysC174 s hmax v h w
open Go.RowKit in
theorem Tryz.strconv_ParseInt_10_at64_syntax_var (s:ByteArray) (hlim:s.size≤281474976710656) (h:Lib.parseIntB 64 s.data.toList=.«syntax») (tp:TypeId) (p:Value) (w:World) (hvar:w.var? Tryz.prog "strconv.ErrSyntax" = some #[.iface tp p]) :
 Calls Tryz.prog 198 #[.string s,.int .i64 10,.int .i64 64] w fun e w'=>∃ N,e=.returned (.tuple #[.int .i64 (0),.iface 370 (.pointer (some ⟨N,0,none⟩))])∧w.heap.size≤N∧w'.heap[N]?=some (.cells #[.string ⟨#[80,97,114,115,101,73,110,116]⟩,.string s,.iface tp p] 378 (0,0))∧Below w.heap.size w w':=Any.strconv_ParseInt_10_at64_syntax_var Tryz.laysC174 s hlim h tp p w hvar
open Go.RowKit in
theorem Tryz.strconv_ParseInt_10_at64_range_var (s:ByteArray) (hlim:s.size≤281474976710656) (h:Lib.parseIntB 64 s.data.toList=.range) (tp:TypeId) (p:Value) (w:World) (hvar:w.var? Tryz.prog "strconv.ErrRange" = some #[.iface tp p]) :
 Calls Tryz.prog 198 #[.string s,.int .i64 10,.int .i64 64] w fun e w'=>∃ N,e=.returned (.tuple #[.int .i64 (Lib.intSat 64 s.data.toList),.iface 370 (.pointer (some ⟨N,0,none⟩))])∧w.heap.size≤N∧w'.heap[N]?=some (.cells #[.string ⟨#[80,97,114,115,101,73,110,116]⟩,.string s,.iface tp p] 378 (0,0))∧Below w.heap.size w w':=Any.strconv_ParseInt_10_at64_range_var Tryz.laysC174 s hlim h tp p w hvar
def Tryz.laysM176_ren:Go.Shelf.Ren:=⟨fun |176=>55|249=>83|288=>128|283=>158|284=>159|285=>160|286=>161|129=>178|317=>177|318=>179|319=>180|320=>181|337=>195|338=>196|n=>n,fun |37=>97|2=>2|3=>3|53=>287|4=>4|9=>9|171=>308|0=>0|173=>311|212=>341|51=>294|5=>5|20=>20|213=>342|46=>263|232=>363|233=>364|n=>n,fun |17=>10|18=>12|19=>13|n=>n⟩
theorem Tryz.laysM176:Go.Proofs.LaysM.n176 Tryz.prog Tryz.laysM176_ren:=lz_
open Go.RowKit Go.Sort Go.Lib in
theorem Tryz.strconv_AppendInt_10 (B n:Nat) (i:Int) (h0 : -9223372036854775808≤i) (h1:i≤9223372036854775807) (sv:Value) (xs:List Value) (w:World) (hown:w.ownsRow B 5 1 sv n xs) (hBw:B≤w.heap.size) (hlim:n+21≤140737488355328) (htab:Lib.TabBelow Tryz.prog B w "internal/strconv.uint64pow10" .u64 Lib.pow10Tab) :
 Calls Tryz.prog 55 #[sv,.int .i64 i,.int .i64 10] w fun e w'=>∃ v',e=.returned v'∧w'.ownsRow B 5 1 v' (n+(Lib.itoa i).length) (xs++Lib.byteCells (Lib.itoa i))∧Below B w w'∧Lib.OthersKept 5 none w w':=Any.strconv_AppendInt_10 Tryz.laysM176 B n i h0 h1 sv xs w hown hBw hlim htab
def Tryz.lays105_ren:Go.Shelf.Ren:=⟨fun |105=>80|212=>115|99=>116|165=>117|166=>118|170=>119|169=>120|263=>139|264=>140|206=>141|240=>142|241=>143|276=>174|277=>175|n=>n,fun |9=>9|3=>3|4=>4|20=>20|0=>0|46=>263|109=>264|5=>5|72=>268|76=>269|51=>294|146=>295|53=>287|148=>297|70=>266|37=>97|75=>32|127=>299|164=>326|80=>236|n=>n,fun |n=>n⟩
theorem Tryz.lays105:Go.Proofs.Lays.n105 Tryz.prog Tryz.lays105_ren:=lz_
theorem Tryz.Builder_Extra_105:Builder.Extra Tryz.prog Tryz.lays105_ren:={
 sizeBuilder:=by kernel_rfl
 liesBuilder:=by kernel_rfl
 t5:=Tryz.underlying5
 a5:=Tryz.isAgg5
 z5:=Tryz.sizeOf5
 v5:=Tryz.zeroValue5
 infoByte:=by kernel_rfl
 cellsByte:=by kernel_rfl
 sizeByte:=by kernel_rfl
 neB5:=by decide }
open Go.RowKit Go.Lib in
theorem Tryz.strings_Repeat (s:ByteArray) (c:Nat) (w:World) (hc:c≤9223372036854775807) (hlen:s.size*c≤140737488355328) :
 Calls Tryz.prog 80 #[.string s,.int .i64 c] w fun e w'=>e=.returned (.string ⟨(Lib.repeatL s.data.toList c).toArray⟩)∧Below w.heap.size w w':=Any.strings_Repeat Tryz.lays105 Tryz.Builder_Extra_105 s c w hc hlen
end Go.Proofs
