import Derived.Shelf.Strconv.Quote
import Derived.Shelf.LaysM
import Derived.Shelf.Strconv.Itoa3
import Derived.Shelf.Strconv.Clone
import Derived.Shelf.LaysC
import Derived.Shelf.Strconv.ErrVarParseInt
import Derived.Shelf.Strconv.AppendIntPublic10
import Derived.Shelf.Strings.Repeat
import Derived.Test.YtokgeopihcopeaaGreatDoorProg
namespace Go.Proofs
open Go.Shelf
theorem lz_ {p:Prop}(h:p:=by constructor <;> first|(intros;kernel_rfl)|(constructor <;> first|(intros;kernel_rfl)|(constructor <;> intros <;> kernel_rfl))):p:=h
def Tryz.lays177_ren:Go.Shelf.Ren:=⟨fun |177=>223|250=>237|289=>246|197=>251|323=>252|260=>253|339=>254|340=>255|242=>256|119=>257|345=>258|346=>259|278=>260|n=>n,fun |9=>9|5=>5|4=>4|3=>3|37=>94|21=>21|105=>408|46=>274|119=>416|0=>0|139=>419|138=>418|49=>420|234=>421|131=>241|51=>347|236=>423|n=>n,fun |3=>16|4=>17|20=>18|21=>19|22=>20|23=>21|24=>22|n=>n⟩
theorem Tryz.lays177:Go.Proofs.Lays.n177 Tryz.prog Tryz.lays177_ren:=lz_
open Go.RowKit in
theorem Tryz.strconv_Quote (T:Lib.PrintTabs) (s:ByteArray) (w:World) (hlen:10*s.size+12≤140737488355328) (hT:Lib.PrintTabsAt 18 19 20 21 T w) (hU:Lib.Utf8Tabs 16 17 w) :
 Calls Tryz.prog 223 #[.string s] w fun e w'=>e=.returned (.string (strOfNums (Lib.quoteZ T s)))∧Below w.heap.size w w':=Any.strconv_Quote Tryz.lays177 (by kernel_rfl) T s w hlen hT hU
def Tryz.laysM171_ren:Go.Shelf.Ren:=⟨fun |171=>222|243=>236|246=>245|283=>214|284=>215|285=>216|286=>217|129=>229|317=>228|318=>230|319=>231|320=>232|337=>238|338=>239|n=>n,fun |3=>3|9=>9|2=>2|4=>4|171=>355|0=>0|53=>272|37=>94|5=>5|173=>358|212=>385|51=>347|20=>20|213=>386|46=>274|232=>401|233=>402|n=>n,fun |17=>10|18=>12|19=>13|n=>n⟩
theorem Tryz.laysM171:Go.Proofs.LaysM.n171 Tryz.prog Tryz.laysM171_ren:=lz_
open Go.RowKit Go.Sort Go.Lib in
theorem Tryz.strconv_Itoa (n:Int) (h0 : -9223372036854775808≤n) (h1:n≤9223372036854775807) (w:World) (htab:Lib.TabIs Tryz.prog w "internal/strconv.uint64pow10" .u64 Lib.pow10Tab) :
 Calls Tryz.prog 222 #[.int .i64 n] w fun e w'=>e=.returned (.string ⟨(Lib.itoa n).toArray⟩)∧∃ k os,w'=grow (w.drewN k) os:=Any.strconv_Itoa Tryz.laysM171 n h0 h1 w htab
def Tryz.laysM316_ren:Go.Shelf.Ren:=⟨fun |316=>249|n=>n,fun |9=>9|3=>3|4=>4|37=>94|0=>0|127=>352|5=>5|n=>n,fun |n=>n⟩
theorem Tryz.laysM316:Go.Proofs.LaysM.n316 Tryz.prog Tryz.laysM316_ren:=lz_
open Go.RowKit in
theorem Tryz.stringslite_Clone (s:ByteArray) (w:World) (hlim:s.size≤281474976710656) :
 Calls Tryz.prog 249 #[.string s] w fun e w'=>e=.returned (.string s)∧Below w.heap.size w w':=Any.stringslite_Clone Tryz.laysM316 s w hlim
def Tryz.laysC174_ren:Go.Shelf.Ren:=⟨fun |174=>221|247=>234|245=>235|287=>240|279=>241|280=>242|281=>243|282=>244|321=>247|322=>248|316=>249|171=>222|205=>250|243=>236|246=>245|283=>214|284=>215|285=>216|286=>217|129=>229|317=>228|318=>230|319=>231|320=>232|337=>238|338=>239|n=>n,fun |9=>9|3=>3|2=>2|75=>36|85=>329|4=>4|167=>393|5=>5|53=>272|175=>394|46=>274|168=>396|37=>94|0=>0|210=>406|21=>21|127=>352|145=>413|143=>411|171=>355|173=>358|212=>385|51=>347|20=>20|213=>386|232=>401|233=>402|80=>247|n=>n,fun |15=>14|16=>15|17=>10|18=>12|19=>13|n=>n⟩
theorem Tryz.laysC174:Go.Proofs.LaysC.n174 Tryz.prog Tryz.laysC174_ren:=lz_
open Go.RowKit in
theorem Tryz.strconv_ParseInt_10_at64_ok (s:ByteArray) (hmax:s.size≤9223372036854775806) (v:Int) (h:Lib.parseIntB 64 s.data.toList=.ok v) (w:World) :
 Calls Tryz.prog 221 #[.string s,.int .i64 10,.int .i64 64] w fun e w'=>e=.returned (.tuple #[.int .i64 v,.nilIface])∧(w'=w∨∃ t,w'=Lib.bytesWorld w 5 t):=Any.strconv_ParseInt_10_at64_ok Tryz.laysC174 s hmax v h w
open Go.RowKit in
theorem Tryz.strconv_ParseInt_10_at64_syntax_var (s:ByteArray) (hlim:s.size≤281474976710656) (h:Lib.parseIntB 64 s.data.toList=.«syntax») (tp:TypeId) (p:Value) (w:World) (hvar:w.var? Tryz.prog "strconv.ErrSyntax" = some #[.iface tp p]) :
 Calls Tryz.prog 221 #[.string s,.int .i64 10,.int .i64 64] w fun e w'=>∃ N,e=.returned (.tuple #[.int .i64 (0),.iface 396 (.pointer (some ⟨N,0,none⟩))])∧w.heap.size≤N∧w'.heap[N]?=some (.cells #[.string ⟨#[80,97,114,115,101,73,110,116]⟩,.string s,.iface tp p] 406 (0,0))∧Below w.heap.size w w':=Any.strconv_ParseInt_10_at64_syntax_var Tryz.laysC174 s hlim h tp p w hvar
open Go.RowKit in
theorem Tryz.strconv_ParseInt_10_at64_range_var (s:ByteArray) (hlim:s.size≤281474976710656) (h:Lib.parseIntB 64 s.data.toList=.range) (tp:TypeId) (p:Value) (w:World) (hvar:w.var? Tryz.prog "strconv.ErrRange" = some #[.iface tp p]) :
 Calls Tryz.prog 221 #[.string s,.int .i64 10,.int .i64 64] w fun e w'=>∃ N,e=.returned (.tuple #[.int .i64 (Lib.intSat 64 s.data.toList),.iface 396 (.pointer (some ⟨N,0,none⟩))])∧w.heap.size≤N∧w'.heap[N]?=some (.cells #[.string ⟨#[80,97,114,115,101,73,110,116]⟩,.string s,.iface tp p] 406 (0,0))∧Below w.heap.size w w':=Any.strconv_ParseInt_10_at64_range_var Tryz.laysC174 s hlim h tp p w hvar
def Tryz.laysM176_ren:Go.Shelf.Ren:=⟨fun |176=>57|249=>93|288=>163|283=>214|284=>215|285=>216|286=>217|129=>229|317=>228|318=>230|319=>231|320=>232|337=>238|338=>239|n=>n,fun |37=>94|2=>2|3=>3|53=>272|4=>4|9=>9|171=>355|0=>0|173=>358|212=>385|51=>347|5=>5|20=>20|213=>386|46=>274|232=>401|233=>402|n=>n,fun |17=>10|18=>12|19=>13|n=>n⟩
theorem Tryz.laysM176:Go.Proofs.LaysM.n176 Tryz.prog Tryz.laysM176_ren:=lz_
open Go.RowKit Go.Sort Go.Lib in
theorem Tryz.strconv_AppendInt_10 (B n:Nat) (i:Int) (h0 : -9223372036854775808≤i) (h1:i≤9223372036854775807) (sv:Value) (xs:List Value) (w:World) (hown:w.ownsRow B 5 1 sv n xs) (hBw:B≤w.heap.size) (hlim:n+21≤140737488355328) (htab:Lib.TabBelow Tryz.prog B w "internal/strconv.uint64pow10" .u64 Lib.pow10Tab) :
 Calls Tryz.prog 57 #[sv,.int .i64 i,.int .i64 10] w fun e w'=>∃ v',e=.returned v'∧w'.ownsRow B 5 1 v' (n+(Lib.itoa i).length) (xs++Lib.byteCells (Lib.itoa i))∧Below B w w'∧Lib.OthersKept 5 none w w':=Any.strconv_AppendInt_10 Tryz.laysM176 B n i h0 h1 sv xs w hown hBw hlim htab
def Tryz.lays105_ren:Go.Shelf.Ren:=⟨fun |105=>91|212=>152|99=>153|165=>154|166=>155|170=>156|169=>157|263=>205|264=>206|206=>207|240=>208|241=>209|276=>226|277=>227|n=>n,fun |9=>9|3=>3|4=>4|20=>20|0=>0|46=>274|109=>300|5=>5|72=>304|76=>305|51=>347|146=>348|53=>272|148=>350|70=>302|37=>94|75=>36|127=>352|164=>380|80=>247|n=>n,fun |n=>n⟩
theorem Tryz.lays105:Go.Proofs.Lays.n105 Tryz.prog Tryz.lays105_ren:=lz_
theorem Tryz.Builder_Extra_105:Builder.Extra Tryz.prog Tryz.lays105_ren:={
 sizeBuilder:=by kernel_rfl
 liesBuilder:=by kernel_rfl
 t5:=Tryz.underlying5
 a5:=Tryz.isAgg5
 z5:=Tryz.sizeOf5
 v5:=Tryz.zeroValue5
 infoByte:=by kernel_rfl
 cellsByte:=by kernel_rfl
 sizeByte:=by kernel_rfl
 neB5:=by decide }
open Go.RowKit Go.Lib in
theorem Tryz.strings_Repeat (s:ByteArray) (c:Nat) (w:World) (hc:c≤9223372036854775807) (hlen:s.size*c≤140737488355328) :
 Calls Tryz.prog 91 #[.string s,.int .i64 c] w fun e w'=>e=.returned (.string ⟨(Lib.repeatL s.data.toList c).toArray⟩)∧Below w.heap.size w w':=Any.strings_Repeat Tryz.lays105 Tryz.Builder_Extra_105 s c w hc hlen
end Go.Proofs
