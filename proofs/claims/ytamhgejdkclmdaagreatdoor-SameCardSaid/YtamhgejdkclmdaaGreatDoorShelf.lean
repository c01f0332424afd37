import Derived.Shelf.Strconv.Quote
import Derived.Shelf.LaysM
import Derived.Shelf.Strconv.Itoa3
import Derived.Shelf.Strconv.Clone
import Derived.Shelf.LaysC
import Derived.Shelf.Strconv.ErrVarParseInt
import Derived.Shelf.Strconv.AppendIntPublic10
import Derived.Shelf.Strings.Repeat
import Derived.Test.YtamhgejdkclmdaaGreatDoorProg
namespace Go.Proofs
open Go.Shelf
theorem lz_ {p:Prop}(h:p:=by constructor <;> first|(intros;kernel_rfl)|(constructor <;> first|(intros;kernel_rfl)|(constructor <;> intros <;> kernel_rfl))):p:=h
def Tryz.lays177_ren:Go.Shelf.Ren:=⟨fun |177=>202|250=>222|289=>228|197=>231|323=>232|260=>238|339=>239|340=>240|242=>241|119=>242|345=>247|346=>248|278=>249|n=>n,fun |9=>9|5=>5|4=>4|3=>3|37=>102|21=>21|105=>389|46=>290|119=>405|0=>0|139=>408|138=>407|49=>409|234=>410|131=>238|51=>332|236=>412|n=>n,fun |3=>16|4=>17|20=>18|21=>19|22=>20|23=>21|24=>22|n=>n⟩
theorem Tryz.lays177:Go.Proofs.Lays.n177 Tryz.prog Tryz.lays177_ren:=lz_
open Go.RowKit in
theorem Tryz.strconv_Quote (T:Lib.PrintTabs) (s:ByteArray) (w:World) (hlen:10*s.size+12≤140737488355328) (hT:Lib.PrintTabsAt 18 19 20 21 T w) (hU:Lib.Utf8Tabs 16 17 w) :
 Calls Tryz.prog 202 #[.string s] w fun e w'=>e=.returned (.string (strOfNums (Lib.quoteZ T s)))∧Below w.heap.size w w':=Any.strconv_Quote Tryz.lays177 (by kernel_rfl) T s w hlen hT hU
def Tryz.laysM171_ren:Go.Shelf.Ren:=⟨fun |171=>201|243=>221|246=>227|283=>184|284=>185|285=>186|286=>187|129=>207|317=>206|318=>208|319=>209|320=>210|337=>223|338=>224|n=>n,fun |3=>3|9=>9|2=>2|4=>4|171=>340|0=>0|53=>303|37=>102|5=>5|173=>343|212=>369|51=>332|20=>20|213=>370|46=>290|232=>386|233=>387|n=>n,fun |17=>10|18=>12|19=>13|n=>n⟩
theorem Tryz.laysM171:Go.Proofs.LaysM.n171 Tryz.prog Tryz.laysM171_ren:=lz_
open Go.RowKit Go.Sort Go.Lib in
theorem Tryz.strconv_Itoa (n:Int) (h0 : -9223372036854775808≤n) (h1:n≤9223372036854775807) (w:World) (htab:Lib.TabIs Tryz.prog w "internal/strconv.uint64pow10" .u64 Lib.pow10Tab) :
 Calls Tryz.prog 201 #[.int .i64 n] w fun e w'=>e=.returned (.string ⟨(Lib.itoa n).toArray⟩)∧∃ k os,w'=grow (w.drewN k) os:=Any.strconv_Itoa Tryz.laysM171 n h0 h1 w htab
def Tryz.laysM316_ren:Go.Shelf.Ren:=⟨fun |316=>245|n=>n,fun |9=>9|3=>3|4=>4|37=>102|0=>0|127=>337|5=>5|n=>n,fun |n=>n⟩
theorem Tryz.laysM316:Go.Proofs.LaysM.n316 Tryz.prog Tryz.laysM316_ren:=lz_
open Go.RowKit in
theorem Tryz.stringslite_Clone (s:ByteArray) (w:World) (hlim:s.size≤281474976710656) :
 Calls Tryz.prog 245 #[.string s] w fun e w'=>e=.returned (.string s)∧Below w.heap.size w w':=Any.stringslite_Clone Tryz.laysM316 s w hlim
def Tryz.laysC174_ren:Go.Shelf.Ren:=⟨fun |174=>226|247=>229|245=>230|287=>233|279=>234|280=>235|281=>236|282=>237|321=>243|322=>244|316=>245|171=>201|205=>246|243=>221|246=>227|283=>184|284=>185|285=>186|286=>187|129=>207|317=>206|318=>208|319=>209|320=>210|337=>223|338=>224|n=>n,fun |9=>9|3=>3|2=>2|75=>34|85=>311|4=>4|167=>392|5=>5|53=>303|175=>393|46=>290|168=>395|37=>102|0=>0|210=>403|21=>21|127=>337|145=>416|143=>414|171=>340|173=>343|212=>369|51=>332|20=>20|213=>370|232=>386|233=>387|80=>170|n=>n,fun |15=>14|16=>15|17=>10|18=>12|19=>13|n=>n⟩
theorem Tryz.laysC174:Go.Proofs.LaysC.n174 Tryz.prog Tryz.laysC174_ren:=lz_
open Go.RowKit in
theorem Tryz.strconv_ParseInt_10_at64_ok (s:ByteArray) (hmax:s.size≤9223372036854775806) (v:Int) (h:Lib.parseIntB 64 s.data.toList=.ok v) (w:World) :
 Calls Tryz.prog 226 #[.string s,.int .i64 10,.int .i64 64] w fun e w'=>e=.returned (.tuple #[.int .i64 v,.nilIface])∧(w'=w∨∃ t,w'=Lib.bytesWorld w 5 t):=Any.strconv_ParseInt_10_at64_ok Tryz.laysC174 s hmax v h w
open Go.RowKit in
theorem Tryz.strconv_ParseInt_10_at64_syntax_var (s:ByteArray) (hlim:s.size≤281474976710656) (h:Lib.parseIntB 64 s.data.toList=.«syntax») (tp:TypeId) (p:Value) (w:World) (hvar:w.var? Tryz.prog "strconv.ErrSyntax" = some #[.iface tp p]) :
 Calls Tryz.prog 226 #[.string s,.int .i64 10,.int .i64 64] w fun e w'=>∃ N,e=.returned (.tuple #[.int .i64 (0),.iface 395 (.pointer (some ⟨N,0,none⟩))])∧w.heap.size≤N∧w'.heap[N]?=some (.cells #[.string ⟨#[80,97,114,115,101,73,110,116]⟩,.string s,.iface tp p] 403 (0,0))∧Below w.heap.size w w':=Any.strconv_ParseInt_10_at64_syntax_var Tryz.laysC174 s hlim h tp p w hvar
open Go.RowKit in
theorem Tryz.strconv_ParseInt_10_at64_range_var (s:ByteArray) (hlim:s.size≤281474976710656) (h:Lib.parseIntB 64 s.data.toList=.range) (tp:TypeId) (p:Value) (w:World) (hvar:w.var? Tryz.prog "strconv.ErrRange" = some #[.iface tp p]) :
 Calls Tryz.prog 226 #[.string s,.int .i64 10,.int .i64 64] w fun e w'=>∃ N,e=.returned (.tuple #[.int .i64 (Lib.intSat 64 s.data.toList),.iface 395 (.pointer (some ⟨N,0,none⟩))])∧w.heap.size≤N∧w'.heap[N]?=some (.cells #[.string ⟨#[80,97,114,115,101,73,110,116]⟩,.string s,.iface tp p] 403 (0,0))∧Below w.heap.size w w':=Any.strconv_ParseInt_10_at64_range_var Tryz.laysC174 s hlim h tp p w hvar
def Tryz.laysM176_ren:Go.Shelf.Ren:=⟨fun |176=>56|249=>92|288=>142|283=>184|284=>185|285=>186|286=>187|129=>207|317=>206|318=>208|319=>209|320=>210|337=>223|338=>224|n=>n,fun |37=>102|2=>2|3=>3|53=>303|4=>4|9=>9|171=>340|0=>0|173=>343|212=>369|51=>332|5=>5|20=>20|213=>370|46=>290|232=>386|233=>387|n=>n,fun |17=>10|18=>12|19=>13|n=>n⟩
theorem Tryz.laysM176:Go.Proofs.LaysM.n176 Tryz.prog Tryz.laysM176_ren:=lz_
open Go.RowKit Go.Sort Go.Lib in
theorem Tryz.strconv_AppendInt_10 (B n:Nat) (i:Int) (h0 : -9223372036854775808≤i) (h1:i≤9223372036854775807) (sv:Value) (xs:List Value) (w:World) (hown:w.ownsRow B 5 1 sv n xs) (hBw:B≤w.heap.size) (hlim:n+21≤140737488355328) (htab:Lib.TabBelow Tryz.prog B w "internal/strconv.uint64pow10" .u64 Lib.pow10Tab) :
 Calls Tryz.prog 56 #[sv,.int .i64 i,.int .i64 10] w fun e w'=>∃ v',e=.returned v'∧w'.ownsRow B 5 1 v' (n+(Lib.itoa i).length) (xs++Lib.byteCells (Lib.itoa i))∧Below B w w'∧Lib.OthersKept 5 none w w':=Any.strconv_AppendInt_10 Tryz.laysM176 B n i h0 h1 sv xs w hown hBw hlim htab
def Tryz.lays105_ren:Go.Shelf.Ren:=⟨fun |105=>90|212=>131|99=>132|165=>133|166=>134|170=>135|169=>136|263=>175|264=>176|206=>177|240=>178|241=>179|276=>204|277=>205|n=>n,fun |9=>9|3=>3|4=>4|20=>20|0=>0|46=>290|109=>291|5=>5|72=>295|76=>296|51=>332|146=>333|53=>303|148=>335|70=>293|37=>102|75=>34|127=>337|164=>364|80=>170|n=>n,fun |n=>n⟩
theorem Tryz.lays105:Go.Proofs.Lays.n105 Tryz.prog Tryz.lays105_ren:=lz_
theorem Tryz.Builder_Extra_105:Builder.Extra Tryz.prog Tryz.lays105_ren:={
 sizeBuilder:=by kernel_rfl
 liesBuilder:=by kernel_rfl
 t5:=Tryz.underlying5
 a5:=Tryz.isAgg5
 z5:=Tryz.sizeOf5
 v5:=Tryz.zeroValue5
 infoByte:=by kernel_rfl
 cellsByte:=by kernel_rfl
 sizeByte:=by kernel_rfl
 neB5:=by decide }
open Go.RowKit Go.Lib in
theorem Tryz.strings_Repeat (s:ByteArray) (c:Nat) (w:World) (hc:c≤9223372036854775807) (hlen:s.size*c≤140737488355328) :
 Calls Tryz.prog 90 #[.string s,.int .i64 c] w fun e w'=>e=.returned (.string ⟨(Lib.repeatL s.data.toList c).toArray⟩)∧Below w.heap.size w w':=Any.strings_Repeat Tryz.lays105 Tryz.Builder_Extra_105 s c w hc hlen
end Go.Proofs
