package kin_test

import (
	"strings"
	"testing"

	"kin/kin"
)

// defs are those that data are tested by: A is a record that may have another
// one within, B an enumeration, C two bytes, D an empty record, E no bytes.
// There are no data of F.
const defs = "A=r(x:i,y:(n,A));B=e(b,a,z!a);C=f2;D=r();E=f0;F=r(x:F);"

// everyBranch has as many branches as a (..) can have.
const everyBranch = "(n,t,i,l,s,[n],{n},A,B,C,D,E,F)"

// dataAndBytes are data of every type: the type, the text, the bytes.
var dataAndBytes = [][3]string{
	{"n", "N", ""},
	{"t", "F", "\x00"}, {"t", "T", "\x01"},
	{"i", "0", "\x00"}, {"i", "-1", "\x01"}, {"i", "1", "\x02"}, {"i", "-2", "\x03"}, {"i", "10", "\x14"},
	{"i", "63", "\x7e"}, {"i", "-64", "\x7f"}, {"i", "64", "\x80\x01"}, {"i", "-65", "\x81\x01"}, {"i", "100", "\xc8\x01"},
	{"i", "8191", "\xfe\x7f"}, {"i", "-8192", "\xff\x7f"}, {"i", "8192", "\x80\x80\x01"}, {"i", "-8193", "\x81\x80\x01"},
	{"i", "134217727", "\xfe\xff\xff\x7f"}, {"i", "134217728", "\x80\x80\x80\x80\x01"},
	{"i", "2147483647", "\xfe\xff\xff\xff\x0f"}, {"i", "-2147483648", "\xff\xff\xff\xff\x0f"},
	{"l", "0", "\x00"}, {"l", "-1", "\x01"}, {"l", "2147483648", "\x80\x80\x80\x80\x10"}, {"l", "-2147483649", "\x81\x80\x80\x80\x10"},
	{"l", "4611686018427387903", "\xfe\xff\xff\xff\xff\xff\xff\xff\x7f"},
	{"l", "4611686018427387904", "\x80\x80\x80\x80\x80\x80\x80\x80\x80\x01"},
	{"l", "9223372036854775807", "\xfe\xff\xff\xff\xff\xff\xff\xff\xff\x01"},
	{"l", "-9223372036854775808", "\xff\xff\xff\xff\xff\xff\xff\xff\xff\x01"},
	{"s", `""`, "\x00"}, {"s", `"a"`, "\x02a"}, {"s", `"za"`, "\x04za"},
	{"s", `"` + strings.Repeat("q", 63) + `"`, "\x7e" + strings.Repeat("q", 63)},
	{"s", `"` + strings.Repeat("q", 64) + `"`, "\x80\x01" + strings.Repeat("q", 64)},
	{"[i]", "[]", "\x00"}, {"[i]", "[1,-1,64]", "\x06\x02\x01\x80\x01"}, {"[s]", `["","ab"]`, "\x04\x00\x04ab"},
	{"[[t]]", "[[],[T],[F,T]]", "\x06\x00\x02\x01\x04\x00\x01"},
	// Data without bytes are counted all the same.
	{"[n]", "[N]", "\x02"}, {"[n]", "[N,N]", "\x04"}, {"[D]", "[(),(),()]", "\x06"}, {"[E]", "['','']", "\x04"},
	{"{i}", "{}", "\x00"}, {"{i}", "{:1}", "\x02\x00\x02"}, {"{n}", "{a:N,b:N}", "\x04\x02a\x02b"},
	// Of keys a beginning is below.
	{"{i}", "{:1,a:2,aa:3,ab:4,b:5}", "\x0a\x00\x02\x02a\x04\x04aa\x06\x04ab\x08\x02b\x0a"},
	{"{{[t]}}", "{a:{},b:{a:[T]}}", "\x04\x02a\x00\x02b\x02\x02a\x02\x01"},
	{"(n)", "<0:N>", "\x00"}, {"(n,t)", "<1:T>", "\x02\x01"}, {"[(i,s)]", `[<1:"x">,<0:7>]`, "\x04\x02\x02x\x00\x0e"},
	{"{([(n,t)],n)}", "{a:<0:[<1:F>]>,b:<1:N>}", "\x04\x02a\x00\x02\x02\x00\x02b\x02"},
	{everyBranch, "<0:N>", "\x00"}, {everyBranch, "<1:T>", "\x02\x01"}, {everyBranch, "<2:-1>", "\x04\x01"}, {everyBranch, "<3:-1>", "\x06\x01"}, {everyBranch, `<4:"a">`, "\x08\x02a"},
	{everyBranch, "<5:[N]>", "\x0a\x02"}, {everyBranch, "<6:{:N}>", "\x0c\x02\x00"}, {everyBranch, "<7:(1,<0:N>)>", "\x0e\x02\x00"}, {everyBranch, "<8:b>", "\x10\x00"},
	{everyBranch, "<9:'aa'>", "\x12aa"}, {everyBranch, "<10:()>", "\x14"}, {everyBranch, "<11:''>", "\x16"},
	{"A", "(1,<0:N>)", "\x02\x00"}, {"A", "(1,<1:(2,<0:N>)>)", "\x02\x02\x04\x00"}, {"[A]", "[(0,<0:N>),(-1,<0:N>)]", "\x04\x00\x00\x01\x00"},
	{"B", "b", "\x00"}, {"B", "a", "\x02"}, {"B", "z", "\x04"}, {"[B]", "[z,z,b]", "\x06\x04\x04\x00"},
	{"C", "'az'", "az"}, {"[C]", "['ab','cd']", "\x04abcd"}, {"D", "()", ""}, {"E", "''", ""},
	{"[F]", "[]", "\x00"}, {"{F}", "{}", "\x00"}, {"(F,n)", "<1:N>", "\x02"},
}

// badData are pairs of a type and a text that is no datum of it, beside those
// that are no defaults either.
var badData = [][2]string{
	{"(n,t)", "N"}, {"(n,t)", "<N>"}, {"(n,t)", "<:N>"}, {"(n,t)", "<0:>"}, {"(n,t)", "<0:N"}, {"(n,t)", "0:N>"}, {"(n,t)", "<0N>"},
	{"(n,t)", "<1:N>"}, {"(n,t)", "<0:T>"}, {"(n,t)", "<2:N>"}, {"(n,t)", "<-1:N>"}, {"(n,t)", "<-0:N>"}, {"(n,t)", "<+0:N>"},
	{"(n,t)", "<00:N>"}, {"(n,t)", "<01:T>"}, {"(n,t)", "<001:T>"}, {"(n,t)", "<0:N>>"}, {"(n,t)", "<<0:N>>"}, {"(n,t)", "<0:N,1:T>"},
	{"(n,t)", "<0=N>"}, {"(n,t)", "<0:N]"}, {"(n,t)", "(0:N)"}, {"(n,t)", "<0:<0:N>>"}, {"(n,t)", "<99999999999999999999:N>"},
	{everyBranch, "<13:N>"}, {everyBranch, "<010:()>"}, {everyBranch, "<1:()>"}, {everyBranch, "<12:()>"}, {everyBranch, "<100:()>"}, {everyBranch, "<1>"},
	{"[(n,t)]", "[N]"}, {"[(n,t)]", "[<0:N>,N]"}, {"{(n,t)}", "{a:N}"},
	{"A", "(1,N)"}, {"A", "(1,<1:(2,N)>)"}, {"A", "(1,<0:N>"}, {"A", "(1)"}, {"A", "()"}, {"A", "(1,<0:N>,N)"}, {"A", "(<0:N>,1)"},
	{"B", "c"}, {"B", "0"}, {"B", "bb"}, {"B", ""}, {"E", "'a'"}, {"E", ""},
	// There are no data of F.
	{"F", ""}, {"F", "()"}, {"F", "(())"}, {"F", "((((("}, {"F", "N"}, {"F", strings.Repeat("(", 2000) + strings.Repeat(")", 2000)},
	{"[F]", "[()]"}, {"(F,n)", "<0:()>"},
}

func encodes(t *testing.T, schema, datum, want string) {
	t.Helper()
	if bytes, e := kin.Encode(schema, datum); bytes != want || e != kin.OK {
		t.Errorf("Encode(%q, %.60q) = %.60q, %d, want %.60q, OK", schema, datum, bytes, e, want)
	}
}

func encodeRefuses(t *testing.T, schema, datum string, want kin.Errno) {
	t.Helper()
	if bytes, e := kin.Encode(schema, datum); bytes != "" || e != want {
		t.Errorf("Encode(%q, %.60q) = %.60q, %d, want nothing, %d", schema, datum, bytes, e, want)
	}
}

// listOf is the text of a list of so many like data.
func listOf(count int, datum string) string {
	return "[" + strings.TrimSuffix(strings.Repeat(datum+",", count), ",") + "]"
}

// key is the i-th of 676 keys that rise.
func key(i int) string { return string([]byte{byte('a' + i/26), byte('a' + i%26)}) }

// mapOf is the text of a map of so many like data.
func mapOf(count int, datum string) string {
	var entries []string
	for i := range count {
		entries = append(entries, key(i)+":"+datum)
	}
	return "{" + strings.Join(entries, ",") + "}"
}

func TestEncodeWritesBytes(t *testing.T) {
	for _, c := range dataAndBytes {
		encodes(t, defs+c[0], c[1], c[2])
	}
	encodes(t, "[i]", "[1,-1,64]", "\x06\x02\x01\x80\x01")
	// The bytes do not hang on a default, nor on the symbol behind !.
	encodes(t, "A=r(x:i=5,y:B=b);B=e(a,b!b);A", "(5,b)", "\x0a\x02")
}

func TestEncodeRefusesWhatIsNoDatum(t *testing.T) {
	for _, c := range badData {
		encodeRefuses(t, defs+c[0], c[1], kin.ErrDatum)
	}
	// A text is no datum for the same reasons as a default, but for a (..).
	for _, c := range badDefaults {
		if !strings.ContainsAny(c[0], "(A") {
			encodeRefuses(t, defs+c[0], c[1], kin.ErrDatum)
		}
	}
	// Of a good datum's text no beginning, and none with more behind, is one,
	// but for a number's.
	for _, c := range dataAndBytes {
		if c[0] == "i" || c[0] == "l" {
			continue
		}
		for i := range len(c[1]) {
			encodeRefuses(t, defs+c[0], c[1][:i], kin.ErrDatum)
		}
		for _, behind := range []string{" ", "\x00", ",", "]", ">", c[1]} {
			encodeRefuses(t, defs+c[0], c[1]+behind, kin.ErrDatum)
		}
	}
}

func TestEncodeLong(t *testing.T) {
	encodes(t, "s", `"`+strings.Repeat("a", 3998)+`"`, "\xbc\x3e"+strings.Repeat("a", 3998))
	encodeRefuses(t, "s", `"`+strings.Repeat("a", 3999)+`"`, kin.ErrLong)
	encodeRefuses(t, "n", strings.Repeat("N", 4000), kin.ErrDatum)
	encodeRefuses(t, "n", strings.Repeat("N", 4001), kin.ErrLong)
	encodeRefuses(t, "n", strings.Repeat("\xff", 100000), kin.ErrLong)
}

func TestEncodeBig(t *testing.T) {
	encodes(t, "[n]", listOf(299, "N"), "\xd6\x04")
	encodeRefuses(t, "[n]", listOf(300, "N"), kin.ErrBig)
	encodes(t, "[t]", listOf(299, "F"), "\xd6\x04"+strings.Repeat("\x00", 299))
	encodeRefuses(t, "[t]", listOf(300, "F"), kin.ErrBig)
	// A key is no node; a (..) is one, and its branch's datum another one.
	if _, e := kin.Encode("{n}", mapOf(299, "N")); e != kin.OK {
		t.Errorf("a map of 300 nodes: %d", e)
	}
	encodeRefuses(t, "{n}", mapOf(300, "N"), kin.ErrBig)
	encodes(t, "[(n)]", listOf(149, "<0:N>"), "\xaa\x02"+strings.Repeat("\x00", 149))
	encodeRefuses(t, "[(n)]", listOf(150, "<0:N>"), kin.ErrBig)
	// A record is a node, and so is each field.
	encodes(t, "A=r(x:n,y:n);[A]", listOf(99, "(N,N)"), "\xc6\x01")
	encodeRefuses(t, "A=r(x:n,y:n);[A]", listOf(100, "(N,N)"), kin.ErrBig)
	encodes(t, "A=r(x:[n],y:n,z:t);A", "("+listOf(296, "N")+",N,T)", "\xd0\x04\x01")
	encodeRefuses(t, "A=r(x:[n],y:n,z:t);A", "("+listOf(297, "N")+",N,T)", kin.ErrBig)
	encodes(t, "A=r();B=f0;C=e(a);[(A,B,C)]", listOf(149, "<2:a>"), "\xaa\x02"+strings.Repeat("\x04\x00", 149))
	encodeRefuses(t, "A=r();B=f0;C=e(a);[(A,B,C)]", listOf(150, "<0:()>"), kin.ErrBig)
}

// deep is a datum of a record that has another one within, so many in all.
func deep(count int) string {
	return strings.Repeat("(1,<1:", count-1) + "(1,<0:N>)" + strings.Repeat(">)", count-1)
}

func TestEncodeDeep(t *testing.T) {
	// Each has four nodes at most: itself, the number, the (..), and N.
	encodes(t, "A=r(x:i,y:(n,A));A", deep(99), strings.Repeat("\x02\x02", 98)+"\x02\x00")
	encodeRefuses(t, "A=r(x:i,y:(n,A));A", deep(100), kin.ErrBig)
	encodeRefuses(t, "A=r(x:i,y:(n,A));A", deep(499), kin.ErrBig)
	encodeRefuses(t, "A=r(x:i,y:(n,A));A", strings.Repeat("(1,<1:", 666), kin.ErrDatum)
	encodes(t, "A=r(x:[A]);A", strings.Repeat("([", 150)+strings.Repeat("])", 150), strings.Repeat("\x02", 149)+"\x00")
	encodeRefuses(t, "A=r(x:[A]);A", strings.Repeat("([", 151)+strings.Repeat("])", 151), kin.ErrBig)
	encodeRefuses(t, "A=r(x:[A]);A", strings.Repeat("([", 1000)+strings.Repeat("])", 1000), kin.ErrBig)
	encodeRefuses(t, "A=r(x:[A]);A", strings.Repeat("([", 1000)+strings.Repeat("])", 999)+"]]", kin.ErrDatum)
}

func TestEncodeTellsTheErrorNamedFirst(t *testing.T) {
	long := strings.Repeat("N", 4001)
	big := listOf(300, "N")
	// The schema's errors are ahead of all that is wrong with the datum.
	encodeRefuses(t, strings.Repeat("[", 301), long, kin.ErrLong)
	encodeRefuses(t, "[n", long, kin.ErrSchema)
	encodeRefuses(t, "", "", kin.ErrSchema)
	encodeRefuses(t, "[A]", long, kin.ErrName)
	encodeRefuses(t, "(n,n)", long, kin.ErrUnion)
	encodeRefuses(t, "A=r(x:n=T);[n]", long, kin.ErrDatum)
	encodeRefuses(t, "A=r(x:n=T);[n]", big, kin.ErrDatum)
	// Then its length, then what it is, then how large.
	encodeRefuses(t, "[n]", listOf(2000, "N"), kin.ErrLong)
	encodeRefuses(t, "[n]", listOf(1999, "N"), kin.ErrBig)
	encodeRefuses(t, "[n]", big+"]", kin.ErrDatum)
	encodeRefuses(t, "[n]", strings.TrimSuffix(big, "]"), kin.ErrDatum)
	encodeRefuses(t, "[n]", strings.TrimSuffix(big, "]")+",T]", kin.ErrDatum)
	encodeRefuses(t, "{n}", strings.TrimSuffix(mapOf(300, "N"), "}")+",a:N}", kin.ErrDatum)
}
