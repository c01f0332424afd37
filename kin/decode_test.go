package kin_test

import (
	"strings"
	"testing"

	"kin/kin"
)

func decodes(t *testing.T, schema, data, want string, size int) {
	t.Helper()
	if text, n, e := kin.Decode(schema, data); text != want || n != size || e != kin.OK {
		t.Errorf("Decode(%q, %.60q) = %.60q, %d, %d, want %.60q, %d, OK", schema, data, text, n, e, want, size)
	}
}

func decodeRefuses(t *testing.T, schema, data string, want kin.Errno) {
	t.Helper()
	if text, n, e := kin.Decode(schema, data); text != "" || n != 0 || e != want {
		t.Errorf("Decode(%q, %.60q) = %.60q, %d, %d, want nothing, 0, %d", schema, data, text, n, e, want)
	}
}

// mapBytes are the bytes of a map of so many data without bytes, but for how
// many there are.
func mapBytes(count int) string {
	var bytes strings.Builder
	for i := range count {
		bytes.WriteString("\x04" + key(i))
	}
	return bytes.String()
}

func TestDecodeReadsBytes(t *testing.T) {
	for _, c := range dataAndBytes {
		decodes(t, defs+c[0], c[2], c[1], len(c[2]))
	}
	decodes(t, "[i]", "\x06\x02\x01\x80\x01", "[1,-1,64]", 5)
	decodes(t, "A=r(x:i=5,y:B=b);B=e(a,b!b);A", "\x0a\x02", "(5,b)", 2)
}

// What stands behind the datum's bytes is not looked at, but counts for how
// many bytes there may be.
func TestDecodeLeavesWhatStandsBehind(t *testing.T) {
	for _, c := range dataAndBytes {
		for _, behind := range []string{"\x00", "a", "\xff", "\x80\x80", c[2] + "z"} {
			decodes(t, defs+c[0], c[2]+behind, c[1], len(c[2]))
		}
		decodes(t, defs+c[0], c[2]+strings.Repeat("\xff", 4000-len(c[2])), c[1], len(c[2]))
		decodeRefuses(t, defs+c[0], c[2]+strings.Repeat("\x00", 4001-len(c[2])), kin.ErrLong)
	}
}

func TestDecodeDataThatEndTooEarly(t *testing.T) {
	for _, c := range dataAndBytes {
		for i := range len(c[2]) {
			decodeRefuses(t, defs+c[0], c[2][:i], kin.ErrData)
		}
	}
}

func TestDecodeRefusesBytes(t *testing.T) {
	const most = "\xfe\xff\xff\xff\xff\xff\xff\xff\xff\x01" // the greatest number of l
	for _, c := range [][2]string{
		{"t", "\x02"}, {"t", "\x80"}, {"t", "\xff"}, {"t", "T"}, {"[t]", "\x04\x01\x02"},
		// Numbers in more bytes than they need.
		{"i", "\x80\x00"}, {"i", "\x82\x00"}, {"i", "\xff\x80\x00"}, {"i", "\x80\x81\x00"}, {"l", "\x80\x00"}, {"l", "\x80\x80\x80\x00"},
		{"l", "\xff\xff\xff\xff\xff\xff\xff\xff\xff\x00"}, {"l", "\x80\x80\x80\x80\x80\x80\x80\x80\x80\x00"},
		{"s", "\x82\x00a"}, {"[n]", "\x82\x00"}, {"{n}", "\x82\x00\x00"}, {"{n}", "\x02\x80\x00"}, {"(n,t)", "\x80\x00"}, {"B", "\x80\x00"},
		// Numbers out of their range.
		{"i", "\x80\x80\x80\x80\x10"}, {"i", "\x81\x80\x80\x80\x10"}, {"i", most}, {"i", "\x80\x80\x80\x80\x80\x01"},
		{"l", "\x80\x80\x80\x80\x80\x80\x80\x80\x80\x02"}, {"l", "\xff\xff\xff\xff\xff\xff\xff\xff\xff\x03"}, {"l", "\xff\xff\xff\xff\xff\xff\xff\xff\xff\x7f"},
		{"l", "\x80\x80\x80\x80\x80\x80\x80\x80\x80\x80\x01"}, {"l", "\x80\x80\x80\x80\x80\x80\x80\x80\x80\x82\x00"},
		{"l", strings.Repeat("\x80", 4000)}, {"l", strings.Repeat("\xff", 4000)}, {"l", strings.Repeat("\x80", 3999) + "\x01"},
		// Texts and bytes that are not letters, or too few.
		{"s", "\x02A"}, {"s", "\x02`"}, {"s", "\x02{"}, {"s", "\x02\x00"}, {"s", "\x02\xff"}, {"s", "\x06aAa"}, {"s", "\x04a\""}, {"s", "\x04a"},
		{"s", "\x01"}, {"s", "\x01a"}, {"s", "\x03aa"}, {"s", most}, {"s", most + "a"}, {"s", "\xff\xff\xff\xff\xff\xff\xff\xff\xff\x01aa"},
		{"C", "a"}, {"C", "aA"}, {"C", "Aa"}, {"C", "a'"}, {"C", "`a"}, {"C", "a{"}, {"C", "\x04ab"},
		// A number of data below 0.
		{"[n]", "\x01"}, {"[n]", "\x03"}, {"[i]", "\x01\x00"}, {"{n}", "\x01"}, {"{n}", "\x03\x00"}, {"[F]", "\x01"},
		{"[n]", "\xff\xff\xff\xff\xff\xff\xff\xff\xff\x01"}, {"{n}", "\xff\xff\xff\xff\xff\xff\xff\xff\xff\x01"},
		// Too few data.
		{"[i]", "\x04\x00"}, {"[i]", most}, {"[i]", most + "\x00\x00"}, {"[s]", "\x04\x00\x02"}, {"{n}", "\x04\x02a"}, {"{n}", most}, {"{i}", "\x02\x02a"},
		// Keys that are not letters, or do not rise.
		{"{n}", "\x02\x02A"}, {"{n}", "\x02\x01"}, {"{n}", "\x02\x02{"}, {"{n}", "\x04\x02a\x02a"}, {"{n}", "\x04\x00\x00"}, {"{n}", "\x04\x02b\x02a"},
		{"{n}", "\x04\x04aa\x02a"}, {"{n}", "\x04\x02a\x00"}, {"{n}", "\x04\x04ab\x04aa"}, {"{n}", "\x06\x02a\x02b\x02a"}, {"{i}", "\x04\x02a\x02\x02a\x04"},
		// A branch or symbol that there is not.
		{"(n,t)", "\x04"}, {"(n,t)", "\x01"}, {"(n,t)", "\x03"}, {"(n)", "\x02"}, {everyBranch, "\x1a"}, {everyBranch, "\x19"}, {"(n,t)", most}, {"(n,t)", "\x80\x80\x80\x80\x10"},
		{"B", "\x06"}, {"B", "\x01"}, {"B", "a"}, {"B", most}, {"[B]", "\x04\x00\x06"},
		// Within.
		{"A", "\x02\x04"}, {"A", "\x02\x02\x04\x02\x80\x00\x00"}, {"[(i,s)]", "\x04\x02\x02x\x02\x02X"}, {"{([(n,t)],n)}", "\x02\x02a\x00\x02\x02\x02"},
	} {
		decodeRefuses(t, defs+c[0], c[1], kin.ErrData)
	}
}

func TestDecodeLong(t *testing.T) {
	decodes(t, "s", "\xbc\x3e"+strings.Repeat("a", 3998), `"`+strings.Repeat("a", 3998)+`"`, 4000)
	decodeRefuses(t, "s", "\xbe\x3e"+strings.Repeat("a", 3998), kin.ErrData)
	decodeRefuses(t, "s", "\xbe\x3e"+strings.Repeat("a", 3999), kin.ErrLong)
	decodes(t, "n", strings.Repeat("\xff", 4000), "N", 0)
	decodeRefuses(t, "n", strings.Repeat("\xff", 4001), kin.ErrLong)
	decodeRefuses(t, "n", strings.Repeat("\xff", 100000), kin.ErrLong)
}

// A datum's text may be longer than one that Encode takes.
func TestDecodeTellsLongTexts(t *testing.T) {
	const least = "\xff\xff\xff\xff\xff\xff\xff\xff\xff\x01"
	decodes(t, "[l]", "\xd6\x04"+strings.Repeat(least, 299), listOf(299, "-9223372036854775808"), 2992)
}

func TestDecodeBig(t *testing.T) {
	decodes(t, "[n]", "\xd6\x04", listOf(299, "N"), 2)
	decodeRefuses(t, "[n]", "\xd8\x04", kin.ErrBig)
	decodeRefuses(t, "[n]", "\xfe\xff\xff\xff\xff\xff\xff\xff\xff\x01", kin.ErrBig)
	decodes(t, "A=r();[A]", "\xd6\x04", listOf(299, "()"), 2)
	decodeRefuses(t, "A=r();[A]", "\xd8\x04", kin.ErrBig)
	decodes(t, "A=f0;[A]", "\xd6\x04", listOf(299, "''"), 2)
	decodeRefuses(t, "A=f0;[A]", "\xd8\x04", kin.ErrBig)
	decodes(t, "A=r(x:n,y:n);[A]", "\xc6\x01", listOf(99, "(N,N)"), 2)
	decodeRefuses(t, "A=r(x:n,y:n);[A]", "\xc8\x01", kin.ErrBig)
	decodes(t, "{n}", "\xd6\x04"+mapBytes(299), mapOf(299, "N"), 2+299*3)
	decodeRefuses(t, "{n}", "\xd8\x04"+mapBytes(300), kin.ErrBig)
	decodes(t, "[(n)]", "\xaa\x02"+strings.Repeat("\x00", 149), listOf(149, "<0:N>"), 151)
	decodeRefuses(t, "[(n)]", "\xac\x02"+strings.Repeat("\x00", 150), kin.ErrBig)
	decodes(t, "A=r(x:i,y:(n,A));A", strings.Repeat("\x02\x02", 98)+"\x02\x00", deep(99), 198)
	decodeRefuses(t, "A=r(x:i,y:(n,A));A", strings.Repeat("\x02\x02", 99)+"\x02\x00", kin.ErrBig)
	decodes(t, "A=r(x:[A]);A", strings.Repeat("\x02", 149)+"\x00", strings.Repeat("([", 150)+strings.Repeat("])", 150), 150)
	decodeRefuses(t, "A=r(x:[A]);A", strings.Repeat("\x02", 150)+"\x00", kin.ErrBig)
}

// Of a type that has no data, each datum has another one within: there is
// always one more, unless the bytes are wrong ahead of it.
func TestDecodeTypesWithoutData(t *testing.T) {
	for _, data := range []string{"", "\x00", "\xff", strings.Repeat("\xff", 4000)} {
		decodeRefuses(t, "A=r(x:A);A", data, kin.ErrBig)
		decodeRefuses(t, "A=r(x:A,y:A,z:A);A", data, kin.ErrBig)
		decodeRefuses(t, "A=r(x:B);B=r(x:n,y:A);A", data, kin.ErrBig)
		decodeRefuses(t, "A=r(x:A,y:t);A", data, kin.ErrBig)
	}
	decodeRefuses(t, "A=r(x:A);[A]", "\x02", kin.ErrBig)
	decodes(t, "A=r(x:A);[A]", "\x00", "[]", 1)
	// A and t by turns: the 150th t is the 300th node.
	decodeRefuses(t, "A=r(x:t,y:A);A", "", kin.ErrData)
	decodeRefuses(t, "A=r(x:t,y:A);A", strings.Repeat("\x01", 149), kin.ErrData)
	decodeRefuses(t, "A=r(x:t,y:A);A", strings.Repeat("\x01", 149)+"\x02", kin.ErrData)
	decodeRefuses(t, "A=r(x:t,y:A);A", strings.Repeat("\x01", 150), kin.ErrBig)
	decodeRefuses(t, "A=r(x:t,y:A);A", strings.Repeat("\x01", 150)+"\x02", kin.ErrBig)
	// The only branch has the type itself within.
	decodeRefuses(t, "A=r(x:(A));A", strings.Repeat("\x00", 149), kin.ErrData)
	decodeRefuses(t, "A=r(x:(A));A", strings.Repeat("\x00", 149)+"\x02", kin.ErrData)
	decodeRefuses(t, "A=r(x:(A));A", strings.Repeat("\x00", 150), kin.ErrBig)
}

func TestDecodeTellsWhatIsMetFirst(t *testing.T) {
	for _, c := range []struct {
		schema, data string
		e            kin.Errno
	}{
		// The 301st node has bytes that would be wrong, or none: it is not looked at.
		{"[t]", "\xd8\x04" + strings.Repeat("\x00", 298), kin.ErrData},
		{"[t]", "\xd8\x04" + strings.Repeat("\x00", 298) + "\x02", kin.ErrData},
		{"[t]", "\xd8\x04" + strings.Repeat("\x00", 299), kin.ErrBig},
		{"[t]", "\xd8\x04" + strings.Repeat("\x00", 299) + "\x02", kin.ErrBig},
		{"[i]", "\xfe\xff\xff\xff\xff\xff\xff\xff\xff\x01" + strings.Repeat("\x00", 298) + "\x80", kin.ErrData},
		{"[i]", "\xfe\xff\xff\xff\xff\xff\xff\xff\xff\x01" + strings.Repeat("\x00", 299) + "\x80", kin.ErrBig},
		{"[s]", "\xd8\x04" + strings.Repeat("\x00", 299) + "\x01", kin.ErrBig},
		// How many there are comes ahead of them.
		{"[n]", "\xd8\x84\x00", kin.ErrData},
		{"[[n]]", "\x04\xd2\x04\xff", kin.ErrData}, // the second list is the 300th node
		{"[[n]]", "\x04\xd2\x04\x01", kin.ErrData},
		{"[[n]]", "\x04\xd2\x04", kin.ErrData},
		{"[[n]]", "\x04\xd2\x04\x02", kin.ErrBig},
		{"[[n]]", "\x04\xd4\x04", kin.ErrBig},
		{"[[n]]", "\x04\xd4\x04\x01", kin.ErrBig},
		// A key comes ahead of what stands under it, and is no node.
		{"{n}", "\xd8\x04" + mapBytes(299), kin.ErrData},
		{"{n}", "\xd8\x04" + mapBytes(299) + "\x02A", kin.ErrData},
		{"{n}", "\xd8\x04" + mapBytes(299) + "\x04" + key(298), kin.ErrData},
		{"{n}", "\xd8\x04" + mapBytes(299) + "\x04" + key(299), kin.ErrBig},
		{"{t}", "\x02\x02a", kin.ErrData},
		// Likewise which branch, of the 300th node.
		{"[(t)]", "\xac\x02" + strings.Repeat("\x00\x00", 149), kin.ErrData},
		{"[(t)]", "\xac\x02" + strings.Repeat("\x00\x00", 149) + "\x02", kin.ErrData},
		{"[(t)]", "\xac\x02" + strings.Repeat("\x00\x00", 149) + "\x00", kin.ErrBig},
		{"[(t)]", "\xac\x02" + strings.Repeat("\x00\x00", 149) + "\x00\x02", kin.ErrBig},
		// What is wrong further behind is not met.
		{"A=r(x:[n],y:t);A", "\xd6\x04\x02", kin.ErrBig},
		{"A=r(x:[n],y:t);A", "\xd4\x04\x02", kin.ErrBig},
		{"A=r(x:[n],y:t);A", "\xd2\x04\x02", kin.ErrData},
		{"A=r(x:t,y:[n]);A", "\x02\xd6\x04", kin.ErrData},
	} {
		decodeRefuses(t, c.schema, c.data, c.e)
	}
}

func TestDecodeTellsTheErrorNamedFirst(t *testing.T) {
	long := strings.Repeat("\xff", 4001)
	decodeRefuses(t, strings.Repeat("[", 301), long, kin.ErrLong)
	decodeRefuses(t, "[n", long, kin.ErrSchema)
	decodeRefuses(t, "", "", kin.ErrSchema)
	decodeRefuses(t, "[A]", long, kin.ErrName)
	decodeRefuses(t, "(n,n)", long, kin.ErrUnion)
	decodeRefuses(t, "A=r(x:n=T);t", long, kin.ErrDatum)
	decodeRefuses(t, "A=r(x:n=T);t", "\x02", kin.ErrDatum)
	decodeRefuses(t, "t", long, kin.ErrLong)
	decodeRefuses(t, "A=r(x:A);A", long, kin.ErrLong)
}
