package kin_test

import (
	"strconv"
	"strings"
	"testing"

	"kin/kin"
)

// bytesOf are those of a datum that Encode takes.
func bytesOf(t *testing.T, schema, datum string) string {
	t.Helper()
	bytes, e := kin.Encode(schema, datum)
	if e != kin.OK {
		t.Fatalf("Encode(%q, %.60q) = %d", schema, datum, e)
	}
	return bytes
}

// resolves asks with other bytes behind the datum's, too: they do not matter.
func resolves(t *testing.T, writer, reader, datum, want string) {
	t.Helper()
	bytes := bytesOf(t, writer, datum)
	for _, behind := range []string{"", "\x00", "z\xff"} {
		if text, n, e := kin.Resolve(writer, reader, bytes+behind); text != want || n != len(bytes) || e != kin.OK {
			t.Errorf("Resolve(%q, %q, of %.60q) = %.60q, %d, %d, want %.60q, %d, OK", writer, reader, datum, text, n, e, want, len(bytes))
		}
	}
}

func resolveRefuses(t *testing.T, writer, reader, data string, want kin.Errno) {
	t.Helper()
	if text, n, e := kin.Resolve(writer, reader, data); text != "" || n != 0 || e != want {
		t.Errorf("Resolve(%q, %q, %.60q) = %.60q, %d, %d, want nothing, 0, %d", writer, reader, data, text, n, e, want)
	}
}

// makesNothing asks with other bytes behind the datum's, too.
func makesNothing(t *testing.T, writer, reader, datum string) {
	t.Helper()
	bytes := bytesOf(t, writer, datum)
	resolveRefuses(t, writer, reader, bytes, kin.ErrKin)
	resolveRefuses(t, writer, reader, bytes+"\xff", kin.ErrKin)
}

// kindDefs are the names of kinds.
const kindDefs = "A=r();B=e(a);C=f1;D=r();E=e(a);F=f1;"

// kinds are a type of each kind, and data of it.
var kinds = [][]string{
	{"n", "N"}, {"t", "T", "F"}, {"i", "0", "-2147483648", "2147483647"}, {"l", "0", "-9223372036854775808", "9223372036854775807"},
	{"s", `""`, `"az"`}, {"[n]", "[]", "[N,N]"}, {"{n}", "{}", "{:N,ab:N}"},
	{"A", "()"}, {"B", "a"}, {"C", "'q'"}, {"D", "()"}, {"E", "a"}, {"F", "'q'"},
}

// P6: two types match, if they are of one kind; and an i is read as an l.
func TestResolveWhatMatches(t *testing.T) {
	for _, w := range kinds {
		for _, r := range kinds {
			writer, reader := kindDefs+w[0], kindDefs+r[0]
			for _, datum := range w[1:] {
				if w[0] == r[0] || w[0] == "i" && r[0] == "l" {
					resolves(t, writer, reader, datum, datum)
				} else {
					makesNothing(t, writer, reader, datum)
				}
			}
		}
	}
}

// What a name is defined as must be of one kind too; of an enumeration and a
// record nothing more is asked, of bytes that they are as many.
func TestResolveWhatNamesMean(t *testing.T) {
	bodies := [][2]string{{"r()", "()"}, {"e(a)", "a"}, {"f0", "''"}, {"f1", "'a'"}, {"f9", "'abcdefghi'"}}
	for _, w := range bodies {
		for _, r := range bodies {
			for _, name := range []string{"A", "F"} {
				writer, reader := name+"="+w[0]+";"+name, name+"="+r[0]+";"+name
				if w[0] == r[0] {
					resolves(t, writer, reader, w[1], w[1])
				} else {
					makesNothing(t, writer, reader, w[1])
				}
			}
		}
	}
	makesNothing(t, "A=r();B=r();A", "A=r();B=r();B", "()")
	makesNothing(t, "A=f1;A", "B=f1;B", "'a'")
	makesNothing(t, "A=e(a);A", "B=e(a!a);B", "a")
	// A name has its own meaning in each schema, wherever it is defined.
	resolves(t, "A=f1;B=f2;[B]", "C=r();B=f2;A=r();[B]", "['ab']", "['ab']")
}

func TestResolveOutOfBranches(t *testing.T) {
	for _, c := range [][4]string{
		{"(i)", "i", "<0:5>", "5"}, {"(i,s)", "l", "<0:5>", "5"}, {"(i,s)", "s", `<1:"a">`, `"a"`}, {"(n,[i])", "[l]", "<1:[1,2]>", "[1,2]"},
		{"[(i,n)]", "[i]", "[<0:1>,<0:2>]", "[1,2]"}, {"{(i,n)}", "{i}", "{a:<0:1>}", "{a:1}"}, {"[(i,n)]", "[s]", "[]", "[]"},
		{"A=r(x:(n,i));A", "A=r(x:l);A", "(<1:7>)", "(7)"}, {"A=r(x:(n,A));A", "A=r(x:(A,n));A", "(<1:(<0:N>)>)", "(<0:(<1:N>)>)"},
		{"([(i,n)],n)", "[i]", "<0:[<0:3>]>", "[3]"},
	} {
		resolves(t, c[0], c[1], c[2], c[3])
	}
	for _, c := range [][3]string{
		{"(i,s)", "l", `<1:"a">`}, {"(i,s)", "s", "<0:5>"}, {"(l)", "i", "<0:5>"}, {"[(i,n)]", "[i]", "[<0:1>,<1:N>]"}, {"(n,[i])", "[s]", "<1:[1]>"},
		{"A=r(x:(n,i));A", "A=r(x:l);A", "(<0:N>)"}, {"{(i,n)}", "{i}", "{a:<0:1>,b:<1:N>}"},
	} {
		makesNothing(t, c[0], c[1], c[2])
	}
}

func TestResolveIntoBranches(t *testing.T) {
	for i, w := range kinds {
		var all, others []string
		for k, r := range kinds {
			all = append(all, r[0])
			if k != i && !(w[0] == "i" && r[0] == "l") {
				others = append(others, r[0])
			}
		}
		writer := kindDefs + w[0]
		for _, datum := range w[1:] {
			resolves(t, writer, kindDefs+"("+strings.Join(all, ",")+")", datum, "<"+strconv.Itoa(i)+":"+datum+">")
			makesNothing(t, writer, kindDefs+"("+strings.Join(others, ",")+")", datum)
			makesNothing(t, kindDefs+"[("+w[0]+")]", kindDefs+"[("+strings.Join(others, ",")+")]", "[<0:"+datum+">]")
		}
	}
	for _, c := range [][4]string{
		// An i is read as an i where both are there, in whatever order; else as an l.
		{"i", "(l,i)", "5", "<1:5>"}, {"i", "(i,l)", "5", "<0:5>"}, {"i", "(l,s,i,n)", "5", "<2:5>"}, {"i", "(i,s,l)", "5", "<0:5>"},
		{"i", "(s,l)", "5", "<1:5>"}, {"i", "(l)", "5", "<0:5>"}, {"l", "(i,l)", "5", "<1:5>"}, {"l", "(l,i)", "5", "<0:5>"},
		{"(i,l)", "(l,i)", "<0:5>", "<1:5>"}, {"(i,l)", "(l,i)", "<1:5>", "<0:5>"}, {"(n,i)", "(l,n)", "<1:5>", "<0:5>"},
		{"[i]", "[(n,l)]", "[1,2]", "[<1:1>,<1:2>]"}, {"[i]", "([l])", "[1]", "<0:[1]>"}, {"{i}", "(n,{(s,i)})", "{a:1}", "<1:{a:<1:1>}>"},
		{"A=f2;A", "A=f2;(n,A)", "'ab'", "<1:'ab'>"}, {"A=e(a,b);A", "A=e(b,c!c);(n,A)", "a", "<1:c>"},
		{"A=r(x:i);A", "A=r(x:(n,i));(n,A)", "(4)", "<1:(<1:4>)>"},
	} {
		resolves(t, c[0], c[1], c[2], c[3])
	}
	for _, c := range [][3]string{
		{"l", "(i)", "5"}, {"l", "(n,i,s)", "5"}, {"i", "(n)", "5"}, {"(i,l)", "(i,n)", "<1:5>"}, {"[i]", "({i},n)", "[]"},
		// A branch is taken by its kind alone: no other one is tried.
		{"[i]", "([s],{i})", "[1]"}, {"A=e(a,b);A", "A=e(b);(n,A)", "a"}, {"A=f1;A", "A=f2;(A,n)", "'a'"}, {"A=r();A", "A=f0;(A,n)", "()"},
	} {
		makesNothing(t, c[0], c[1], c[2])
	}
	resolves(t, "[i]", "([s],{i})", "[]", "<0:[]>")
}

func TestResolveListsAndMaps(t *testing.T) {
	resolves(t, "[i]", "[l]", "[1,-1,64]", "[1,-1,64]")
	resolves(t, "{i}", "{l}", "{:1,a:2,aa:3}", "{:1,a:2,aa:3}")
	resolves(t, "[[i]]", "[[(n,l)]]", "[[],[1],[2,3]]", "[[],[<1:1>],[<1:2>,<1:3>]]")
	resolves(t, "[i]", "[s]", "[]", "[]")
	resolves(t, "{i}", "{s}", "{}", "{}")
	makesNothing(t, "[i]", "[s]", "[1]")
	makesNothing(t, "{i}", "{s}", "{a:1}")
	makesNothing(t, "[(s,i)]", "[s]", `[<0:"">,<0:"">,<1:0>]`)
	makesNothing(t, "[[i]]", "[[s]]", "[[],[],[1]]")
	resolves(t, "[[i]]", "[[s]]", "[[],[]]", "[[],[]]")
}

func TestResolveSymbols(t *testing.T) {
	const writer = "A=e(a,b,c!b);[A]"
	// The symbol counts, not its number, nor which one is behind the writer's !.
	resolves(t, writer, "A=e(c,b,a);[A]", "[a,b,c]", "[a,b,c]")
	resolves(t, writer, "A=e(c,b,a!c);[A]", "[a,b,c]", "[a,b,c]")
	resolves(t, writer, "A=e(z,c,b,a!z);[A]", "[a,b,c]", "[a,b,c]")
	resolves(t, writer, "A=e(c,z!z);[A]", "[a,b,c]", "[z,z,c]")
	resolves(t, writer, "A=e(c!c);[A]", "[a,b,c]", "[c,c,c]")
	resolves(t, writer, "A=e(z,y!z);[A]", "[a,b,c]", "[z,z,z]")
	resolves(t, writer, "A=e(b);[A]", "[b,b]", "[b,b]")
	makesNothing(t, writer, "A=e(b);[A]", "[b,a]")
	makesNothing(t, writer, "A=e(a,c);[A]", "[b]")
	makesNothing(t, "A=e(a!a);A", "A=e(b);A", "a")
}

func TestResolveFields(t *testing.T) {
	for _, c := range [][4]string{
		// Fields go by their letters; those that the reader lacks are left out.
		{"A=r(x:i,y:s);A", "A=r(y:s,x:l);A", `(1,"a")`, `("a",1)`}, {"A=r(x:i,y:s);A", "A=r(y:s);A", `(1,"a")`, `("a")`},
		{"A=r(x:i,y:s);A", "A=r();A", `(1,"a")`, "()"}, {"A=r(x:i,y:s,z:n);A", "A=r(z:n,x:i);A", `(1,"",N)`, "(N,1)"},
		{"A=r(a:t,b:t,c:t);A", "A=r(c:t,a:t);A", "(T,F,F)", "(F,T)"},
		// Defaults are for fields that the writer lacks alone.
		{"A=r();A", "A=r(x:i=7);A", "()", "(7)"}, {"A=r(x:i);A", "A=r(x:i=7);A", "(1)", "(1)"}, {"A=r(x:i=7);A", "A=r(x:i);A", "(1)", "(1)"},
		{"A=r(x:i=7);A", "A=r(x:l=8,y:l=9);A", "(1)", "(1,9)"}, {"A=r(y:i);A", `A=r(x:s="ab",y:i,z:[n]=[N,N]);A`, "(1)", `("ab",1,[N,N])`},
		{"A=r(x:i);A", `A=r(y:(s,n)="q",x:(n,l));A`, "(2)", `(<0:"q">,<1:2>)`},
		{"A=r();A", "A=r(x:(i,s)=-7);A", "()", "(<0:-7>)"}, {"A=r();A", "A=r(x:[(n,i)]=[N,N]);A", "()", "([<0:N>,<0:N>])"},
		{"A=r();A", "A=r(x:{([(t,n)],n)}={:[],a:[T,F]});A", "()", "({:<0:[]>,a:<0:[<0:T>,<0:F>]>})"},
		{"A=r();A", "A=r(x:B=(1,N));B=r(x:i,y:(n,B));A", "()", "((1,<0:N>))"}, {"A=r();A", "A=r(x:(B,n)=(1,N));B=r(x:i,y:(n,B));A", "()", "(<0:(1,<0:N>)>)"},
		{"A=r();A", "A=r(x:B=b,y:C='ab',z:t=T);B=e(a,b!a);C=f2;A", "()", "(b,'ab',T)"},
		{"A=r();A", "A=r(x:l=9223372036854775807,y:l=-9223372036854775808);A", "()", "(9223372036854775807,-9223372036854775808)"},
		// Within, too.
		{"A=r(x:[A]);A", "A=r(x:[A],n:[n]=[]);A", "([([])])", "([([],[])],[])"},
		{"A=r(x:i,y:(n,A));A", "A=r(y:(A,n),z:t=T);A", "(1,<1:(2,<0:N>)>)", "(<0:(<1:N>,T)>,T)"},
		{"A=r(x:B);B=r(y:i);{A}", "A=r(x:B,z:B=(5));B=r(y:l);{A}", "{a:((1)),b:((2))}", "{a:((1),(5)),b:((2),(5))}"},
		// Of fields that the reader lacks nothing need be made.
		{"A=r(x:B,y:i);B=e(a);A", "A=r(y:i);B=f1;A", "(a,1)", "(1)"}, {"A=r(x:i,y:B);B=r(z:n);A", "A=r(x:i);A", "(3,(N))", "(3)"},
		{"A=r(x:(n,A),y:i);A", "A=r(y:i);A", "(<1:(<0:N>,1)>,2)", "(2)"},
	} {
		resolves(t, c[0], c[1], c[2], c[3])
	}
	for _, c := range [][3]string{
		{"A=r(x:i);A", "A=r(y:s);A", "(2)"}, {"A=r(x:i);A", "A=r(x:i,y:n);A", "(2)"}, {"A=r(x:i);A", "A=r(y:n,x:i);A", "(2)"}, {"A=r();A", "A=r(x:(n,s));A", "()"},
		{"A=r(x:i=1);A", "A=r(x:i,y:i);A", "(2)"}, {"A=r(x:i);A", "A=r(y:i=3,z:i);A", "(2)"},
		// Where the writer has the field, its default does not help.
		{"A=r(x:i);A", `A=r(x:s="");A`, "(2)"}, {"A=r(x:l);A", "A=r(x:i=1);A", "(2)"}, {"A=r(x:i,y:s);A", "A=r(x:i,y:i);A", `(1,"")`},
		{"A=r(x:[A]);A", "A=r(x:[A],y:n);A", "([])"}, {"A=r(x:i,y:(n,A));A", "A=r(y:(A));A", "(1,<1:(2,<0:N>)>)"},
		{"A=r(x:B,y:i);B=e(a);A", "A=r(y:i,x:B);B=f1;A", "(a,1)"},
	} {
		makesNothing(t, c[0], c[1], c[2])
	}
}

// By the schema itself a reader makes what Decode tells, and is refused so.
func TestResolveByTheSameSchema(t *testing.T) {
	for _, c := range dataAndBytes {
		schema := defs + c[0]
		resolves(t, schema, schema, c[1], c[1])
		for _, data := range changed(c[2], []byte("\x00\x01\x02\x7f\x80\xffaz")) {
			text, n, e := kin.Decode(schema, data)
			if got, k, f := kin.Resolve(schema, schema, data); got != text || k != n || f != e {
				t.Errorf("Resolve(%q, the same, %q) = %q, %d, %d, want %q, %d, %d", schema, data, got, k, f, text, n, e)
			}
		}
	}
}

func TestResolveBig(t *testing.T) {
	for _, c := range []struct {
		writer, reader string
		bytes          func(count int) string // of so many data
		most           int                    // how many can be read
		item           string                 // what is made of each
	}{
		{"[n]", "[n]", count, 299, "N"},
		// A branch that the reader puts around each is a node.
		{"[n]", "[(n)]", count, 149, "<0:N>"},
		{"[i]", "[(s,l)]", zeros, 149, "<1:0>"},
		// Defaults have nodes; fields that the reader lacks have none.
		{"A=r();[A]", "A=r(x:n=N);[A]", count, 149, "(N)"},
		{"A=r();[A]", "A=r(x:(n,t)=N);[A]", count, 99, "(<0:N>)"},
		{"A=r();[A]", "A=r(x:[n]=[N,N,N,N,N,N,N]);[A]", count, 33, "([N,N,N,N,N,N,N])"},
		{"A=r(x:n);[A]", "A=r();[A]", count, 149, "()"},
	} {
		bytes := c.bytes(c.most)
		if text, n, e := kin.Resolve(c.writer, c.reader, bytes); text != listOf(c.most, c.item) || n != len(bytes) || e != kin.OK {
			t.Errorf("Resolve(%q, %q, of %d) = %.60q, %d, %d", c.writer, c.reader, c.most, text, n, e)
		}
		resolveRefuses(t, c.writer, c.reader, c.bytes(c.most+1), kin.ErrBig)
	}
	// What has too many nodes only as written can be too big to be decoded, not to be made.
	resolveRefuses(t, "[(n)]", "[n]", zeros(150), kin.ErrBig)
	resolves(t, "[(n)]", "[n]", listOf(149, "<0:N>"), listOf(149, "N"))
	// Of one datum: 300 nodes, and 301.
	const list = "[N,N,N,N,N,N,N,N,N,N,N,N,N,N,N,N,N,N,N,N]" // 21 nodes
	reader := "A=r(x:[B]);B=r(a:[n]=" + list + ",b:[n]=" + list + ");A"
	resolves(t, "A=r(x:[B]);B=r();A", reader, "([(),(),(),(),(),()])", "("+listOf(6, "("+list+","+list+")")+")") // 2+6*43 = 260
	resolveRefuses(t, "A=r(x:[B]);B=r();A", reader, "\x0e", kin.ErrBig)                                          // 303
	reader = "A=r(x:[B],y:[n]=" + list + ",z:[n]=[N,N,N,N,N,N,N,N,N,N,N,N,N,N,N,N,N,N]);B=r(a:[n]=" + list + ",b:[n]=" + list + ");A"
	resolves(t, "A=r(x:[B]);B=r();A", reader, "([(),(),(),(),(),()])",
		"("+listOf(6, "("+list+","+list+")")+","+list+","+listOf(18, "N")+")") // 260+21+19 = 300
	resolveRefuses(t, "A=r(x:[B]);B=r();A", strings.Replace(reader, "z:[n]=[", "z:[n]=[N,", 1), "\x0c", kin.ErrBig)
}

// count are the bytes of a list of so many data without bytes.
func count(n int) string {
	z := 2 * n
	if z < 128 {
		return string([]byte{byte(z)})
	}
	return string([]byte{byte(z%128 + 128), byte(z / 128)})
}

// zeros are the bytes of a list of so many data of the byte 0.
func zeros(n int) string { return count(n) + strings.Repeat("\x00", n) }

// Where nothing can be made, it does not matter how large the rest would be.
func TestResolveNothingAheadOfBig(t *testing.T) {
	resolveRefuses(t, "A=e(a,b);[A]", "A=e(a);[(A)]", zeros(299), kin.ErrBig)
	resolveRefuses(t, "A=e(a,b);[A]", "A=e(a);[(A)]", count(299)+strings.Repeat("\x00", 298)+"\x02", kin.ErrKin)
	resolveRefuses(t, "A=e(a,b);[A]", "A=e(a);[(A)]", count(299)+"\x02"+strings.Repeat("\x00", 298), kin.ErrKin)
	resolveRefuses(t, "A=e(a,b);[A]", "A=e(a);[(A)]", count(300)+"\x02"+strings.Repeat("\x00", 299), kin.ErrBig)
	resolveRefuses(t, "A=e(a,b);[A]", "A=e(a);[(A)]", count(299)+"\x02"+strings.Repeat("\x00", 297), kin.ErrData)
}

// Of a type without data nothing is read, so that none need be made either.
func TestResolveTypesWithoutData(t *testing.T) {
	resolveRefuses(t, "A=r(x:A);A", "A=r(x:A);A", "", kin.ErrBig)
	resolveRefuses(t, "A=r(x:A);A", "s", "", kin.ErrBig)
	resolves(t, "A=r(x:A);[A]", "[s]", "[]", "[]")
	resolves(t, "A=r(x:A);(n,A)", "n", "<0:N>", "N")
	// The reader's type has none: nothing can be made, unless it is in a list.
	makesNothing(t, "n", "A=r(x:A);A", "N")
	makesNothing(t, "A=r();A", "A=r(x:A);A", "()")
	makesNothing(t, "A=r(x:(n,A));A", "A=r(x:A);A", "(<1:(<0:N>)>)")
	resolves(t, "[n]", "A=r(x:A);[A]", "[]", "[]")
}

func TestResolveTellsTheErrorNamedFirst(t *testing.T) {
	long, many := strings.Repeat("\xff", 4001), strings.Repeat("[", 301)
	bad := []struct {
		schema string
		e      kin.Errno
	}{
		{many, kin.ErrLong}, {"", kin.ErrSchema}, {"[n", kin.ErrSchema}, {"x", kin.ErrSchema}, {"A", kin.ErrName}, {"A=e(a,a);n", kin.ErrName},
		{"(n,n)", kin.ErrUnion}, {"((n))", kin.ErrUnion}, {"A=r(x:n=T);n", kin.ErrDatum},
	}
	for _, w := range bad {
		// The writer's schema is looked at first, then the reader's, then the data.
		for _, r := range append(bad, bad[0]) {
			resolveRefuses(t, w.schema, r.schema, "", w.e)
			resolveRefuses(t, w.schema, r.schema, long, w.e)
		}
		for _, data := range []string{"", "\x00", "\x02", long} {
			resolveRefuses(t, w.schema, "t", data, w.e)
			resolveRefuses(t, "t", w.schema, data, w.e)
		}
	}
	// Then whether the data are right, and then whether they can be read.
	resolveRefuses(t, "i", "s", long, kin.ErrLong)
	resolveRefuses(t, "i", "s", strings.Repeat("\x00", 4001), kin.ErrLong)
	resolveRefuses(t, "i", "s", strings.Repeat("\x00", 4000), kin.ErrKin)
	resolveRefuses(t, "i", "s", "", kin.ErrData)
	resolveRefuses(t, "i", "s", "\x80", kin.ErrData)
	resolveRefuses(t, "i", "s", "\x80\x00", kin.ErrData)
	resolveRefuses(t, "i", "i", "\x80\x80\x80\x80\x10", kin.ErrData)
	resolveRefuses(t, "i", "l", "\x80\x80\x80\x80\x10", kin.ErrData)
	resolveRefuses(t, "(i,s)", "l", "\x02\x02A", kin.ErrData)
	resolveRefuses(t, "[n]", "s", count(300), kin.ErrBig)
	resolveRefuses(t, "[n]", "s", count(299), kin.ErrKin)
	// Data are read to their end, also what the reader lacks.
	resolveRefuses(t, "A=r(x:n,y:t);A", "A=r(x:n);A", "\x02", kin.ErrData)
	resolveRefuses(t, "A=r(x:n,y:t);A", "A=r(x:i);A", "\x02", kin.ErrData)
	resolveRefuses(t, "A=r(x:n,y:[n]);A", "A=r(x:n);A", count(298), kin.ErrBig)
	resolves(t, "A=r(x:n,y:[n]);A", "A=r(x:n);A", "(N,"+listOf(297, "N")+")", "(N)")
}
