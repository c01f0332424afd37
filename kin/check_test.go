package kin_test

import (
	"strings"
	"testing"

	"kin/data"
	"kin/kin"
	"kin/notation"
	"kin/schemas"
	"kin/types"
)

func checks(t *testing.T, writer, reader string) {
	t.Helper()
	if ok, datum, e := kin.Check(writer, reader); !ok || datum != "" || e != kin.OK {
		t.Errorf("Check(%q, %q) = %v, %.60q, %d, want true, nothing, OK", writer, reader, ok, datum, e)
	}
}

// shows looks at the datum that is shown: any one will do of which the writer
// makes bytes, and the reader nothing.
func shows(t *testing.T, writer, reader string) {
	t.Helper()
	ok, datum, e := kin.Check(writer, reader)
	if ok || datum == "" || e != kin.OK {
		t.Errorf("Check(%q, %q) = %v, %.60q, %d, want false, a datum, OK", writer, reader, ok, datum, e)
		return
	}
	bytes, e := kin.Encode(writer, datum)
	if e != kin.OK || len(bytes) > 4000 {
		t.Errorf("Check(%q, %q) shows %.60q: Encode answers %d bytes, %d", writer, reader, datum, len(bytes), e)
	}
	resolveRefuses(t, writer, reader, bytes, kin.ErrKin)
}

func checkRefuses(t *testing.T, writer, reader string, want kin.Errno) {
	t.Helper()
	if ok, datum, e := kin.Check(writer, reader); ok || datum != "" || e != want {
		t.Errorf("Check(%q, %q) = %v, %.60q, %d, want false, nothing, %d", writer, reader, ok, datum, e, want)
	}
}

func TestCheckWhatMatches(t *testing.T) {
	for _, w := range kinds {
		for _, r := range kinds {
			for _, around := range [][2]string{{"", ""}, {"[", "]"}, {"{", "}"}, {"(", ")"}, {"[({", "})]"}} {
				writer, reader := kindDefs+around[0]+w[0]+around[1], kindDefs+around[0]+r[0]+around[1]
				if w[0] == r[0] || w[0] == "i" && r[0] == "l" {
					checks(t, writer, reader)
				} else {
					shows(t, writer, reader)
				}
			}
		}
	}
}

// All data of a schema can be read by itself.
func TestCheckByTheSameSchema(t *testing.T) {
	for _, s := range goodSchemas {
		checks(t, s, s)
	}
	for _, c := range dataAndBytes {
		checks(t, defs+c[0], defs+c[0])
	}
}

func TestCheckBranches(t *testing.T) {
	for _, c := range [][2]string{
		{"(i,s)", "(l,s)"}, {"(i,s)", "(s,i)"}, {"(i,l)", "l"}, {"(i)", "i"}, {"i", "(n,i)"}, {"i", "(n,l)"}, {"(i,l)", "(l,i)"}, {"(i,l)", "(n,l)"},
		{"[(i,n)]", "[(n,t,l)]"}, {"([i],n)", "(n,[(i)])"}, {"{i}", "({l})"},
	} {
		checks(t, c[0], c[1])
	}
	for _, c := range [][2]string{
		{"(i,s)", "l"}, {"(i,s)", "s"}, {"(i,s)", "(i,n)"}, {"(i,l)", "i"}, {"(i,l)", "(i,n)"}, {"l", "(i,n)"}, {"i", "(n)"}, {"(n,t,i,l,s)", "(n,t,i,s)"},
		{"[(i,n)]", "[i]"}, {"([i],n)", "(n,[s])"}, {"([i],n)", "(n,{i})"}, {"[i]", "([s],{i})"},
	} {
		shows(t, c[0], c[1])
	}
}

func TestCheckSymbols(t *testing.T) {
	for _, around := range [][2]string{{"", ""}, {"[", "]"}, {"{", "}"}, {"(n,", ")"}} {
		root := around[0] + "A" + around[1]
		checks(t, "A=e(a,b);"+root, "A=e(b,a);"+root)
		checks(t, "A=e(a,b);"+root, "A=e(c,b,a);"+root)
		checks(t, "A=e(a,b);"+root, "A=e(a!a);"+root)
		checks(t, "A=e(a,b);"+root, "A=e(c!c);"+root)
		shows(t, "A=e(a,b);"+root, "A=e(a);"+root)
		shows(t, "A=e(a,b);"+root, "A=e(b,c);"+root)
		shows(t, "A=e(a,b!a);"+root, "A=e(a);"+root)
		shows(t, "A=e(a,b!b);"+root, "A=e(c);"+root)
	}
}

func TestCheckFields(t *testing.T) {
	for _, c := range [][2]string{
		{"A=r(x:i,y:s);A", "A=r(y:s,x:l);A"}, {"A=r(x:i,y:s);A", "A=r(y:s);A"}, {"A=r(x:i,y:s);A", "A=r();A"},
		{"A=r(x:i);A", "A=r(x:i,y:n=N);A"}, {"A=r(x:i);A", "A=r(y:(n,A)=N,x:(i));A"}, {"A=r(x:i,y:(n,A));A", "A=r(y:(n,A),x:l);A"},
		{"A=r(x:i,y:B);B=e(a);A", "A=r(x:i);B=f1;A"}, {"A=r(x:[A]);A", "A=r(x:[A],y:[n]=[]);A"},
		{"A=r(x:(n,B));B=r(x:(A,n));A", "B=r(x:(A,n),z:t=T);A=r(x:(n,B));A"}, {"A=r(x:(n,A));A", "A=r(x:(n,A));(n,A)"},
	} {
		checks(t, c[0], c[1])
	}
	for _, c := range [][2]string{
		{"A=r(x:i);A", "A=r(x:i,y:n);A"}, {"A=r();A", "A=r(y:(n,t));A"}, {"A=r(x:i);A", `A=r(x:s="");A`}, {"A=r(x:i=1);A", "A=r(y:i);A"},
		{"A=r(x:i);A", "A=r(y:n=N,x:s);A"}, {"A=r(x:i);A", "A=r(y:n=N,z:n);A"}, {"A=r(x:i,z:i);A", "A=r(z:i,y:n=N,x:s);A"},
		{"A=r(x:i,y:(n,A));A", "A=r(y:(n,A),x:s);A"}, {"A=r(x:i,y:(n,A));A", "A=r(y:(A),x:l);A"}, {"A=r(x:i,y:(n,A));A", "A=r(y:(n),x:l);A"},
		{"A=r(x:i,y:B);B=e(a);A", "A=r(y:B);B=f1;A"}, {"A=r(x:[A]);A", "A=r(x:[A],y:n);A"}, {"A=r(x:[A]);A", "A=r(x:[n]);A"}, {"A=r();A", "B=r();B"},
		// Only of data that go deep nothing can be made.
		{"A=r(x:(n,B));B=r(x:(n,C));C=r(x:(n,D));D=r(x:n);A", "A=r(x:(n,B));B=r(x:(n,C));C=r(x:(n,D));D=r(x:t);A"},
		{"A=r(x:(n,B));B=r(x:{C},y:s);C=r(a:t,x:[D],z:D);D=e(a,b);A", "A=r(x:(n,B));B=r(x:{C},y:s);C=r(x:[D]);D=e(a);A"},
		{"A=r(x:[B],y:B);B=r(x:C,y:C);C=r(x:n,y:(n,A));A", "A=r(x:[B]);B=r(y:C);C=r(y:(A));A"},
	} {
		shows(t, c[0], c[1])
	}
}

// Of a type that has no data, all data can be read, by whatever type.
func TestCheckTypesWithoutData(t *testing.T) {
	for _, none := range []string{
		"A=r(x:A);", "A=r(x:n,y:A);", "A=r(x:B);B=r(x:A);", "A=r(x:(A));", "A=r(x:(A,B));B=r(x:(B,A),y:n);", "A=r(x:[n],y:B);B=r(z:B);",
	} {
		for _, reader := range []string{"n", "s", "[n]", "(n,t)", "A=r();A", "A=r(y:n);A", "A=f0;A", "A=r(x:A);A"} {
			checks(t, none+"A", reader)
			checks(t, none+"(A)", reader)
		}
		checks(t, none+"[A]", "[s]")
		checks(t, none+"{A}", "{s}")
		checks(t, none+"[[A]]", "[[s]]")
		checks(t, none+"[(A)]", "[s]")
		checks(t, none+"(n,A)", "n")
		checks(t, none+"(n,A)", "(s,n)")
		checks(t, none+"C=r(x:A,y:i);C", "C=r(x:s,y:s);C")
		checks(t, none+"C=r(x:i,y:A);C", "C=r(x:s,z:n);C")
		checks(t, none+"C=r(x:i,y:[A]);C", "C=r(x:i,y:[s]);C")
		// Other data of the whole are there all the same.
		shows(t, none+"[A]", "s")
		shows(t, none+"[A]", "{s}")
		shows(t, none+"(A,n)", "s")
		shows(t, none+"C=r(x:i,y:[A]);C", "C=r(x:s);C")
		shows(t, none+"C=r(x:i,y:{A});C", "C=r(y:[s]);C")
		shows(t, none+"C=r(x:(A,n));C", none+"C=r(x:(A));C")
	}
	// A ring that has a way out has data.
	shows(t, "A=r(x:(A,n));A", "s")
	shows(t, "A=r(x:[A]);A", "s")
	shows(t, "A=r(x:{A});A", "s")
	shows(t, "A=r(x:B);B=r(x:(A,C));C=r();A", "s")
	// The reader's type may have none, too.
	shows(t, "n", "A=r(x:A);A")
	shows(t, "A=r();A", "A=r(x:A);A")
	shows(t, "A=r(x:(n,A));A", "A=r(x:A);A")
	shows(t, "[n]", "A=r(x:A);[A]")
	checks(t, "A=r(x:A);A", "A=r(x:A);A")
}

// Names in rings: what is found of the one when the other is not known yet is
// not all that there is.
func TestCheckRings(t *testing.T) {
	// Of C there are data only by way of B, which asks for C itself; A needs both.
	const inhabited = "A=r(x:B,y:D);B=r(x:(C,s));C=r(x:B);D=r(x:C);"
	shows(t, inhabited+"A", "n")
	shows(t, inhabited+"(A)", "(n)")
	shows(t, inhabited+"A", "A=r(z:n);A")
	shows(t, inhabited+"A", "A=r(x:n);A")
	shows(t, inhabited+"A", strings.Replace(inhabited, "s", "n", 1)+"A")
	shows(t, inhabited+"E=r(x:A,y:i);E", "E=r(y:s);E")
	checks(t, inhabited+"A", inhabited+"A")
	// Of A nothing is shown: it has no data, or only large ones. Of D something is.
	const ring = "A=r(x:B,y:E);B=r(x:(C,i));C=r(x:B);D=r(x:C);"
	const reader = "A=r(x:B,y:E);B=r(x:(C,s));C=r(x:B);D=r(x:C);E=r();(A,D)"
	for _, e := range []string{"E=r(x:E);", "E=" + many(20, "F") + ";F=" + many(20, "n") + ";"} {
		shows(t, ring+e+"(A,D)", reader)
		shows(t, ring+e+"(D,A)", reader)
	}
}

// many is a record of so many fields of a type.
func many(count int, t string) string {
	var fields []string
	for i := range count {
		fields = append(fields, string([]byte{byte('a' + i), ':'})+t)
	}
	return "r(" + strings.Join(fields, ",") + ")"
}

func TestCheckBig(t *testing.T) {
	// The one datum of A has 1+13*(1+22) = 300 nodes.
	a300 := "A=" + many(13, "B") + ";B=" + many(22, "n") + ";"
	shows(t, a300+"A", "s")
	checkRefuses(t, a300+"(A)", "s", kin.ErrBig)
	checkRefuses(t, a300+"(A)", "(s,n)", kin.ErrBig)
	checkRefuses(t, a300+"[A]", "[s]", kin.ErrBig)
	checkRefuses(t, a300+"{A}", "{s}", kin.ErrBig)
	checkRefuses(t, a300+"C=r(x:A);C", "s", kin.ErrBig)
	checkRefuses(t, a300+"C=r(x:A);C", "C=r();D=r();D", kin.ErrBig)
	// It matters only where it must be there.
	shows(t, a300+"[A]", "s")
	shows(t, a300+"[A]", "{s}")
	shows(t, a300+"(A,n)", "s")
	shows(t, a300+"C=r(x:(A,n));C", "s")
	shows(t, a300+"C=r(x:[A],y:i);C", "C=r(y:s);C")
	checkRefuses(t, a300+"C=r(x:[A],y:i);C", "C=r(x:[s]);C", kin.ErrBig)
	checkRefuses(t, a300+"(A,n)", "n", kin.ErrBig)
	shows(t, a300+"(n,A)", "A=f0;A")
	// What is wrong in one field of the many is as large as the whole.
	shows(t, a300+"A", strings.Replace(a300, "v:n", "v:t", 1)+"A")
	shows(t, a300+"A", "A=r(z:n);A")
	checkRefuses(t, a300+"(A)", strings.Replace(a300, "v:n", "v:t", 1)+"A", kin.ErrBig)
	checkRefuses(t, a300+"(A)", "A=r(z:n);(A)", kin.ErrBig)
	// However large they are, they can be read.
	checks(t, a300+"(A)", a300+"A")
	checks(t, a300+"[A]", a300+"[A]")
	checks(t, a300+"(A)", "A=r();A")
	checks(t, a300+"(A)", "A=r(z:n=N);A")
	checks(t, a300+"(A)", "A=r(a:B);B=r(v:n);A")
	// 297 nodes, and so on up to 301.
	for fields := range 5 {
		schema := "A=" + many(14, "B") + ";B=" + many(20, "n") + ";C=" + many(fields, "n") + ";D=r(x:A,y:C);D" // 295 of A, 1+fields of C
		if fields <= 3 {
			shows(t, schema, "s")
		} else {
			checkRefuses(t, schema, "s", kin.ErrBig)
		}
	}
}

// The data that are shown are short enough for Encode, whatever they are of.
func TestCheckShowsShortTexts(t *testing.T) {
	for _, c := range []struct {
		leaf  string
		nodes int
	}{
		{"f9", 1}, {"f0", 1}, {"r()", 1}, {"e(a)", 1}, {"r(x:l,y:s)", 3}, {"r(x:(i,s,n))", 3}, {"r(x:([n],s))", 3}, {"r(x:l,y:(n,l,i),z:s)", 5},
	} {
		for fields := range 27 {
			schema := "A=" + many(fields, "B") + ";B=" + many(10, "C") + ";C=" + c.leaf + ";A"
			if 1+fields*(1+10*c.nodes) <= 300 {
				shows(t, schema, "n")
			} else {
				checkRefuses(t, schema, "n", kin.ErrBig)
			}
		}
	}
	// 286 data of 11 signs each, and as many commas: the longest texts that need be.
	shows(t, "A="+many(11, "B")+";B="+many(26, "C")+";C=f9;A", "n")
	shows(t, "A="+many(11, "B")+";B="+many(26, "C")+";C=f9;[A]", "[n]")
	// As deep as a schema can be.
	shows(t, "A=f9;"+strings.Repeat("{(", 73)+"A"+strings.Repeat(")}", 73), strings.Repeat("{", 73)+"n"+strings.Repeat("}", 73))
	shows(t, strings.Repeat("[", 149)+"i"+strings.Repeat("]", 149), strings.Repeat("[", 149)+"s"+strings.Repeat("]", 149))
}

func TestCheckExamples(t *testing.T) {
	checks(t, "(i,s)", "(l,s)")
	shows(t, "(i,s)", "l")
	shows(t, "A=e(a,b);[A]", "A=e(a);[A]")
	checks(t, "A=e(a,b);[A]", "A=e(a!a);[A]")
	checks(t, "A=r(x:A);A", "s")
}

func TestCheckTellsTheErrorNamedFirst(t *testing.T) {
	bad := []struct {
		schema string
		e      kin.Errno
	}{
		{strings.Repeat("[", 301), kin.ErrLong}, {"", kin.ErrSchema}, {"[n", kin.ErrSchema}, {"A=r(x:A);x", kin.ErrSchema}, {"A", kin.ErrName},
		{"A=e(a!b);n", kin.ErrName}, {"(n,n)", kin.ErrUnion}, {"((n))", kin.ErrUnion}, {"A=r(x:n=T);n", kin.ErrDatum},
	}
	big := "A=" + many(20, "B") + ";B=" + many(20, "n") + ";A"
	for _, w := range bad {
		for _, r := range append(bad, bad[0]) {
			checkRefuses(t, w.schema, r.schema, w.e)
		}
		for _, s := range []string{"n", "s", "A=r(x:A);A", big} {
			checkRefuses(t, w.schema, s, w.e)
			checkRefuses(t, s, w.schema, w.e)
		}
	}
	checkRefuses(t, big, "n", kin.ErrBig)
}

// variants are schemas of like names, so that many of them can read much of
// what the others write.
var variants = []string{
	"A", "[A]", "{A}", "(n,A)", "(A,i)", "i", "(l,i)", "[(n,l)]",
}

var variantDefs = []string{
	"A=r(x:i);", "A=r(x:l,y:t=T);", "A=r(y:t);", "A=r(x:(n,A));", "A=r(x:(A,i),y:n=N);", "A=r(x:A);", "A=r(x:[A]);", "A=r(x:[A],y:B);B=e(a,b);",
	"A=r(y:B,x:{A});B=e(b,c!c);", "A=r(x:[(A,i)],y:B=a);B=e(a);", "A=e(a,b);", "A=e(b!b);", "A=f1;", "A=f2;", "A=r(x:B,y:(n,B));B=r(x:(n,t),y:i);",
	"A=r(y:(B,n),x:B);B=r(y:(n,l),x:(t,n));", "A=r(x:(B),y:(B,n));B=r(z:A);", "A=r();",
}

// dataOf are all data of a type with at most so many nodes, but for a few of
// each leaf and of each key.
func dataOf(s types.Schema, t types.Type, nodes int) []data.Datum {
	if nodes < 1 {
		return nil
	}
	switch t := t.(type) {
	case types.Nothing:
		return []data.Datum{data.Nothing{}}
	case types.Truth:
		return []data.Datum{data.Truth(false), data.Truth(true)}
	case types.Int, types.Long:
		return []data.Datum{data.Number(-1)}
	case types.Text:
		return []data.Datum{data.Text("a")}
	case types.Bytes:
		return []data.Datum{data.Bytes("abcdefghi"[:t.Size])}
	case types.Enum:
		var all []data.Datum
		for i, symbol := range t.Symbols {
			all = append(all, data.Symbol{Letter: symbol.Byte, Number: i})
		}
		return all
	case types.Name:
		return dataOf(s, s.Meaning(t.Letter), nodes)
	case types.Union:
		var all []data.Datum
		for i, branch := range t.Branches {
			for _, d := range dataOf(s, branch, nodes-1) {
				all = append(all, data.Branch{Number: i, Datum: d})
			}
		}
		return all
	case types.List:
		all := []data.Datum{data.List{}}
		for count := 1; count < nodes && count <= 2; count++ {
			for _, row := range rowsOf(s, count, func(int) types.Type { return t.Item }, nodes-1) {
				all = append(all, data.List(row))
			}
		}
		return all
	case types.Map:
		all := []data.Datum{data.Map{}}
		for _, d := range dataOf(s, t.Item, nodes-1) {
			all = append(all, data.Map{{Key: "", Datum: d}}, data.Map{{Key: "k", Datum: d}})
		}
		return all
	case types.Record:
		var all []data.Datum
		for _, row := range rowsOf(s, len(t.Fields), func(i int) types.Type { return t.Fields[i].Type }, nodes-1) {
			all = append(all, data.Record(row))
		}
		return all
	}
	return nil
}

// rowsOf are all rows of so many data that have at most so many nodes together.
func rowsOf(s types.Schema, count int, typeOf func(int) types.Type, nodes int) [][]data.Datum {
	if count == 0 {
		return [][]data.Datum{nil}
	}
	var all [][]data.Datum
	for _, row := range rowsOf(s, count-1, typeOf, nodes-1) {
		for _, d := range dataOf(s, typeOf(count-1), nodes-sizeOf(row)) {
			all = append(all, append(row[:len(row):len(row)], d))
		}
	}
	return all
}

func sizeOf(row []data.Datum) int {
	size := 0
	for _, d := range row {
		size++
		switch d := d.(type) {
		case data.List:
			size += sizeOf(d)
		case data.Record:
			size += sizeOf(d)
		case data.Branch:
			size += sizeOf([]data.Datum{d.Datum})
		case data.Map:
			for _, entry := range d {
				size += sizeOf([]data.Datum{entry.Datum})
			}
		}
	}
	return size
}

// P6 and P7 together: of all small data something can be made, if Check says
// so; if of one of them nothing can be made, Check does not say so.
func TestCheckAndResolveAgree(t *testing.T) {
	var all []string
	for _, defs := range variantDefs {
		for _, root := range variants {
			all = append(all, defs+root)
		}
	}
	answered := map[string]int{}
	for _, writer := range all {
		s, err := schemas.Read(writer)
		if err != nil {
			t.Fatal(err)
		}
		var bytes []string
		for _, d := range dataOf(s, s.Root, 6) {
			bytes = append(bytes, bytesOf(t, writer, notation.Write(d)))
		}
		for _, reader := range all {
			ok, datum, e := kin.Check(writer, reader)
			if e != kin.OK || ok == (datum != "") {
				t.Errorf("Check(%q, %q) = %v, %q, %d", writer, reader, ok, datum, e)
			}
			if !ok {
				answered["false"]++
				shows(t, writer, reader)
				continue
			}
			answered["true"]++
			for _, b := range bytes {
				if text, n, e := kin.Resolve(writer, reader, b); e != kin.OK || n != len(b) {
					t.Errorf("Check(%q, %q) is true, but Resolve of %q answers %q, %d, %d", writer, reader, b, text, n, e)
				} else if _, e := kin.Encode(reader, text); e != kin.OK {
					t.Errorf("Resolve(%q, %q, %q) = %q, which is no datum of the reader's", writer, reader, b, text)
				}
			}
		}
	}
	if answered["true"] < 1000 || answered["false"] < 1000 {
		t.Errorf("the answers are %v: too few of one kind", answered)
	}
}
