package kin_test

import (
	"strings"
	"testing"

	"kin/kin"
)

func TestErrorsHaveTheirNumbers(t *testing.T) {
	for i, e := range []kin.Errno{
		kin.OK, kin.ErrLong, kin.ErrSchema, kin.ErrName, kin.ErrUnion,
		kin.ErrDatum, kin.ErrData, kin.ErrBig, kin.ErrKin,
	} {
		if int(e) != i {
			t.Errorf("the error that should be %d is %d", i, e)
		}
	}
}

// nested is a type of 2*depth+1 bytes.
func nested(depth int) string {
	return strings.Repeat("[", depth) + "i" + strings.Repeat("]", depth)
}

// goodSchemas are schemas that Schema takes, with all that a schema can have.
var goodSchemas = []string{
	"n", "t", "i", "l", "s", "[n]", "{n}", "(n)", "[[{({[l]})}]]",
	"(n,t,i,l,s,[i],{i})",
	"A=r();A", "A=r();B=r();C=r();D=r();E=r();F=r();F",
	"A=r(x:i,y:(n,A)=N);A",
	"A=e(a);A", "A=e(a,b,c);A", "A=e(a!a);A", "A=e(a,b!b);A", "A=e(z,y,x!z);n",
	"A=f0;A", "A=f9;A",
	// Names may be used ahead of what defines them, by themselves, or never.
	"A=r(x:B);B=r(y:A);A", "F=r(x:[E],y:{D},z:(C,n));E=f1;D=f2;C=e(a);F",
	"A=r(x:A);A", "A=r(x:A);n", "B=f1;A=f1;[A]",
	// Each name is a kind of its own, whatever it stands for.
	"A=f1;B=f1;C=r();D=r();E=e(a);F=e(a);(n,t,i,l,s,[n],{n},A,B,C,D,E,F)",
	// One letter may stand in several records and enumerations.
	"A=r(x:i,r:i,e:i);B=r(x:i);C=e(x);D=e(x);A",
	// A (..) may stand within a branch, and kinds may recur there.
	"([(n,t)],{(n,t)},n)", "A=r(x:(n,A));(A,n)",
	nested(149),
}

// goodDefaults are pairs of a type and a default of it; A is a record of a
// number and a (..), B an enumeration, C two bytes, D an empty record.
var goodDefaults = [][2]string{
	{"n", "N"}, {"t", "T"}, {"t", "F"},
	{"i", "0"}, {"i", "7"}, {"i", "-7"}, {"i", "10"}, {"i", "2147483647"}, {"i", "-2147483648"},
	{"l", "0"}, {"l", "2147483648"}, {"l", "9223372036854775807"}, {"l", "-9223372036854775808"},
	{"s", `""`}, {"s", `"az"`},
	{"[i]", "[]"}, {"[i]", "[1]"}, {"[i]", "[1,-2,1]"}, {"[[i]]", "[[],[1,2]]"},
	{"{i}", "{}"}, {"{i}", "{:1}"}, {"{i}", "{:1,a:2,aa:3,ab:4,b:5}"}, {"{{n}}", "{a:{a:N}}"},
	{"(n,s)", "N"}, {"(s,n)", `"q"`}, {"[(i,n)]", "[1,2]"}, {"{([(n,i)],n)}", "{a:[N,N]}"},
	{"A", "(1,N)"}, {"[A]", "[(1,N),(2,N)]"}, {"(A,n)", "(-1,N)"},
	{"B", "a"}, {"B", "b"}, {"{B}", "{a:a,b:b}"},
	{"C", "'az'"}, {"[C]", "['aa','aa']"},
	{"D", "()"}, {"[D]", "[(),()]"},
}

var badDefaults = [][2]string{
	{"n", "n"}, {"n", "NN"}, {"n", "T"}, {"n", "-"}, {"n", " N"}, {"n", "N "}, {"n", "N;"},
	{"t", "t"}, {"t", "TF"}, {"t", "1"}, {"t", "N"},
	{"i", "-"}, {"i", "-0"}, {"i", "00"}, {"i", "01"}, {"i", "-01"}, {"i", "+1"}, {"i", "1a"},
	{"i", "a1"}, {"i", "1_0"}, {"i", "0x1"}, {"i", "1.0"}, {"i", "--1"}, {"i", "1-"}, {"i", "N"},
	{"i", "/"}, {"i", ":"}, {"i", "1:"}, {"i", "1/"},
	{"i", "2147483648"}, {"i", "-2147483649"}, {"i", "99999999999999999999"},
	{"l", "9223372036854775808"}, {"l", "-9223372036854775809"}, {"l", "00"}, {"l", "-0"},
	{"s", `"`}, {"s", `"a`}, {"s", `a"`}, {"s", "a"}, {"s", `"A"`}, {"s", `"a""`}, {"s", `"a b"`},
	{"s", "\"`\""}, {"s", "\"{}\""}, {"s", "'a'"}, {"s", "\"\xff\""}, {"s", "\"\x00\""},
	{"[i]", "1"}, {"[i]", "[a]"}, {"[i]", "[1;2]"}, {"[i]", "[1,]"}, {"[i]", "[,1]"}, {"[i]", "[,]"},
	{"[i]", "[1]]"}, {"[i]", "[1}"}, {"[i]", "(1)"}, {"[i]", "[][]"}, {"[i]", "[1 ]"}, {"[i]", "]"},
	{"{i}", "{a}"}, {"{i}", "{a:}"}, {"{i}", "{a:b}"}, {"{i}", "{a:1,a:2}"}, {"{i}", "{b:1,a:2}"},
	{"{i}", "{aa:1,a:2}"}, {"{i}", "{:1,:2}"}, {"{i}", "{a:1,}"}, {"{i}", "{,a:1}"}, {"{i}", "{A:1}"},
	{"{i}", "{a:1]"}, {"{i}", "[a:1]"}, {"{i}", "{a=1}"}, {"{i}", "{a:1,:2}"}, {"{i}", "{`:1}"},
	{"(n,s)", "<0:N>"}, {"(n,s)", `""`}, {"(n,s)", `<1:"">`}, {"[(i,n)]", "[N]"}, {"[(i,n)]", "[<0:1>]"},
	{"A", "()"}, {"A", "(1)"}, {"A", "(1,N,N)"}, {"A", "(N,1)"}, {"A", "(1,<0:N>)"}, {"A", "(1,N]"},
	{"A", "[1,N]"}, {"A", "(1,)"}, {"A", "N"}, {"A", `(1,"")`},
	{"B", "c"}, {"B", "ab"}, {"B", "A"}, {"B", "!"}, {"B", "[a]"},
	{"C", "''"}, {"C", "'a'"}, {"C", "'abc'"}, {"C", "'AB'"}, {"C", `"ab"`}, {"C", "'ab"}, {"C", "ab'"},
	{"D", "(N)"}, {"D", "[]"}, {"D", "N"}, {"D", "()()"}, {"D", "()]"},
	{"i", ""}, {"n", ""}, {"s", ""}, {"[i]", ""}, {"D", ""}, {"i", ">"}, {"i", "1]"}, {"i", "]}>1"},
}

// withDefault is a schema in which a field of the type has the default, and
// the place of the default.
func withDefault(fieldType, text string) (string, int) {
	ahead := "E=r(x:" + fieldType + "="
	return ahead + text + ",y:n);A=r(x:i,y:(n,A));B=e(a,b!a);C=f2;D=r();E", len(ahead)
}

func takes(t *testing.T, schema string) {
	t.Helper()
	text, e, at := kin.Schema(schema)
	if text != schema || e != kin.OK || at != 0 {
		t.Errorf("Schema(%q) = %q, %d, %d, want the schema, OK, 0", schema, text, e, at)
	}
}

func refuses(t *testing.T, schema string, wantError kin.Errno, wantPlace int) {
	t.Helper()
	text, e, at := kin.Schema(schema)
	if text != "" || e != wantError || at != wantPlace {
		t.Errorf("Schema(%q) = %q, %d, %d, want nothing, %d, %d", schema, text, e, at, wantError, wantPlace)
	}
}

func TestSchemaTakesSchemas(t *testing.T) {
	for _, schema := range goodSchemas {
		takes(t, schema)
	}
}

func TestSchemaTakesDefaults(t *testing.T) {
	for _, c := range goodDefaults {
		schema, _ := withDefault(c[0], c[1])
		takes(t, schema)
		takes(t, "A=r(x:i,y:(n,A));B=e(a,b!a);C=f2;D=r();E=r(x:"+c[0]+"="+c[1]+");n")
	}
}

func TestSchemaRefusesDefaults(t *testing.T) {
	for _, c := range badDefaults {
		schema, at := withDefault(c[0], c[1])
		refuses(t, schema, kin.ErrDatum, at)
	}
	// No datum of A ends, as each has another one within.
	refuses(t, "A=r(x:A=((((())))));A", kin.ErrDatum, 8)
	// Of several the first.
	refuses(t, "A=r(x:i=1,y:i=N,z:i=N);B=r(x:n=1);A", kin.ErrDatum, 14)
	refuses(t, "A=r(x:n);B=r(x:n=1);A", kin.ErrDatum, 17)
}

func TestSchemaLong(t *testing.T) {
	field := "A=r(x:s=\"" + strings.Repeat("a", 287) + "\");A"
	if len(field) != 300 {
		t.Fatalf("the schema for the bound has %d bytes", len(field))
	}
	takes(t, field)
	refuses(t, "A=r(x:s=\""+strings.Repeat("a", 288)+"\");A", kin.ErrLong, 0)
	refuses(t, nested(150), kin.ErrLong, 0)
	refuses(t, strings.Repeat("[", 300), kin.ErrSchema, 300)
	// A text that is too long is not looked at.
	refuses(t, strings.Repeat("[", 301), kin.ErrLong, 0)
	refuses(t, strings.Repeat("\xff", 100000), kin.ErrLong, 0)
	refuses(t, strings.Repeat("A", 301), kin.ErrLong, 0)
}

func TestSchemaGrammar(t *testing.T) {
	for _, c := range []struct {
		schema string
		at     int
	}{
		{"", 0}, {" n", 0}, {"n ", 1}, {"\x00", 0}, {"n\x00", 1}, {"\xff", 0}, {"N", 0}, {"G", 0}, {"@", 0}, {"a", 0},
		{"nn", 1}, {"n;", 1}, {"n,n", 1}, {";n", 0}, {"r()", 0}, {"e(a)", 0}, {"f1", 0}, {"n=r();n", 1},
		{"[", 1}, {"[]", 1}, {"[n", 2}, {"[n)", 2}, {"[n,n]", 2}, {"[n]]", 3}, {"[x]", 1}, {"[\x00]", 1},
		{"{", 1}, {"{}", 1}, {"{n", 2}, {"{n]", 2}, {"{n,n}", 2}, {"{n}}", 3}, {"{x}", 1},
		{"(", 1}, {"()", 1}, {"(n", 2}, {"(n,", 3}, {"(n,)", 3}, {"(,n)", 1}, {"(n]", 2}, {"(n;n)", 2}, {"(n))", 3}, {"(n,x)", 3},
		{"A=", 2}, {"A=n;A", 2}, {"A=A;A", 2}, {"A=(n);A", 2}, {"A;n", 1}, {"AA", 1}, {"A==r();A", 2}, {"G=r();G", 0},
		{"A=r", 3}, {"A=r;", 3}, {"A=r(", 4}, {"A=r()", 5}, {"A=r();", 6}, {"A=r()A", 5}, {"A=r();;A", 6}, {"A=r())", 5},
		{"A=r[]", 3}, {"A=r(,", 4}, {"A=r(X:n);A", 4}, {"A=r(xy:n);A", 5}, {"A=r(x", 5}, {"A=r(x:", 6}, {"A=r(x=n);A", 5},
		{"A=r(x:)", 6}, {"A=r(x:n", 7}, {"A=r(x:n;", 7}, {"A=r(x:n,", 8}, {"A=r(x:n,)", 8}, {"A=r(x:n)", 8}, {"A=r(x:n!", 7},
		{"A=r(`:n);A", 4}, {"A=r({:n);A", 4},
		{"A=e", 3}, {"A=e(", 4}, {"A=e()", 4}, {"A=e(A);A", 4}, {"A=e(a", 5}, {"A=e(ab);A", 5}, {"A=e(a,", 6}, {"A=e(a,)", 6},
		{"A=e(!a);A", 4}, {"A=e(a,!a);A", 6}, {"A=e(a!", 6}, {"A=e(a!);A", 6}, {"A=e(a!A);A", 6}, {"A=e(a!a", 7},
		{"A=e(a!aa);A", 7}, {"A=e(a!a,b);A", 7}, {"A=e(a!a!a);A", 7}, {"A=e(a)", 6}, {"A=e[a];A", 3}, {"A=e(a=a);A", 5},
		{"A=f", 3}, {"A=fa;A", 3}, {"A=f/;A", 3}, {"A=f:;A", 3}, {"A=f-1;A", 3}, {"A=f12;A", 4}, {"A=f1", 4}, {"A=f1;", 5}, {"A=f1,A", 4},
		// At most six definitions: a name may stand behind them, as a type.
		{"A=f1;B=f1;C=f1;D=f1;E=f1;F=f1;A=", 31}, {"A=f1;A=f1;A=f1;A=f1;A=f1;A=f1;A=f1;A=f1;A", 31},
		{"A=f1;B=f1;C=f1;D=f1;E=f1;F=f1;", 30}, {"A=f1;B=f1;C=f1;D=f1;E=f1;F=f1;A;", 31},
	} {
		refuses(t, c.schema, kin.ErrSchema, c.at)
	}
}

func TestSchemaWhereADefaultEnds(t *testing.T) {
	for _, c := range []struct {
		schema string
		e      kin.Errno
		at     int
	}{
		// It ends at the first comma or ) outside of brackets.
		{"A=r(x:n=N,y:n=N);A", kin.OK, 0},
		{"A=r(x:n=N,);A", kin.ErrSchema, 10}, {"A=r(x:n=N,N);A", kin.ErrSchema, 10},
		{"A=r(x:n=N))A", kin.ErrSchema, 10}, {"A=r(x:n=)A", kin.ErrSchema, 9}, {"A=r(x:n=,", kin.ErrSchema, 9},
		{"A=r(x:[n]=[N,N],y:n);A", kin.OK, 0}, {"A=r(x:{n}={a:N,b:N},y:n);A", kin.OK, 0},
		{"A=r(x:B=(N,N),y:n);B=r(x:n,y:n);A", kin.OK, 0},
		{"A=r(x:n=<,>,y:n);A", kin.ErrDatum, 8},
		// Any closing bracket closes the last one that is open.
		{"A=r(x:n=([{<,>,),},],y:n);A", kin.ErrDatum, 8},
		{"A=r(x:n=([{<,>,),},],y);A", kin.ErrSchema, 22},
		{"A=r(x:n=[N),y:n);A", kin.ErrDatum, 8}, {"A=r(x:n=(N],y:n);A", kin.ErrDatum, 8},
		// Where none is open, a closing one other than ) is a byte like others.
		{"A=r(x:n=]}>N,y:n);A", kin.ErrDatum, 8}, {"A=r(x:n=](,),y:n);A", kin.ErrDatum, 8},
		{"A=r(x:n=](,),y);A", kin.ErrSchema, 14}, {"A=r(x:n=],y);A", kin.ErrSchema, 11},
		{"A=r(x:n=>,y);A", kin.ErrSchema, 11}, {"A=r(x:n=},y);A", kin.ErrSchema, 11},
		// Marks and other signs do not hold a default together.
		{"A=r(x:s=\",\");A", kin.ErrSchema, 10}, {"A=r(x:n=;=:!\x00\xff);A", kin.ErrDatum, 8},
		{"A=r(x:s=\"(\",y:n);A", kin.ErrSchema, 18},
		// A text that ends within a default ends too early.
		{"A=r(x:n=", kin.ErrSchema, 8}, {"A=r(x:n=N", kin.ErrSchema, 9}, {"A=r(x:n=;A", kin.ErrSchema, 10},
		{"A=r(x:n=(N);A", kin.ErrSchema, 13}, {"A=r(x:n=<);A", kin.ErrSchema, 12}, {"A=r(x:n={]);A", kin.ErrDatum, 8},
	} {
		if c.e == kin.OK {
			takes(t, c.schema)
		} else {
			refuses(t, c.schema, c.e, c.at)
		}
	}
}

func TestSchemaNames(t *testing.T) {
	for _, c := range []struct {
		schema string
		at     int
	}{
		{"A", 0}, {"[A]", 1}, {"{F}", 1}, {"(n,B)", 3}, {"[{(n,[B])}]", 6},
		{"A=f1;B", 5}, {"A=r(x:B);A", 6}, {"A=r(x:n,y:[(n,{B})]);A", 15}, {"A=r(x:A);B", 9},
		{"A=f1;A=f1;A", 5}, {"A=f1;B=f1;A=f1;B=f1;A", 10}, {"A=f1;A=r(x:B);A", 5}, {"A=r(x:B);A=f1;A", 6},
		{"A=r(x:i,x:n);A", 8}, {"A=r(x:i,y:i,x:n,y:n);A", 12}, {"A=r(x:i=1,x:i=1);A", 10}, {"A=r(x:i,x:B);A", 8},
		{"A=r(x:B,x:i);A", 6}, {"A=f1;B=r(a:A,z:A,z:A);B", 17},
		{"A=e(a,a);A", 6}, {"A=e(a,b,b,a);A", 8}, {"A=e(z,a,z!a);A", 8}, {"A=e(z,a,z!b);A", 8},
		{"A=e(a!b);A", 6}, {"A=e(a,b!c);B", 8}, {"A=e(b,y!a);A", 8}, {"A=f1;B=e(z!a);A", 11},
	} {
		refuses(t, c.schema, kin.ErrName, c.at)
	}
}

func TestSchemaUnions(t *testing.T) {
	for _, c := range []struct {
		schema string
		at     int
	}{
		{"((n))", 1}, {"((n),(t))", 1}, {"(n,(t))", 3}, {"(((n)))", 1}, {"((n,n),n)", 1},
		{"(n,n)", 3}, {"(t,t)", 3}, {"(i,i)", 3}, {"(l,l)", 3}, {"(s,s)", 3}, {"([n],[t])", 5}, {"({n},{t})", 5},
		{"(n,[i],[s])", 7}, {"(n,t,i,l,s,[n],{n},n)", 19}, {"(n,t,n,t)", 5},
		{"A=f1;(A,A)", 8}, {"A=f1;B=f1;(A,B,n,B)", 17}, {"[(n,n)]", 4}, {"{(n,n)}", 4},
		{"A=r(x:(n,n));A", 9}, {"A=r(x:n,y:{[(n,n)]});(n,n)", 15}, {"A=r();B=r(x:(A,A));B", 15},
		// What stands within a branch stands ahead of the next one.
		{"([(n,n)],[n])", 5}, {"({(n,n)},n,n)", 5}, {"([(n,t)],[(n,n)])", 9}, {"(n,n,[(n,n)])", 3},
	} {
		refuses(t, c.schema, kin.ErrUnion, c.at)
	}
}

func TestSchemaTellsTheErrorNamedFirst(t *testing.T) {
	const (
		badDatum = "A=r(x:n=T,y:n);"
		badUnion = "B=r(x:(n,n));"
		badName  = "C=r(x:F);"
	)
	refuses(t, badDatum+"A", kin.ErrDatum, 8)
	refuses(t, badDatum+badUnion+"A", kin.ErrUnion, 24)
	refuses(t, badDatum+badUnion+badName+"A", kin.ErrName, 34)
	refuses(t, badDatum+badUnion+badName+"A]", kin.ErrSchema, 38)
	refuses(t, badDatum+badUnion+badName+"A]"+strings.Repeat("n", 300), kin.ErrLong, 0)
	// The same the other way round, and within one field.
	refuses(t, "(n,n,F)", kin.ErrName, 5)
	refuses(t, "A=r(x:(n,n)=T,y:F);A", kin.ErrName, 16)
	refuses(t, "A=r(x:((n))=T,y:n);A", kin.ErrUnion, 7)
	refuses(t, "A=r(x:F=T,x:(n,n)=T);A!", kin.ErrSchema, 22)
	refuses(t, "A=r(x:F=T);A", kin.ErrName, 6)
}
