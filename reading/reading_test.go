package reading_test

import (
	"errors"
	"reflect"
	"strings"
	"testing"

	"kin/data"
	"kin/notation"
	"kin/reading"
	"kin/schemas"
	"kin/types"
)

func schema(t *testing.T, text string) types.Schema {
	t.Helper()
	s, err := schemas.Read(text)
	if err != nil {
		t.Fatalf("%q: %v", text, err)
	}
	return s
}

func TestMakeTrees(t *testing.T) {
	w, r := schema(t, "A=r(x:(i,n),z:B);B=e(a,b);[A]"), schema(t, "A=r(y:[(s,n)]=[\"q\"],z:B,x:(n,l));B=e(c,b!c);([A],n)")
	d := data.List{
		data.Record{data.Branch{Number: 0, Datum: data.Number(5)}, data.Symbol{Letter: 'a', Number: 0}},
		data.Record{data.Branch{Number: 1, Datum: data.Nothing{}}, data.Symbol{Letter: 'b', Number: 1}},
	}
	lacked := data.List{data.Branch{Number: 0, Datum: data.Text("q")}}
	want := data.Branch{Number: 0, Datum: data.List{
		data.Record{lacked, data.Symbol{Letter: 'c', Number: 0}, data.Branch{Number: 1, Datum: data.Number(5)}},
		data.Record{lacked, data.Symbol{Letter: 'b', Number: 1}, data.Branch{Number: 0, Datum: data.Nothing{}}},
	}}
	if got, err := reading.Make(w, r, d); err != nil || !reflect.DeepEqual(got, want) {
		t.Errorf("made is %#v, %v, want %#v", got, err, want)
	}
}

func TestMakeTellsTheWay(t *testing.T) {
	for _, c := range [][4]string{
		{"i", "s", "5", ""},
		{"[i]", "[s]", "[5]", "item 0: "},
		{"[(s,i)]", "[s]", `[<0:"">,<1:5>]`, "item 1: branch 1: "},
		{"{A}", "{A}", "{k:a,l:b}", `key "l": `},
		{"B", "B", "(5,N)", "field z: "},
		{"[B]", "[(n,B)]", "[(5,N)]", "item 0: field z: "},
		{"C", "C", "([<1:(5)>])", "field x: item 0: branch 1: field x: "},
	} {
		writer := schema(t, "A=e(a,b);B=r(x:i,y:n);C=r(x:[(n,D)]);D=r(x:i);"+c[0])
		reader := schema(t, "A=e(a);B=r(x:i,z:n);C=r(x:[(n,D)]);D=r(x:s=\"\");"+c[1])
		d, err := notation.Read(writer, c[2])
		if err != nil {
			t.Fatal(err)
		}
		made, err := reading.Make(writer, reader, d)
		if made != nil || !errors.Is(err, reading.ErrNothing) || err.Error() != c[3]+"nothing can be made of it" {
			t.Errorf("of %s by %s %v is made, %v, want the way %s", c[2], c[1], made, err, c[3])
		}
		var within *data.Within
		if errors.As(err, &within) != (c[3] != "") {
			t.Errorf("of %s by %s the way is %v", c[2], c[1], within)
		}
	}
}

// A datum that is not of the writer's type is no cause for a panic.
func TestMakeOfWrongTrees(t *testing.T) {
	for _, root := range []string{"[n]", "{n}", "(n,t)", "A", "B"} {
		s := schema(t, "A=r(x:n);B=e(a);"+root)
		if made, err := reading.Make(s, s, data.Number(1)); made != nil || err != reading.ErrNothing {
			t.Errorf("by %s %v is made, %v", root, made, err)
		}
	}
}

// The datum that is found is the one with the fewest nodes, and of those the
// first; "" stands for none.
func TestUnreadIsTheLeast(t *testing.T) {
	for _, c := range [][3]string{
		{"n", "n", ""}, {"n", "t", "N"}, {"t", "n", "F"}, {"l", "i", "0"}, {"i", "l", ""}, {"s", "i", `""`}, {"[n]", "{n}", "[]"}, {"{n}", "[n]", "{}"},
		{"[n]", "[t]", "[N]"}, {"{n}", "{t}", "{a:N}"}, {"[[n]]", "[[t]]", "[[N]]"},
		{"(i,s)", "l", `<1:"">`}, {"([i],n,s)", "s", "<0:[]>"}, {"([i],n,s)", "([l],s)", "<1:N>"}, {"([i],n)", "([s],n)", "<0:[0]>"},
		{"A=e(a,b,c);A", "A=e(a,c);A", "b"}, {"A=e(a,b,c);A", "A=e(d);A", "a"}, {"A=e(a,b,c);A", "n", "a"}, {"A=f3;A", "A=f2;A", "'aaa'"}, {"A=f0;A", "n", "''"},
		{"A=r(x:i,y:s);A", "n", `(0,"")`}, {"A=r(x:i,y:s);A", "A=r(y:n);A", `(0,"")`}, {"A=r(x:[i],y:s);A", "A=r(x:[s]);A", `([0],"")`},
		// Of several fields the one that costs the least.
		{"A=r(x:[[i]],y:[i]);A", "A=r(x:[[s]],y:[s]);A", "([],[0])"}, {"A=r(x:[i],y:[[i]]);A", "A=r(y:[[s]],x:[s]);A", "([0],[])"},
		{"A=r(x:[i]);A", "A=r(x:[s],y:n);A", "([])"}, {"A=r(x:[i]);A", "A=r(y:n,x:[s]);A", "([])"},
		// Of several branches, too.
		{"A=r(x:n,y:n);(A,[i])", "s", "<1:[]>"}, {"A=r(x:n);([[i]],A)", "A=r(x:t);([[s]],A)", "<1:(N)>"},
		{"A=r(x:(A,n));A", "s", "(<1:N>)"}, {"A=r(x:(A,n));A", "A=r(x:(A));A", "(<1:N>)"}, {"A=r(x:(A,n));A", "A=r(x:(n));A", "(<0:(<1:N>)>)"},
		{"A=r(x:A);A", "s", ""}, {"A=r(x:A);(A,n)", "s", "<1:N>"}, {"A=r(x:A);([A],n)", "n", "<0:[]>"},
		// In a ring of names.
		{"A=r(x:(n,B));B=r(x:(n,C));C=r(x:(A,n),y:i);A", "A=r(x:(n,B));B=r(x:(n,C));C=r(x:(A,n),y:s);A", "(<1:(<1:(<1:N>,0)>)>)"},
	} {
		got := ""
		d, err := reading.Unread(schema(t, c[0]), schema(t, c[1]))
		if d != nil {
			got = notation.Write(d)
		}
		if got != c[2] || err != nil {
			t.Errorf("unread of %s by %s is %s, %v, want %s", c[0], c[1], got, err, c[2])
		}
	}
}

func TestUnreadBig(t *testing.T) {
	fields := strings.Repeat("?:B,", 20)
	for _, letter := range "abcdefghijklmnopqrst" {
		fields = strings.Replace(fields, "?", string(letter), 1)
	}
	fields = strings.TrimSuffix(fields, ",")
	writer := "A=r(" + fields + ");B=r(" + strings.ReplaceAll(fields, "B", "n") + ");"
	for _, root := range []string{"A", "(A)", "[A]"} {
		reader := strings.Replace(root, "A", "n", 1)
		if d, err := reading.Unread(schema(t, writer+root), schema(t, reader)); d != nil || err != data.ErrBig {
			t.Errorf("unread of %s is %v, %v, want ErrBig", root, d, err)
		}
	}
	if d, err := reading.Unread(schema(t, writer+"A"), schema(t, writer+"A")); d != nil || err != nil {
		t.Errorf("unread is %v, %v, want none", d, err)
	}
}
