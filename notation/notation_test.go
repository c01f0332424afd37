package notation_test

import (
	"errors"
	"reflect"
	"strings"
	"testing"

	"kin/data"
	"kin/notation"
	"kin/types"
)

// schema has A, a record of a number and a list of a text or nothing; B, an
// enumeration; C, two bytes.
var schema = types.Schema{Defs: []types.Def{
	{Letter: 'A', Body: types.Record{Fields: []types.Field{
		{Letter: types.Letter{Byte: 'x'}, Type: types.Int{}},
		{Letter: types.Letter{Byte: 'y'}, Type: types.List{Item: textOrNothing}},
	}}},
	{Letter: 'B', Body: types.Enum{Symbols: []types.Letter{{Byte: 'a'}, {Byte: 'b'}}}},
	{Letter: 'C', Body: types.Bytes{Size: 2}},
}}

var textOrNothing = types.Union{Branches: []types.Type{types.Text{}, types.Nothing{}}}

func TestDefaultReadsTrees(t *testing.T) {
	for _, c := range []struct {
		t    types.Type
		text string
		want data.Datum
	}{
		{types.Nothing{}, "N", data.Nothing{}},
		{types.Truth{}, "T", data.Truth(true)},
		{types.Truth{}, "F", data.Truth(false)},
		{types.Int{}, "-2147483648", data.Number(-2147483648)},
		{types.Long{}, "9223372036854775807", data.Number(9223372036854775807)},
		{types.Text{}, `"ab"`, data.Text("ab")},
		{types.List{Item: types.Int{}}, "[]", data.List(nil)},
		{types.List{Item: types.Int{}}, "[1,0]", data.List{data.Number(1), data.Number(0)}},
		{types.Map{Item: types.Int{}}, "{:1,b:0}", data.Map{{Key: "", Datum: data.Number(1)}, {Key: "b", Datum: data.Number(0)}}},
		{types.Name{Letter: 'B'}, "b", data.Symbol{Letter: 'b', Number: 1}},
		{types.Name{Letter: 'C'}, "'ab'", data.Bytes("ab")},
		{textOrNothing, `""`, data.Branch{Number: 0, Datum: data.Text("")}},
		{types.Name{Letter: 'A'}, `(5,["q"])`, data.Record{
			data.Number(5), data.List{data.Branch{Number: 0, Datum: data.Text("q")}},
		}},
	} {
		got, err := notation.Default(schema, c.t, c.text)
		if err != nil || !reflect.DeepEqual(got, c.want) {
			t.Errorf("Default of %T, %q = %#v, %v, want %#v", c.t, c.text, got, err, c.want)
		}
	}
}

func TestDefaultTellsTheWay(t *testing.T) {
	for _, c := range []struct {
		t         types.Type
		text, way string
	}{
		{types.Nothing{}, "T", "no datum of the type"},
		{types.Nothing{}, "NN", "no datum of the type"},
		{types.List{Item: types.Int{}}, "[1,2,T]", "item 2: no datum of the type"},
		{types.Map{Item: types.Int{}}, "{a:1,b:T}", `key "b": no datum of the type`},
		{types.Map{Item: types.Name{Letter: 'A'}}, `{k:(1,["",N])}`, `key "k": field y: item 1: branch 0: no datum of the type`},
	} {
		got, err := notation.Default(schema, c.t, c.text)
		if got != nil || !errors.Is(err, notation.ErrNotOf) || err.Error() != c.way {
			t.Errorf("Default of %T, %q = %v, %v, want the error %s", c.t, c.text, got, err, c.way)
		}
	}
}

func TestWithinIsAskedFor(t *testing.T) {
	_, err := notation.Default(schema, types.Name{Letter: 'A'}, "(N,[])")
	var within *data.Within
	if !errors.As(err, &within) || within.Step != "field x" || within.Cause != notation.ErrNotOf {
		t.Errorf("the error is %v, want one within field x", err)
	}
}

// byRoot is the schema with another type of its data.
func byRoot(root types.Type) types.Schema { return types.Schema{Defs: schema.Defs, Root: root} }

func TestReadAndWriteTrees(t *testing.T) {
	for _, c := range []struct {
		t    types.Type
		text string
		tree data.Datum
	}{
		{types.Nothing{}, "N", data.Nothing{}},
		{types.Truth{}, "T", data.Truth(true)},
		{types.Truth{}, "F", data.Truth(false)},
		{types.Int{}, "-2147483648", data.Number(-2147483648)},
		{types.Long{}, "-9223372036854775808", data.Number(-9223372036854775808)},
		{types.Text{}, `"ab"`, data.Text("ab")},
		{types.Text{}, `""`, data.Text("")},
		{types.List{Item: types.Int{}}, "[]", data.List(nil)},
		{types.List{Item: types.Int{}}, "[1,0]", data.List{data.Number(1), data.Number(0)}},
		{types.Map{Item: types.Int{}}, "{}", data.Map(nil)},
		{types.Map{Item: types.Int{}}, "{:1,b:0}", data.Map{{Key: "", Datum: data.Number(1)}, {Key: "b", Datum: data.Number(0)}}},
		{types.Name{Letter: 'B'}, "b", data.Symbol{Letter: 'b', Number: 1}},
		{types.Name{Letter: 'C'}, "'ab'", data.Bytes("ab")},
		{textOrNothing, `<0:"">`, data.Branch{Number: 0, Datum: data.Text("")}},
		{textOrNothing, "<1:N>", data.Branch{Number: 1, Datum: data.Nothing{}}},
		{types.Name{Letter: 'A'}, `(5,[<1:N>,<0:"q">])`, data.Record{data.Number(5), data.List{
			data.Branch{Number: 1, Datum: data.Nothing{}}, data.Branch{Number: 0, Datum: data.Text("q")},
		}}},
	} {
		got, err := notation.Read(byRoot(c.t), c.text)
		if err != nil || !reflect.DeepEqual(got, c.tree) {
			t.Errorf("Read by %T, %q = %#v, %v, want %#v", c.t, c.text, got, err, c.tree)
		}
		if got := notation.Write(c.tree); got != c.text {
			t.Errorf("Write(%#v) = %q, want %q", c.tree, got, c.text)
		}
	}
}

func TestReadTellsTheWay(t *testing.T) {
	for _, c := range []struct {
		t         types.Type
		text, way string
		cause     error
	}{
		{textOrNothing, "N", "no datum of the type", notation.ErrNotOf},
		{textOrNothing, "<2:N>", "no datum of the type", notation.ErrNotOf},
		{textOrNothing, "<0:N>", "branch 0: no datum of the type", notation.ErrNotOf},
		{types.Name{Letter: 'A'}, `(1,[<1:N>,<1:"">])`, "field y: item 1: branch 1: no datum of the type", notation.ErrNotOf},
		{types.Nothing{}, strings.Repeat("N", 4000), "no datum of the type", notation.ErrNotOf},
		{types.Nothing{}, strings.Repeat("N", 4001), "a datum's text above its bound", notation.ErrLong},
	} {
		got, err := notation.Read(byRoot(c.t), c.text)
		if got != nil || !errors.Is(err, c.cause) || err.Error() != c.way {
			t.Errorf("Read by %T, %.40q = %v, %v, want the error %s", c.t, c.text, got, err, c.way)
		}
	}
}
