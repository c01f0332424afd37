package wire_test

import (
	"errors"
	"math"
	"reflect"
	"strings"
	"testing"

	"kin/data"
	"kin/types"
	"kin/wire"
)

// schema has A, a record of a number and a list of a truth or a text; B, an
// enumeration; C, two bytes; D, a record that has itself within.
func schema(root types.Type) types.Schema {
	truthOrText := types.Union{Branches: []types.Type{types.Truth{}, types.Text{}}}
	return types.Schema{Root: root, Defs: []types.Def{
		{Letter: 'A', Body: types.Record{Fields: []types.Field{
			{Letter: types.Letter{Byte: 'x'}, Type: types.Int{}},
			{Letter: types.Letter{Byte: 'y'}, Type: types.List{Item: truthOrText}},
		}}},
		{Letter: 'B', Body: types.Enum{Symbols: []types.Letter{{Byte: 'b'}, {Byte: 'a'}}}},
		{Letter: 'C', Body: types.Bytes{Size: 2}},
		{Letter: 'D', Body: types.Record{Fields: []types.Field{
			{Letter: types.Letter{Byte: 'z'}, Type: types.Name{Letter: 'D'}},
		}}},
	}}
}

func TestTreesAndBytes(t *testing.T) {
	for _, c := range []struct {
		t     types.Type
		bytes string
		tree  data.Datum
	}{
		{types.Nothing{}, "", data.Nothing{}},
		{types.Truth{}, "\x01", data.Truth(true)},
		{types.Truth{}, "\x00", data.Truth(false)},
		{types.Int{}, "\xff\xff\xff\xff\x0f", data.Number(math.MinInt32)},
		{types.Int{}, "\xfe\xff\xff\xff\x0f", data.Number(math.MaxInt32)},
		{types.Long{}, "\xff\xff\xff\xff\xff\xff\xff\xff\xff\x01", data.Number(math.MinInt64)},
		{types.Long{}, "\xfe\xff\xff\xff\xff\xff\xff\xff\xff\x01", data.Number(math.MaxInt64)},
		{types.Text{}, "\x04ab", data.Text("ab")},
		{types.List{Item: types.Int{}}, "\x00", data.List(nil)},
		{types.List{Item: types.Int{}}, "\x04\x02\x01", data.List{data.Number(1), data.Number(-1)}},
		{types.Map{Item: types.Int{}}, "\x04\x00\x02\x02b\x00", data.Map{{Key: "", Datum: data.Number(1)}, {Key: "b", Datum: data.Number(0)}}},
		{types.Name{Letter: 'B'}, "\x02", data.Symbol{Letter: 'a', Number: 1}},
		{types.Name{Letter: 'C'}, "ab", data.Bytes("ab")},
		{types.Name{Letter: 'A'}, "\x0a\x02\x02\x02q", data.Record{
			data.Number(5), data.List{data.Branch{Number: 1, Datum: data.Text("q")}},
		}},
	} {
		got, size, err := wire.Read(schema(c.t), c.bytes+"\xff")
		if err != nil || size != len(c.bytes) || !reflect.DeepEqual(got, c.tree) {
			t.Errorf("Read by %T, %q = %#v, %d, %v, want %#v", c.t, c.bytes, got, size, err, c.tree)
		}
		if got := wire.Write(c.tree); got != c.bytes {
			t.Errorf("Write(%#v) = %q, want %q", c.tree, got, c.bytes)
		}
	}
}

func TestReadTellsTheWay(t *testing.T) {
	const wrong = "bytes that are not as they should be"
	for _, c := range []struct {
		t          types.Type
		bytes, way string
		cause      error
	}{
		{types.Truth{}, "", wrong, wire.ErrData},
		{types.List{Item: types.Truth{}}, "\x06\x00\x00\x02", "item 2: " + wrong, wire.ErrData},
		{types.Map{Item: types.Truth{}}, "\x04\x02a\x00\x02b\x02", `key "b": ` + wrong, wire.ErrData},
		{types.Map{Item: types.Truth{}}, "\x04\x02a\x00\x02a\x00", wrong, wire.ErrData},
		{types.Map{Item: types.Name{Letter: 'A'}}, "\x02\x02k\x00\x04\x00\x00\x02\x02Q", `key "k": field y: item 1: branch 1: ` + wrong, wire.ErrData},
		{types.List{Item: types.Nothing{}}, "\xd8\x04", "item 299: more nodes than a datum may have", data.ErrBig},
		{types.Name{Letter: 'D'}, "", strings.Repeat("field z: ", 300) + "more nodes than a datum may have", data.ErrBig},
		{types.Nothing{}, strings.Repeat("a", 4001), "data above their bound", wire.ErrLong},
	} {
		got, size, err := wire.Read(schema(c.t), c.bytes)
		if got != nil || size != 0 || !errors.Is(err, c.cause) || err.Error() != c.way {
			t.Errorf("Read by %T, %.40q = %v, %d, %v, want the error %s", c.t, c.bytes, got, size, err, c.way)
		}
	}
}
