package types_test

import (
	"testing"

	"kin/types"
)

func field(letter byte) types.Field {
	return types.Field{Letter: types.Letter{Byte: letter}, Type: types.Nothing{}}
}

var schema = types.Schema{Defs: []types.Def{
	{Letter: 'B', Body: types.Record{Fields: []types.Field{field('z'), field('y')}}},
	{Letter: 'A', Body: types.Bytes{Size: 3}},
	{Letter: 'C', Body: types.Record{Fields: []types.Field{field('x')}}},
}}

func TestMeaning(t *testing.T) {
	if got := schema.Meaning('A'); got != (types.Bytes{Size: 3}) {
		t.Errorf("the meaning of A is %v", got)
	}
	if got := schema.Meaning('D'); got != nil {
		t.Errorf("the meaning of D is %v, want none", got)
	}
}

func TestFieldsComeInOrder(t *testing.T) {
	var letters string
	for _, f := range schema.Fields() {
		letters += string(f.Letter.Byte)
	}
	if letters != "zyx" {
		t.Errorf("the fields are %q, want zyx", letters)
	}
}

func TestHas(t *testing.T) {
	record := types.Record{Fields: []types.Field{field('z'), field('y')}}
	if i, ok := record.Has('y'); i != 1 || !ok {
		t.Errorf("y is %d, %v, want 1, true", i, ok)
	}
	if _, ok := record.Has('x'); ok {
		t.Error("x is there")
	}
}

func TestReads(t *testing.T) {
	symbols := []types.Letter{{Byte: 'b'}, {Byte: 'a'}, {Byte: 'c'}}
	for _, c := range []struct {
		unknown, symbol byte
		want            int
		ok              bool
	}{
		{0, 'b', 0, true}, {0, 'c', 2, true}, {0, 'd', 0, false}, {'a', 'c', 2, true}, {'a', 'a', 1, true}, {'a', 'd', 1, true},
	} {
		enum := types.Enum{Symbols: symbols}
		if c.unknown != 0 {
			enum.Unknown = &types.Letter{Byte: c.unknown}
		}
		if i, ok := enum.Reads(c.symbol); ok != c.ok || ok && i != c.want {
			t.Errorf("with !%c %c is %d, %v, want %d, %v", c.unknown, c.symbol, i, ok, c.want, c.ok)
		}
	}
}
