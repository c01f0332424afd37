package types_test

import (
	"testing"

	"kin/types"
)

func field(letter byte) types.Field {
	return types.Field{Letter: types.Letter{Byte: letter}, Type: types.Nothing{}}
}

var schema = types.Schema{Defs: []types.Def{
	{Letter: 'B', Body: types.Record{Fields: []types.Field{field('z'), field('y')}}},
	{Letter: 'A', Body: types.Bytes{Size: 3}},
	{Letter: 'C', Body: types.Record{Fields: []types.Field{field('x')}}},
}}

func TestMeaning(t *testing.T) {
	if got := schema.Meaning('A'); got != (types.Bytes{Size: 3}) {
		t.Errorf("the meaning of A is %v", got)
	}
	if got := schema.Meaning('D'); got != nil {
		t.Errorf("the meaning of D is %v, want none", got)
	}
}

func TestFieldsComeInOrder(t *testing.T) {
	var letters string
	for _, f := range schema.Fields() {
		letters += string(f.Letter.Byte)
	}
	if letters != "zyx" {
		t.Errorf("the fields are %q, want zyx", letters)
	}
}
