package data_test

import (
	"errors"
	"testing"

	"kin/data"
)

// many is a list of so many data of one node each.
func many(count int) data.List {
	var list data.List
	for range count {
		list = append(list, data.Nothing{})
	}
	return list
}

func TestCheckNodes(t *testing.T) {
	for _, c := range []struct {
		name string
		d    data.Datum
		want error
	}{
		{"one", data.Nothing{}, nil},
		{"300", many(299), nil},
		{"301", many(300), data.ErrBig},
		{"a text is one", data.Record{many(297), data.Text("abc")}, nil},
		{"a symbol is one", data.Record{many(298), data.Symbol{Letter: 'a'}}, data.ErrBig},
		{"a branch adds one", data.Branch{Number: 1, Datum: many(298)}, nil},
		{"a branch adds no less", data.Branch{Number: 1, Datum: many(299)}, data.ErrBig},
		{"a key adds none", data.Map{{Key: "a", Datum: many(298)}}, nil},
		{"a map adds one", data.Map{{Key: "a", Datum: many(299)}}, data.ErrBig},
		{"all entries count", data.Map{{Key: "a", Datum: many(148)}, {Key: "b", Datum: many(149)}}, nil},
		{"all entries count", data.Map{{Key: "a", Datum: many(149)}, {Key: "b", Datum: many(149)}}, data.ErrBig},
		{"all fields count", data.Record{many(149), many(149)}, data.ErrBig},
		{"all items count", data.List{many(149), many(149)}, data.ErrBig},
	} {
		if got := data.CheckNodes(c.d); got != c.want {
			t.Errorf("%s: %v, want %v", c.name, got, c.want)
		}
	}
}

func TestWithinTellsTheWay(t *testing.T) {
	cause := errors.New("wrong")
	err := data.InField('x', data.InBranch(12, data.InKey("ab", data.InItem(3, cause))))
	if got := err.Error(); got != `field x: branch 12: key "ab": item 3: wrong` {
		t.Errorf("the way is %s", got)
	}
	if !errors.Is(err, cause) {
		t.Error("the cause is not wrapped")
	}
	var within *data.Within
	if !errors.As(err, &within) || within.Step != "field x" {
		t.Errorf("the first step is %v", within)
	}
}
