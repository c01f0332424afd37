package schemas_test

import (
	"errors"
	"reflect"
	"strings"
	"testing"

	"kin/data"
	"kin/notation"
	"kin/schemas"
	"kin/types"
)

func TestReadMakesTrees(t *testing.T) {
	got, err := schemas.Read("A=r(x:[i],y:(l,B)=-5);B=e(a,b!b);C=f7;{(n,t,s,A)}")
	want := types.Schema{
		Defs: []types.Def{
			{Spot: 0, Letter: 'A', Body: types.Record{Spot: 2, Fields: []types.Field{
				{Letter: types.Letter{Spot: 4, Byte: 'x'}, Type: types.List{Spot: 6, Item: types.Int{Spot: 7}}},
				{
					Letter: types.Letter{Spot: 10, Byte: 'y'},
					Type:   types.Union{Spot: 12, Branches: []types.Type{types.Long{Spot: 13}, types.Name{Spot: 15, Letter: 'B'}}},
					Default: &types.Default{
						Spot: 18, Text: "-5", Datum: data.Branch{Number: 0, Datum: data.Number(-5)},
					},
				},
			}}},
			{Spot: 22, Letter: 'B', Body: types.Enum{
				Spot:    24,
				Symbols: []types.Letter{{Spot: 26, Byte: 'a'}, {Spot: 28, Byte: 'b'}},
				Unknown: &types.Letter{Spot: 30, Byte: 'b'},
			}},
			{Spot: 33, Letter: 'C', Body: types.Bytes{Spot: 35, Size: 7}},
		},
		Root: types.Map{Spot: 38, Item: types.Union{Spot: 39, Branches: []types.Type{
			types.Nothing{Spot: 40}, types.Truth{Spot: 42}, types.Text{Spot: 44}, types.Name{Spot: 46, Letter: 'A'},
		}}},
	}
	if err != nil || !reflect.DeepEqual(got, want) {
		t.Errorf("Read = %#v, %v, want %#v", got, err, want)
	}
}

func TestReadWrapsWhatIsWrong(t *testing.T) {
	for _, c := range []struct {
		text  string
		cause error
		place int
	}{
		{"[n", schemas.ErrGrammar, 2},
		{"[A]", schemas.ErrName, 1},
		{"(n,n)", schemas.ErrUnion, 3},
		{"A=r(x:[i]=[N]);A", notation.ErrNotOf, 10},
	} {
		got, err := schemas.Read(c.text)
		var fault *schemas.Fault
		if !errors.Is(err, c.cause) || !errors.As(err, &fault) || fault.Place != c.place {
			t.Errorf("Read(%q) fails with %v, want %v at %d", c.text, err, c.cause, c.place)
		}
		if got.Root != nil || got.Defs != nil {
			t.Errorf("Read(%q) = %v beside an error", c.text, got)
		}
	}
}

func TestReadKeepsTheWayWithinADefault(t *testing.T) {
	_, err := schemas.Read("A=r(x:[i]=[1,N]);A")
	var within *data.Within
	if !errors.As(err, &within) || within.Step != "item 1" {
		t.Errorf("the error is %v, want one within item 1", err)
	}
}

func TestALongTextHasNoPlace(t *testing.T) {
	_, err := schemas.Read(strings.Repeat("n", 301))
	var fault *schemas.Fault
	if !errors.Is(err, schemas.ErrLong) || errors.As(err, &fault) {
		t.Errorf("the error is %v, want %v with no place", err, schemas.ErrLong)
	}
}
