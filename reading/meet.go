package reading

import "kin/types"

// both are the schemas that a datum is written and read by.
type both struct{ writer, reader types.Schema }

// meeting is how a reader's type reads the data of a writer's. What is made
// of a datum and which data cannot be read both go by it, so that the two
// never differ.
type meeting interface{ meeting() }

type (
	// never: nothing can be made of any datum.
	never struct{}
	// asIs: a datum stays what it is.
	asIs struct{}
	// outOf: what the reader makes of the branch's datum.
	outOf struct {
		branches []types.Type
		reader   types.Type
	}
	// into: what is made by the branch of that number.
	into struct {
		number int
		branch meeting
	}
	// ofItems: what is made of each datum in a list or a map.
	ofItems struct{ writer, reader types.Type }
	// ofSymbols: the reader's symbol.
	ofSymbols struct{ writer, reader types.Enum }
	// ofFields: one datum for each of the reader's fields.
	ofFields struct{ writer, reader types.Record }
)

func (never) meeting()     {}
func (asIs) meeting()      {}
func (outOf) meeting()     {}
func (into) meeting()      {}
func (ofItems) meeting()   {}
func (ofSymbols) meeting() {}
func (ofFields) meeting()  {}

func (b both) meet(w, r types.Type) meeting {
	if w, ok := w.(types.Union); ok {
		return outOf{branches: w.Branches, reader: r}
	}
	if r, ok := r.(types.Union); ok {
		return b.meetBranch(w, r)
	}
	return b.match(w, r)
}

// meetBranch finds the branch that the writer's type matches: there is but
// one, unless an i may be read as an i or as an l.
func (b both) meetBranch(w types.Type, r types.Union) meeting {
	var found meeting = never{}
	for i, branch := range r.Branches {
		m := b.match(w, branch)
		if is[never](m) || is[into](found) && !is[types.Int](branch) {
			continue
		}
		found = into{number: i, branch: m}
	}
	return found
}

// match is how two types meet of which neither is a (..): never, if they do
// not match.
func (b both) match(w, r types.Type) meeting {
	switch w := w.(type) {
	case types.Nothing:
		return asIsIf(is[types.Nothing](r))
	case types.Truth:
		return asIsIf(is[types.Truth](r))
	case types.Int:
		return asIsIf(is[types.Int](r) || is[types.Long](r))
	case types.Long:
		return asIsIf(is[types.Long](r))
	case types.Text:
		return asIsIf(is[types.Text](r))
	case types.List:
		if r, ok := r.(types.List); ok {
			return ofItems{writer: w.Item, reader: r.Item}
		}
	case types.Map:
		if r, ok := r.(types.Map); ok {
			return ofItems{writer: w.Item, reader: r.Item}
		}
	case types.Name:
		if r, ok := r.(types.Name); ok && r.Letter == w.Letter {
			return matchBodies(b.writer.Meaning(w.Letter), b.reader.Meaning(r.Letter))
		}
	}
	return never{}
}

// matchBodies is how what is defined by one name meets.
func matchBodies(w, r types.Type) meeting {
	switch w := w.(type) {
	case types.Record:
		if r, ok := r.(types.Record); ok {
			return ofFields{writer: w, reader: r}
		}
	case types.Enum:
		if r, ok := r.(types.Enum); ok {
			return ofSymbols{writer: w, reader: r}
		}
	case types.Bytes:
		r, ok := r.(types.Bytes)
		return asIsIf(ok && r.Size == w.Size)
	}
	return never{}
}

func asIsIf(same bool) meeting {
	if same {
		return asIs{}
	}
	return never{}
}

func is[T any](v any) bool {
	_, ok := v.(T)
	return ok
}
