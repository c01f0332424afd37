package reading

import (
	"slices"

	"kin/data"
	"kin/growing"
	"kin/types"
)

// Unread is the least datum of the writer's type of which the reader can make
// nothing, or nil, if there is none. If all have too many nodes: ErrBig.
func Unread(writer, reader types.Schema) (data.Datum, error) {
	f := newFinder(both{writer: writer, reader: reader})
	found := f.unread.Settled(pair{writer: writer.Root, reader: reader.Root})
	if found.nodes > data.MaxNodes {
		return nil, data.ErrBig
	}
	return found.datum, nil
}

// pair is a writer's type and a reader's.
type pair struct{ writer, reader types.Type }

// places tell pairs apart, as no two types of a schema stand at one place.
func (p pair) places() [2]int { return [2]int{p.writer.Place(), p.reader.Place()} }

// finder finds the least data: those of a type, and of a pair of types those
// of which nothing can be made.
type finder struct {
	both
	data   *growing.Table[types.Type, int, least]
	unread *growing.Table[pair, [2]int, least]
}

func newFinder(b both) *finder {
	f := &finder{both: b}
	f.data = growing.New(types.Type.Place, f.leastOf)
	f.unread = growing.New(pair.places, f.leastUnread)
	return f
}

func (f *finder) leastUnread(p pair) least {
	return f.unreadBy(f.meet(p.writer, p.reader), p.writer)
}

// unreadBy is the least datum of the writer's type w of which nothing can be
// made where it is met so.
func (f *finder) unreadBy(m meeting, w types.Type) least {
	switch m := m.(type) {
	case never:
		return f.data.Settled(w)
	case outOf:
		return f.unreadOutOf(m)
	case into:
		return f.unreadBy(m.branch, w)
	case ofItems:
		return f.unreadOfItems(m, w)
	case ofSymbols:
		return unreadOfSymbols(m)
	case ofFields:
		return f.unreadOfFields(m)
	}
	return least{}
}

func (f *finder) unreadOutOf(m outOf) least {
	var found least
	for i, branch := range m.branches {
		found = better(found, inBranch(i, f.unread.Known(pair{writer: branch, reader: m.reader})))
	}
	return found
}

// unreadOfItems needs but one datum in the list or the map.
func (f *finder) unreadOfItems(m ofItems, w types.Type) least {
	item := f.unread.Known(pair{writer: m.writer, reader: m.reader})
	return joined([]least{item}, func(parts []data.Datum) data.Datum {
		if is[types.Map](w) {
			return data.Map{{Key: "a", Datum: parts[0]}}
		}
		return data.List(parts)
	})
}

func unreadOfSymbols(m ofSymbols) least {
	for i, symbol := range m.writer.Symbols {
		if _, ok := m.reader.Reads(symbol.Byte); !ok {
			return alone(data.Symbol{Letter: symbol.Byte, Number: i})
		}
	}
	return least{}
}

// unreadOfFields needs but one field of which nothing can be made; the others
// may be what they like.
func (f *finder) unreadOfFields(m ofFields) least {
	var fields []least
	for _, field := range m.writer.Fields {
		fields = append(fields, f.data.Settled(field.Type))
	}
	var found least
	for _, field := range m.reader.Fields {
		within := slices.Clone(fields)
		if i, ok := m.writer.Has(field.Letter.Byte); ok {
			within[i] = f.unread.Known(pair{writer: m.writer.Fields[i].Type, reader: field.Type})
		} else if field.Default != nil {
			continue
		}
		found = better(found, inRecord(within))
	}
	return found
}
