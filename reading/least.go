package reading

import (
	"strings"

	"kin/data"
	"kin/types"
)

// least is the datum with the fewest nodes of those that are asked for, as
// far as it is known.
type least struct {
	nodes int        // 0, if none is known; one above MaxNodes stands for all that are above
	datum data.Datum // nil, if there is none that may be told
}

// Betters tells whether it has fewer nodes.
func (l least) Betters(known least) bool {
	return l.nodes > 0 && (known.nodes == 0 || l.nodes < known.nodes)
}

// better is the one with fewer nodes.
func better(one, other least) least {
	if other.Betters(one) {
		return other
	}
	return one
}

// joined is the datum that is built of those within it; if one of them is
// not known, it is not either.
func joined(within []least, build func([]data.Datum) data.Datum) least {
	nodes := 1
	var parts []data.Datum
	for _, part := range within {
		if part.nodes == 0 {
			return least{}
		}
		nodes += part.nodes
		parts = append(parts, part.datum)
	}
	if nodes > data.MaxNodes {
		return least{nodes: data.MaxNodes + 1}
	}
	return least{nodes: nodes, datum: build(parts)}
}

func alone(d data.Datum) least {
	return joined(nil, func([]data.Datum) data.Datum { return d })
}

func inBranch(number int, within least) least {
	return joined([]least{within}, func(parts []data.Datum) data.Datum {
		return data.Branch{Number: number, Datum: parts[0]}
	})
}

func inRecord(within []least) least {
	return joined(within, func(parts []data.Datum) data.Datum { return data.Record(parts) })
}

// leastOf is the least datum of a writer's type. Its text is short too: no
// node of it has more than 12 bytes, so that none with at most MaxNodes nodes
// is too long to be encoded.
func (f *finder) leastOf(t types.Type) least {
	switch t := t.(type) {
	case types.Nothing:
		return alone(data.Nothing{})
	case types.Truth:
		return alone(data.Truth(false))
	case types.Int, types.Long:
		return alone(data.Number(0))
	case types.Text:
		return alone(data.Text(""))
	case types.List:
		return alone(data.List(nil))
	case types.Map:
		return alone(data.Map(nil))
	case types.Union:
		return f.leastOfBranches(t)
	case types.Name:
		return f.data.Known(f.writer.Meaning(t.Letter))
	case types.Record:
		return f.leastOfFields(t)
	case types.Enum:
		return alone(data.Symbol{Letter: t.Symbols[0].Byte, Number: 0})
	case types.Bytes:
		return alone(data.Bytes(strings.Repeat("a", t.Size)))
	}
	return least{}
}

func (f *finder) leastOfBranches(t types.Union) least {
	var found least
	for i, branch := range t.Branches {
		found = better(found, inBranch(i, f.data.Known(branch)))
	}
	return found
}

func (f *finder) leastOfFields(t types.Record) least {
	var within []least
	for _, field := range t.Fields {
		within = append(within, f.data.Known(field.Type))
	}
	return inRecord(within)
}
