package wire

import (
	"math"

	"kin/data"
	"kin/types"
)

const maxData = 4000

// Read reads a datum of the schema's type, and tells how many bytes it has.
// The schema's names are all defined and no branch is a (..).
func Read(schema types.Schema, bytes string) (data.Datum, int, error) {
	if len(bytes) > maxData {
		return nil, 0, ErrLong
	}
	r := reader{schema: schema, bytes: bytes}
	d, err := r.datum(schema.Root)
	if err != nil {
		return nil, 0, err
	}
	return d, r.at, nil
}

type reader struct {
	schema types.Schema
	bytes  string
	at     int
	nodes  int
}

// datum counts ahead of looking at bytes: those of a datum that is one too
// many do not matter. So reading ends, also where data have no bytes.
func (r *reader) datum(t types.Type) (data.Datum, error) {
	if r.nodes == data.MaxNodes {
		return nil, data.ErrBig
	}
	r.nodes++
	return r.body(t)
}

func (r *reader) body(t types.Type) (data.Datum, error) {
	switch t := t.(type) {
	case types.Nothing:
		return data.Nothing{}, nil
	case types.Truth:
		return r.truth()
	case types.Int:
		return r.integer(math.MinInt32, math.MaxInt32)
	case types.Long:
		return r.integer(math.MinInt64, math.MaxInt64)
	case types.Text:
		return r.text()
	case types.List:
		return r.list(t)
	case types.Map:
		return r.mapping(t)
	case types.Union:
		return r.union(t)
	case types.Name:
		return r.body(r.schema.Meaning(t.Letter))
	case types.Record:
		return r.record(t)
	case types.Enum:
		return r.symbol(t)
	case types.Bytes:
		return r.fixed(t)
	}
	return nil, ErrData
}

func (r *reader) truth() (data.Datum, error) {
	b, err := r.next()
	if err != nil {
		return nil, err
	}
	if b > 1 {
		return nil, ErrData
	}
	return data.Truth(b == 1), nil
}

func (r *reader) integer(least, most int64) (data.Datum, error) {
	n, err := r.number(least, most)
	if err != nil {
		return nil, err
	}
	return data.Number(n), nil
}

func (r *reader) text() (data.Datum, error) {
	letters, err := r.sizedLetters()
	if err != nil {
		return nil, err
	}
	return data.Text(letters), nil
}

func (r *reader) list(t types.List) (data.Datum, error) {
	count, err := r.count()
	if err != nil {
		return nil, err
	}
	var list data.List
	for range count {
		d, err := r.datum(t.Item)
		if err != nil {
			return nil, data.InItem(len(list), err)
		}
		list = append(list, d)
	}
	return list, nil
}

func (r *reader) mapping(t types.Map) (data.Datum, error) {
	count, err := r.count()
	if err != nil {
		return nil, err
	}
	var entries data.Map
	for range count {
		key, err := r.sizedLetters()
		if err != nil {
			return nil, err
		}
		if len(entries) > 0 && key <= entries[len(entries)-1].Key {
			return nil, ErrData
		}
		d, err := r.datum(t.Item)
		if err != nil {
			return nil, data.InKey(key, err)
		}
		entries = append(entries, data.Entry{Key: key, Datum: d})
	}
	return entries, nil
}

func (r *reader) union(t types.Union) (data.Datum, error) {
	number, err := r.choice(len(t.Branches))
	if err != nil {
		return nil, err
	}
	d, err := r.datum(t.Branches[number])
	if err != nil {
		return nil, data.InBranch(number, err)
	}
	return data.Branch{Number: number, Datum: d}, nil
}

func (r *reader) record(t types.Record) (data.Datum, error) {
	var record data.Record
	for _, field := range t.Fields {
		d, err := r.datum(field.Type)
		if err != nil {
			return nil, data.InField(field.Letter.Byte, err)
		}
		record = append(record, d)
	}
	return record, nil
}

func (r *reader) symbol(t types.Enum) (data.Datum, error) {
	number, err := r.choice(len(t.Symbols))
	if err != nil {
		return nil, err
	}
	return data.Symbol{Letter: t.Symbols[number].Byte, Number: number}, nil
}

func (r *reader) fixed(t types.Bytes) (data.Datum, error) {
	letters, err := r.letters(int64(t.Size))
	if err != nil {
		return nil, err
	}
	return data.Bytes(letters), nil
}
