package notation

import (
	"math"

	"kin/data"
	"kin/types"
)

const maxDatum = 4000

// Read reads the text of a datum of the schema's type. The schema's names are
// all defined and no branch is a (..): otherwise the reading need not end.
func Read(schema types.Schema, text string) (data.Datum, error) {
	if len(text) > maxDatum {
		return nil, ErrLong
	}
	r := reader{schema: schema, text: text, numbered: true}
	return r.whole(schema.Root)
}

// Default reads the text of a field's default, of a schema as Read wants it.
// There a datum of a (..) is one of its first branch and bears no number.
func Default(schema types.Schema, t types.Type, text string) (data.Datum, error) {
	r := reader{schema: schema, text: text}
	return r.whole(t)
}

type reader struct {
	schema   types.Schema
	text     string
	at       int
	numbered bool // whether a datum of a (..) bears its branch's number
}

// whole reads a datum behind which nothing stands.
func (r *reader) whole(t types.Type) (data.Datum, error) {
	d, err := r.datum(t)
	if err != nil {
		return nil, err
	}
	if r.at < len(r.text) {
		return nil, ErrNotOf
	}
	return d, nil
}

func (r *reader) datum(t types.Type) (data.Datum, error) {
	switch t := t.(type) {
	case types.Nothing:
		if r.take('N') {
			return data.Nothing{}, nil
		}
	case types.Truth:
		return r.truth()
	case types.Int:
		return r.number(math.MinInt32, math.MaxInt32)
	case types.Long:
		return r.number(math.MinInt64, math.MaxInt64)
	case types.Text:
		return r.quoted()
	case types.List:
		return r.list(t)
	case types.Map:
		return r.mapping(t)
	case types.Union:
		return r.union(t)
	case types.Name:
		return r.datum(r.schema.Meaning(t.Letter))
	case types.Record:
		return r.record(t)
	case types.Enum:
		return r.symbol(t)
	case types.Bytes:
		return r.bytes(t)
	}
	return nil, ErrNotOf
}

func (r *reader) truth() (data.Datum, error) {
	switch {
	case r.take('T'):
		return data.Truth(true), nil
	case r.take('F'):
		return data.Truth(false), nil
	}
	return nil, ErrNotOf
}

func (r *reader) number(least, most int64) (data.Datum, error) {
	n, ok := r.decimal(least, most)
	if !ok {
		return nil, ErrNotOf
	}
	return data.Number(n), nil
}

func (r *reader) quoted() (data.Datum, error) {
	letters, ok := r.between('"')
	if !ok {
		return nil, ErrNotOf
	}
	return data.Text(letters), nil
}

func (r *reader) bytes(t types.Bytes) (data.Datum, error) {
	letters, ok := r.between('\'')
	if !ok || len(letters) != t.Size {
		return nil, ErrNotOf
	}
	return data.Bytes(letters), nil
}

func (r *reader) symbol(t types.Enum) (data.Datum, error) {
	for i, symbol := range t.Symbols {
		if r.take(symbol.Byte) {
			return data.Symbol{Letter: symbol.Byte, Number: i}, nil
		}
	}
	return nil, ErrNotOf
}

func (r *reader) union(t types.Union) (data.Datum, error) {
	if !r.numbered {
		return r.branch(t, 0)
	}
	if !r.take('<') {
		return nil, ErrNotOf
	}
	number, ok := r.decimal(0, int64(len(t.Branches)-1))
	if !ok || !r.take(':') {
		return nil, ErrNotOf
	}
	d, err := r.branch(t, int(number))
	if err != nil {
		return nil, err
	}
	if !r.take('>') {
		return nil, ErrNotOf
	}
	return d, nil
}

func (r *reader) branch(t types.Union, number int) (data.Datum, error) {
	d, err := r.datum(t.Branches[number])
	if err != nil {
		return nil, data.InBranch(number, err)
	}
	return data.Branch{Number: number, Datum: d}, nil
}

func (r *reader) list(t types.List) (data.Datum, error) {
	var list data.List
	err := r.items('[', ']', func() error {
		d, err := r.datum(t.Item)
		if err != nil {
			return data.InItem(len(list), err)
		}
		list = append(list, d)
		return nil
	})
	if err != nil {
		return nil, err
	}
	return list, nil
}

func (r *reader) mapping(t types.Map) (data.Datum, error) {
	var entries data.Map
	err := r.items('{', '}', func() error {
		key := r.run(isLetter)
		if len(entries) > 0 && key <= entries[len(entries)-1].Key || !r.take(':') {
			return ErrNotOf
		}
		d, err := r.datum(t.Item)
		if err != nil {
			return data.InKey(key, err)
		}
		entries = append(entries, data.Entry{Key: key, Datum: d})
		return nil
	})
	if err != nil {
		return nil, err
	}
	return entries, nil
}

func (r *reader) record(t types.Record) (data.Datum, error) {
	var record data.Record
	err := r.items('(', ')', func() error {
		if len(record) == len(t.Fields) {
			return ErrNotOf
		}
		field := t.Fields[len(record)]
		d, err := r.datum(field.Type)
		if err != nil {
			return data.InField(field.Letter.Byte, err)
		}
		record = append(record, d)
		return nil
	})
	if err != nil {
		return nil, err
	}
	if len(record) < len(t.Fields) {
		return nil, ErrNotOf
	}
	return record, nil
}
