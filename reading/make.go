package reading

import (
	"kin/data"
	"kin/types"
)

// Make is what the reader makes of a datum of the writer's type; what is made
// may have any number of nodes.
func Make(writer, reader types.Schema, d data.Datum) (data.Datum, error) {
	return both{writer: writer, reader: reader}.made(writer.Root, reader.Root, d)
}

func (b both) made(w, r types.Type, d data.Datum) (data.Datum, error) {
	return b.madeBy(b.meet(w, r), d)
}

func (b both) madeBy(m meeting, d data.Datum) (data.Datum, error) {
	switch m := m.(type) {
	case asIs:
		return d, nil
	case outOf:
		return b.madeOutOf(m, d)
	case into:
		return b.madeInto(m, d)
	case ofItems:
		return b.madeOfItems(m, d)
	case ofSymbols:
		return madeOfSymbol(m, d)
	case ofFields:
		return b.madeOfFields(m, d)
	}
	return nil, ErrNothing
}

func (b both) madeOutOf(m outOf, d data.Datum) (data.Datum, error) {
	branch, ok := d.(data.Branch)
	if !ok {
		return nil, ErrNothing
	}
	made, err := b.made(m.branches[branch.Number], m.reader, branch.Datum)
	if err != nil {
		return nil, data.InBranch(branch.Number, err)
	}
	return made, nil
}

func (b both) madeInto(m into, d data.Datum) (data.Datum, error) {
	made, err := b.madeBy(m.branch, d)
	if err != nil {
		return nil, err
	}
	return data.Branch{Number: m.number, Datum: made}, nil
}

func (b both) madeOfItems(m ofItems, d data.Datum) (data.Datum, error) {
	switch d := d.(type) {
	case data.List:
		return b.madeOfList(m, d)
	case data.Map:
		return b.madeOfMap(m, d)
	}
	return nil, ErrNothing
}

func (b both) madeOfList(m ofItems, list data.List) (data.Datum, error) {
	var made data.List
	for i, item := range list {
		d, err := b.made(m.writer, m.reader, item)
		if err != nil {
			return nil, data.InItem(i, err)
		}
		made = append(made, d)
	}
	return made, nil
}

func (b both) madeOfMap(m ofItems, entries data.Map) (data.Datum, error) {
	var made data.Map
	for _, entry := range entries {
		d, err := b.made(m.writer, m.reader, entry.Datum)
		if err != nil {
			return nil, data.InKey(entry.Key, err)
		}
		made = append(made, data.Entry{Key: entry.Key, Datum: d})
	}
	return made, nil
}

func madeOfSymbol(m ofSymbols, d data.Datum) (data.Datum, error) {
	symbol, ok := d.(data.Symbol)
	if !ok {
		return nil, ErrNothing
	}
	number, ok := m.reader.Reads(symbol.Letter)
	if !ok {
		return nil, ErrNothing
	}
	return data.Symbol{Letter: m.reader.Symbols[number].Byte, Number: number}, nil
}

func (b both) madeOfFields(m ofFields, d data.Datum) (data.Datum, error) {
	record, ok := d.(data.Record)
	if !ok {
		return nil, ErrNothing
	}
	var made data.Record
	for _, field := range m.reader.Fields {
		d, err := b.madeField(m.writer, field, record)
		if err != nil {
			return nil, data.InField(field.Letter.Byte, err)
		}
		made = append(made, d)
	}
	return made, nil
}

func (b both) madeField(w types.Record, field types.Field, record data.Record) (data.Datum, error) {
	if i, ok := w.Has(field.Letter.Byte); ok {
		return b.made(w.Fields[i].Type, field.Type, record[i])
	}
	if field.Default == nil {
		return nil, ErrNothing
	}
	return field.Default.Datum, nil
}
