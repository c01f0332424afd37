// Package types holds a schema as trees, with the places in its text, since
// what is wrong with a schema is told by its place.
package types

import "kin/data"

// Type is a tree whose nodes are of the types below, and of no other.
type Type interface {
	Place() int
	node()
}

// Spot is the place in the schema's text where something begins.
type Spot int

// Place tells the spot as a plain number.
func (s Spot) Place() int { return int(s) }

type (
	// Nothing is n.
	Nothing struct{ Spot }
	// Truth is t.
	Truth struct{ Spot }
	// Int is i.
	Int struct{ Spot }
	// Long is l.
	Long struct{ Spot }
	// Text is s.
	Text struct{ Spot }
	// List is [T].
	List struct {
		Spot
		Item Type
	}
	// Map is {T}.
	Map struct {
		Spot
		Item Type
	}
	// Union is (T,U,..).
	Union struct {
		Spot
		Branches []Type
	}
	// Name stands for what it is defined as.
	Name struct {
		Spot
		Letter byte
	}
	// Record is r(..); it stands only in a definition.
	Record struct {
		Spot
		Fields []Field
	}
	// Enum is e(..); it stands only in a definition.
	Enum struct {
		Spot
		Symbols []Letter
		Unknown *Letter // the symbol behind !, or nil
	}
	// Bytes is f and a digit; it stands only in a definition.
	Bytes struct {
		Spot
		Size int
	}
)

func (Nothing) node() {}
func (Truth) node()   {}
func (Int) node()     {}
func (Long) node()    {}
func (Text) node()    {}
func (List) node()    {}
func (Map) node()     {}
func (Union) node()   {}
func (Name) node()    {}
func (Record) node()  {}
func (Enum) node()    {}
func (Bytes) node()   {}

// Has tells which of the record's fields has the letter.
func (r Record) Has(letter byte) (int, bool) {
	for i, field := range r.Fields {
		if field.Letter.Byte == letter {
			return i, true
		}
	}
	return 0, false
}

// Reads tells which of the enumeration's symbols another one's symbol is read
// as: the same one, or that which stands for those that are not known.
func (e Enum) Reads(symbol byte) (int, bool) {
	if i, ok := e.has(symbol); ok || e.Unknown == nil {
		return i, ok
	}
	return e.has(e.Unknown.Byte)
}

func (e Enum) has(symbol byte) (int, bool) {
	for i, s := range e.Symbols {
		if s.Byte == symbol {
			return i, true
		}
	}
	return 0, false
}

// Letter is a field's letter or a symbol, where it stands.
type Letter struct {
	Spot
	Byte byte
}

// Field is a field of a record.
type Field struct {
	Letter  Letter
	Type    Type
	Default *Default // nil, if there is none
}

// Default is what a field has where the writer's record lacks it. Its datum
// is found only once all names are known, since its type may name any.
type Default struct {
	Spot
	Text  string
	Datum data.Datum
}

// Def is a definition of a name.
type Def struct {
	Spot
	Letter byte
	Body   Type
}

// Schema is the definitions, in their order, and the type of the data.
type Schema struct {
	Defs []Def
	Root Type
}

// Meaning is what a name is defined as, or nil if it is not.
func (s Schema) Meaning(letter byte) Type {
	for _, def := range s.Defs {
		if def.Letter == letter {
			return def.Body
		}
	}
	return nil
}

// Fields are those of all records, in the order of the schema's text.
func (s Schema) Fields() []Field {
	var fields []Field
	for _, def := range s.Defs {
		if record, ok := def.Body.(Record); ok {
			fields = append(fields, record.Fields...)
		}
	}
	return fields
}
