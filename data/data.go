// Package data holds data as trees, apart from any text or bytes of them.
package data

// Datum is a tree whose nodes are of the types below, and of no other.
type Datum interface{ datum() }

type (
	// Nothing is the one datum of n.
	Nothing struct{}
	// Truth is a datum of t.
	Truth bool
	// Number is a datum of i or of l: one that was written as an i may be read as an l.
	Number int64
	// Text is a datum of s.
	Text string
	// List is a datum of a list.
	List []Datum
	// Map is a datum of a map: its keys rise.
	Map []Entry
	// Branch is a datum of a (..).
	Branch struct {
		Number int
		Datum  Datum
	}
	// Record is a datum of a record: one for each field, in their order.
	Record []Datum
	// Symbol is a datum of an enumeration. Its text is the letter, its bytes are
	// the number among the symbols: with both at hand, neither needs the type.
	Symbol struct {
		Letter byte
		Number int
	}
	// Bytes is a datum of so many bytes.
	Bytes string
)

// Entry is a key of a map and what stands under it.
type Entry struct {
	Key   string
	Datum Datum
}

func (Nothing) datum() {}
func (Truth) datum()   {}
func (Number) datum()  {}
func (Text) datum()    {}
func (List) datum()    {}
func (Map) datum()     {}
func (Branch) datum()  {}
func (Record) datum()  {}
func (Symbol) datum()  {}
func (Bytes) datum()   {}
