// Package growing finds out facts that rest on each other, also in rings.
package growing

// Fact is what a table holds of a question. Its zero value says that nothing
// is known. A fact must not get better without end, or a table never settles.
type Fact[F any] interface {
	// Betters tells whether the fact goes beyond one that was known ahead of it.
	Betters(known F) bool
}

// Table holds facts on questions that it is asked: each begins as nothing and
// grows from what is known of the others, until nothing changes any more.
type Table[Q any, K comparable, F Fact[F]] struct {
	key  func(Q) K
	find func(Q) F
	rows []row[Q, F]
	at   map[K]int
	grew bool
}

type row[Q, F any] struct {
	question Q
	known    F
}

// New makes a table in which questions of one key are the same question. To
// find a fact, find asks the table for what is Known of other questions.
func New[Q any, K comparable, F Fact[F]](key func(Q) K, find func(Q) F) *Table[Q, K, F] {
	return &Table[Q, K, F]{key: key, find: find, at: map[K]int{}}
}

// Known is what is known of a question as yet. A new one is looked into at
// once, so that facts that rest on no ring need no further round.
func (t *Table[Q, K, F]) Known(question Q) F {
	key := t.key(question)
	i, ok := t.at[key]
	if !ok {
		i = len(t.rows)
		t.at[key] = i
		t.rows = append(t.rows, row[Q, F]{question: question})
		t.look(i)
	}
	return t.rows[i].known
}

// Settled is what is known of a question when nothing changes any more. It is
// not for find to ask of its own table.
func (t *Table[Q, K, F]) Settled(question Q) F {
	t.Known(question)
	for t.grew {
		t.grew = false
		for i := range len(t.rows) {
			t.look(i)
		}
	}
	return t.Known(question)
}

func (t *Table[Q, K, F]) look(i int) {
	found := t.find(t.rows[i].question)
	if found.Betters(t.rows[i].known) {
		t.rows[i].known = found
		t.grew = true
	}
}
