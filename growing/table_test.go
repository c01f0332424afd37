package growing_test

import (
	"testing"

	"kin/growing"
)

// far is how far a place is from the end, plus one; 0, if no way is known.
type far int

func (f far) Betters(known far) bool { return f > 0 && (known == 0 || f < known) }

// way is one to another place.
type way struct {
	to   string
	long far
}

// ways are those from each place. From start the way by c is found first, as d
// asks for c while c is being looked into; the way by e, d and c is shorter.
var ways = map[string][]way{
	"end": nil, "start": {{"c", 10}, {"e", 1}}, "c": {{"d", 1}, {"end", 1}}, "d": {{"c", 1}}, "e": {{"d", 1}},
	"lost": {{"gone", 1}}, "gone": {{"lost", 1}, {"gone", 1}},
	"p": {{"q", 1}, {"c", 9}}, "q": {{"r", 1}, {"p", 1}}, "r": {{"q", 1}, {"c", 2}},
}

// distances is a table of how far it is, and how often it has looked.
func distances() (*growing.Table[string, string, far], *int) {
	looks := 0
	var table *growing.Table[string, string, far]
	table = growing.New(func(place string) string { return place }, func(place string) far {
		looks++
		if place == "end" {
			return 1
		}
		var found far
		for _, w := range ways[place] {
			if known := table.Known(w.to); known > 0 && (known + w.long).Betters(found) {
				found = known + w.long
			}
		}
		return found
	})
	return table, &looks
}

func TestSettledFindsTheBest(t *testing.T) {
	for _, c := range []struct {
		place string
		want  far
	}{
		{"end", 1}, {"c", 2}, {"d", 3}, {"e", 4}, {"start", 5}, {"p", 6}, {"q", 5}, {"r", 4}, {"lost", 0}, {"gone", 0},
	} {
		table, _ := distances()
		if got := table.Settled(c.place); got != c.want {
			t.Errorf("from %s it is %d, want %d", c.place, got, c.want)
		}
	}
}

// What is asked later grows on what is there, and is settled too.
func TestSettledOneAfterTheOther(t *testing.T) {
	table, looks := distances()
	for _, c := range []struct {
		place string
		want  far
	}{
		{"lost", 0}, {"q", 5}, {"p", 6}, {"start", 5}, {"e", 4}, {"lost", 0}, {"q", 5},
	} {
		if got := table.Settled(c.place); got != c.want {
			t.Errorf("from %s it is %d, want %d", c.place, got, c.want)
		}
	}
	before := *looks
	if got := table.Settled("q"); got != 5 || *looks != before {
		t.Errorf("settled already, it looked %d times more, and found %d", *looks-before, got)
	}
}

func TestKnownLooksAtOnce(t *testing.T) {
	table, _ := distances()
	if got := table.Known("c"); got != 2 {
		t.Errorf("of c %d is known, want 2", got)
	}
	table, _ = distances()
	if got := table.Known("start"); got != 12 {
		t.Errorf("of start %d is known at first, want 12", got)
	}
}

// spot is asked about by its number alone.
type spot struct {
	number int
	words  []string
}

type told string

func (s told) Betters(known told) bool { return len(s) > len(known) }

func TestQuestionsOfOneKeyAreOne(t *testing.T) {
	looks := 0
	table := growing.New(func(s spot) int { return s.number }, func(s spot) told {
		looks++
		return told(s.words[0])
	})
	for _, s := range []spot{{1, []string{"one"}}, {1, []string{"another"}}} {
		if got := table.Settled(s); got != "one" {
			t.Errorf("of %v %s is known", s, got)
		}
	}
	if got := table.Settled(spot{2, []string{"two"}}); got != "two" {
		t.Errorf("of 2 %s is known", got)
	}
}

// In a long ring what is found first is the long way round.
func TestSettledGoesOnUntilNothingChanges(t *testing.T) {
	const size, end = 100, 30
	var table *growing.Table[int, int, far]
	table = growing.New(func(i int) int { return i }, func(i int) far {
		if i == end {
			return 1
		}
		var found far
		for _, next := range []int{(i + size - 1) % size, (i + 1) % size} {
			if known := table.Known(next); known > 0 && (known + 1).Betters(found) {
				found = known + 1
			}
		}
		return found
	})
	table.Known(0)
	if got := table.Known(size - 1); got != size-end {
		t.Errorf("of the last one %d is known at first, want %d", got, size-end)
	}
	for i := range size {
		way := max(i-end, end-i)
		if got, want := table.Settled(i), far(min(way, size-way)+1); got != want {
			t.Errorf("of %d %d is known, want %d", i, got, want)
		}
	}
}
