package kin_test

import (
	"strings"
	"sync"
	"testing"

	"kin/kin"
)

// oddStrings are strings of all sorts: right ones, right ones with a byte
// gone, changed or put in, and some of no sense.
func oddStrings() []string {
	odd := []string{"", "\x00", "\xff\xfe", strings.Repeat("(", 299), strings.Repeat("[", 5000), strings.Repeat("\x80", 5000)}
	for _, c := range append(goodDefaults, badDefaults...) {
		schema, _ := withDefault(c[0], c[1])
		odd = append(odd, schema, c[1])
	}
	for _, c := range dataAndBytes {
		odd = append(odd, c[1], c[2])
	}
	const signs = "\x00\xffAFGaefrnz09-[]{}()<>,;:=!\"'NT "
	for _, s := range append(goodSchemas, "A=r(x:[(s,i)]=[\"a\",\"\"],y:{B}={:b,a:b},z:C='ab');B=e(b!b);C=f2;(A,n)") {
		odd = append(odd, s)
		if len(s) > 100 {
			continue
		}
		for i := range len(s) {
			odd = append(odd, s[:i], s[i:], s[:i]+s[i+1:])
			for _, sign := range []byte(signs) {
				odd = append(odd, s[:i]+string([]byte{sign})+s[i:], s[:i]+string([]byte{sign})+s[i+1:])
			}
		}
	}
	return odd
}

type answer struct {
	text  string
	place int
	e     kin.Errno
	ok    bool
}

// answers are those of every call at a string, in each argument's place.
func answers(s string) []answer {
	var all []answer
	text, e, place := kin.Schema(s)
	all = append(all, answer{text, place, e, false})
	for _, pair := range [][2]string{{s, "N"}, {"n", s}, {s, s}, {defs + everyBranch, s}, {s, defs + everyBranch}} {
		text, e := kin.Encode(pair[0], pair[1])
		all = append(all, answer{text, 0, e, false})
		text, n, e := kin.Decode(pair[0], pair[1])
		all = append(all, answer{text, n, e, false})
		for _, data := range []string{"", "\x02", s} {
			text, n, e := kin.Resolve(pair[0], pair[1], data)
			all = append(all, answer{text, n, e, false})
		}
		ok, text, e := kin.Check(pair[0], pair[1])
		all = append(all, answer{text, 0, e, ok})
	}
	return all
}

// P1: a call that does not end, or panics, fails this test; the place is the
// one result beside the error that a refusal may have.
func TestEveryCallAnswers(t *testing.T) {
	for _, s := range oddStrings() {
		all := answers(s)
		for i, a := range all {
			if a.e != kin.OK && (a.text != "" || a.ok || i > 0 && a.place != 0) {
				t.Errorf("at %q call %d answers an error with other results: %+v", s, i, a)
			}
		}
		if schema := all[0]; schema.e == kin.OK && (schema.text != s || schema.place != 0) {
			t.Errorf("Schema(%q) = %+v, want the schema", s, schema)
		} else if schema.place < 0 || schema.place > len(s) {
			t.Errorf("Schema(%q) tells the place %d outside of it", s, schema.place)
		}
	}
}

// P2: neither what was asked ahead nor what is asked meanwhile is to be seen.
func TestAnswersHangOnArgumentsAlone(t *testing.T) {
	odd := oddStrings()
	first := make([][]answer, len(odd))
	for i, s := range odd {
		first[i] = answers(s)
	}
	var workers sync.WaitGroup
	for worker := range 4 {
		workers.Add(1)
		go func() {
			defer workers.Done()
			for i := worker; i < len(odd); i++ {
				back := len(odd) - 1 - i
				for k, a := range answers(strings.Clone(odd[back])) {
					if a != first[back][k] {
						t.Errorf("at %q call %d answers %+v, then %+v", odd[back], k, first[back][k], a)
					}
				}
			}
		}()
	}
	workers.Wait()
}

// P3: each byte is looked at by what stands ahead of it alone: so the text up
// to the place ends too early there or is right, whatever stands behind.
func TestGrammarLooksAheadOnly(t *testing.T) {
	for _, s := range oddStrings() {
		_, e, at := kin.Schema(s)
		if e != kin.ErrSchema {
			continue
		}
		if _, e, cut := kin.Schema(s[:at]); e == kin.ErrSchema && cut != at {
			t.Errorf("Schema(%q) blames %d, but up to there it blames %d", s, at, cut)
		}
		if at == len(s) {
			continue
		}
		for _, behind := range []string{"", "n", ");A", "\x00"} {
			if changed := s[:at+1] + behind; len(changed) <= 300 {
				refuses(t, changed, kin.ErrSchema, at)
			}
		}
	}
}
