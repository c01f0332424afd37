// Package schemas reads the texts of schemas.
package schemas

import "errors"

// What can be wrong with a schema, besides a default that is no datum.
var (
	ErrLong    = errors.New("a schema's text above its bound")
	ErrGrammar = errors.New("not as the grammar says")
	ErrName    = errors.New("a name or letter that is there twice, or not at all")
	ErrUnion   = errors.New("a branch that cannot be")
)

// Fault tells the place in the schema's text that is at fault, and wraps
// what is wrong there.
type Fault struct {
	Place int
	Cause error
}

func (f *Fault) Error() string { return f.Cause.Error() }

func (f *Fault) Unwrap() error { return f.Cause }
