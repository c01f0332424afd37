// Package notation reads the texts of data.
package notation

import "errors"

// ErrNotOf is the cause of all that is wrong with a datum's text.
var ErrNotOf = errors.New("no datum of the type")

// Within tells the step from a datum to the one within it that is at fault.
// One wraps the other, so that together they tell the whole way.
type Within struct {
	Step  string
	Cause error
}

func (w *Within) Error() string { return w.Step + ": " + w.Cause.Error() }

func (w *Within) Unwrap() error { return w.Cause }
