// Package notation reads and writes the texts of data.
package notation

import "errors"

// What can be wrong with a datum's text.
var (
	ErrLong  = errors.New("a datum's text above its bound")
	ErrNotOf = errors.New("no datum of the type")
)
