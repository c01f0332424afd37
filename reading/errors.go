// Package reading reads data by another schema than that they were written
// by, and finds data that cannot be read so.
package reading

import "errors"

// ErrNothing is the cause where nothing can be made of a datum.
var ErrNothing = errors.New("nothing can be made of it")
