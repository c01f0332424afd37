// Package wire reads and writes the bytes of data.
package wire

import "errors"

// What can be wrong with the bytes of a datum, besides too many nodes.
var (
	ErrLong = errors.New("data above their bound")
	ErrData = errors.New("bytes that are not as they should be")
)
