// Package kin: data that outlive the schema they were written by: see DOC.md.
package kin

import (
	"errors"
	"strings"

	"kin/notation"
	"kin/schemas"
)

// Errno is what a call answers: OK or the reason for a refusal.
type Errno int

const (
	OK        Errno = 0
	ErrLong   Errno = 1 // a text above its bound
	ErrSchema Errno = 2 // no schema
	ErrName   Errno = 3 // a name that is there twice, or not at all
	ErrUnion  Errno = 4 // a branch that cannot be
	ErrDatum  Errno = 5 // no datum of its type
	ErrData   Errno = 6 // bytes of no datum
	ErrBig    Errno = 7 // too many nodes
	ErrKin    Errno = 8 // nothing can be made of it
)

// Schema looks at a schema (P3).
func Schema(schema string) (string, Errno, int) {
	if _, err := schemas.Read(schema); err != nil {
		return "", number(err), place(err)
	}
	return strings.Clone(schema), OK, 0
}

// Encode writes a datum as bytes (P4). Not built yet: it answers zero values.
func Encode(schema string, datum string) (string, Errno) { return "", OK }

// Decode reads a datum (P5). Not built yet: it answers zero values.
func Decode(schema string, data string) (string, int, Errno) { return "", 0, OK }

// Resolve reads a datum by another schema (P6). Not built yet: it answers
// zero values.
func Resolve(writer string, reader string, data string) (string, int, Errno) {
	return "", 0, OK
}

// Check tells whether one schema can read what another one writes (P7). Not
// built yet: it answers zero values.
func Check(writer string, reader string) (bool, string, Errno) { return false, "", OK }

func number(err error) Errno {
	switch {
	case errors.Is(err, schemas.ErrLong):
		return ErrLong
	case errors.Is(err, schemas.ErrGrammar):
		return ErrSchema
	case errors.Is(err, schemas.ErrName):
		return ErrName
	case errors.Is(err, schemas.ErrUnion):
		return ErrUnion
	case errors.Is(err, notation.ErrNotOf):
		return ErrDatum
	}
	return OK
}

// place is where in the schema's text the fault is; a text that is too long
// has none.
func place(err error) int {
	var fault *schemas.Fault
	if errors.As(err, &fault) {
		return fault.Place
	}
	return 0
}
