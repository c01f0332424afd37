// Package kin: data that outlive the schema they were written by: see DOC.md.
package kin

import (
	"errors"
	"strings"

	"kin/data"
	"kin/notation"
	"kin/reading"
	"kin/schemas"
	"kin/types"
	"kin/wire"
)

// Errno is what a call answers: OK or the reason for a refusal.
type Errno int

const (
	OK        Errno = 0
	ErrLong   Errno = 1 // a text above its bound
	ErrSchema Errno = 2 // no schema
	ErrName   Errno = 3 // a name that is there twice, or not at all
	ErrUnion  Errno = 4 // a branch that cannot be
	ErrDatum  Errno = 5 // no datum of its type
	ErrData   Errno = 6 // bytes of no datum
	ErrBig    Errno = 7 // too many nodes
	ErrKin    Errno = 8 // nothing can be made of it
)

// Schema looks at a schema (P3).
func Schema(schema string) (string, Errno, int) {
	if _, err := schemas.Read(schema); err != nil {
		return "", number(err), place(err)
	}
	return strings.Clone(schema), OK, 0
}

// Encode writes a datum as bytes (P4).
func Encode(schema string, datum string) (string, Errno) {
	bytes, err := encode(schema, datum)
	return bytes, number(err)
}

func encode(schema, datum string) (string, error) {
	s, err := schemas.Read(schema)
	if err != nil {
		return "", err
	}
	d, err := notation.Read(s, datum)
	if err != nil {
		return "", err
	}
	if err := data.CheckNodes(d); err != nil {
		return "", err
	}
	return wire.Write(d), nil
}

// Decode reads a datum, and tells how many bytes it has (P5).
func Decode(schema string, data string) (string, int, Errno) {
	text, size, err := decode(schema, data)
	return text, size, number(err)
}

func decode(schema, bytes string) (string, int, error) {
	s, err := schemas.Read(schema)
	if err != nil {
		return "", 0, err
	}
	d, size, err := wire.Read(s, bytes)
	if err != nil {
		return "", 0, err
	}
	return notation.Write(d), size, nil
}

// Resolve reads a datum by another schema (P6).
func Resolve(writer string, reader string, data string) (string, int, Errno) {
	text, size, err := resolve(writer, reader, data)
	return text, size, number(err)
}

func resolve(writer, reader, bytes string) (string, int, error) {
	w, r, err := readBoth(writer, reader)
	if err != nil {
		return "", 0, err
	}
	d, size, err := wire.Read(w, bytes)
	if err != nil {
		return "", 0, err
	}
	made, err := reading.Make(w, r, d)
	if err != nil {
		return "", 0, err
	}
	if err := data.CheckNodes(made); err != nil {
		return "", 0, err
	}
	return notation.Write(made), size, nil
}

// Check tells whether one schema can read what another one writes; if not, it
// shows a datum that it can't (P7).
func Check(writer string, reader string) (bool, string, Errno) {
	unread, err := check(writer, reader)
	return err == nil && unread == "", unread, number(err)
}

// check answers the empty string, if all data can be read: it is no datum's
// text.
func check(writer, reader string) (string, error) {
	w, r, err := readBoth(writer, reader)
	if err != nil {
		return "", err
	}
	d, err := reading.Unread(w, r)
	if err != nil || d == nil {
		return "", err
	}
	return notation.Write(d), nil
}

func readBoth(writer, reader string) (w, r types.Schema, err error) {
	if w, err = schemas.Read(writer); err != nil {
		return types.Schema{}, types.Schema{}, err
	}
	if r, err = schemas.Read(reader); err != nil {
		return types.Schema{}, types.Schema{}, err
	}
	return w, r, nil
}

func number(err error) Errno {
	switch {
	case isLong(err):
		return ErrLong
	case errors.Is(err, schemas.ErrGrammar):
		return ErrSchema
	case errors.Is(err, schemas.ErrName):
		return ErrName
	case errors.Is(err, schemas.ErrUnion):
		return ErrUnion
	case errors.Is(err, notation.ErrNotOf):
		return ErrDatum
	case errors.Is(err, wire.ErrData):
		return ErrData
	case errors.Is(err, data.ErrBig):
		return ErrBig
	case errors.Is(err, reading.ErrNothing):
		return ErrKin
	}
	return OK
}

func isLong(err error) bool {
	return errors.Is(err, schemas.ErrLong) || errors.Is(err, notation.ErrLong) || errors.Is(err, wire.ErrLong)
}

// place is where in the schema's text the fault is; a text that is too long
// has none.
func place(err error) int {
	var fault *schemas.Fault
	if errors.As(err, &fault) {
		return fault.Place
	}
	return 0
}
