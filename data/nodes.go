package data

import "errors"

// MaxNodes is how many nodes a datum may have that goes in or comes out.
const MaxNodes = 300

// ErrBig is the cause where a datum has more nodes than MaxNodes.
var ErrBig = errors.New("more nodes than a datum may have")

// CheckNodes answers ErrBig, if the datum has more nodes than MaxNodes.
func CheckNodes(d Datum) error {
	if nodes(d) > MaxNodes {
		return ErrBig
	}
	return nil
}

// nodes counts the datum itself and all data within; a key is no datum.
func nodes(d Datum) int {
	count := 1
	switch d := d.(type) {
	case List:
		for _, item := range d {
			count += nodes(item)
		}
	case Map:
		for _, entry := range d {
			count += nodes(entry.Datum)
		}
	case Branch:
		count += nodes(d.Datum)
	case Record:
		for _, field := range d {
			count += nodes(field)
		}
	}
	return count
}
