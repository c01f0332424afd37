package wire

import "kin/data"

// Write tells the bytes of a datum.
func Write(d data.Datum) string { return string(appendDatum(nil, d)) }

func appendDatum(bytes []byte, d data.Datum) []byte {
	switch d := d.(type) {
	case data.Truth:
		return appendTruth(bytes, d)
	case data.Number:
		return appendNumber(bytes, int64(d))
	case data.Text:
		return appendText(bytes, string(d))
	case data.List:
		return appendAll(appendNumber(bytes, int64(len(d))), d)
	case data.Map:
		return appendMap(bytes, d)
	case data.Branch:
		return appendDatum(appendNumber(bytes, int64(d.Number)), d.Datum)
	case data.Record:
		return appendAll(bytes, d)
	case data.Symbol:
		return appendNumber(bytes, int64(d.Number))
	case data.Bytes:
		return append(bytes, d...)
	}
	return bytes // nothing has none
}

func appendTruth(bytes []byte, d data.Truth) []byte {
	if d {
		return append(bytes, 1)
	}
	return append(bytes, 0)
}

func appendNumber(bytes []byte, n int64) []byte {
	z := fold(n)
	for z >= 128 {
		bytes = append(bytes, byte(z)|128)
		z >>= 7
	}
	return append(bytes, byte(z))
}

func appendText(bytes []byte, text string) []byte {
	return append(appendNumber(bytes, int64(len(text))), text...)
}

func appendAll(bytes []byte, all []data.Datum) []byte {
	for _, d := range all {
		bytes = appendDatum(bytes, d)
	}
	return bytes
}

func appendMap(bytes []byte, d data.Map) []byte {
	bytes = appendNumber(bytes, int64(len(d)))
	for _, entry := range d {
		bytes = appendDatum(appendText(bytes, entry.Key), entry.Datum)
	}
	return bytes
}

// fold makes numbers near 0 small ones, whatever their sign.
func fold(n int64) uint64 {
	if n < 0 {
		return 2*uint64(^n) + 1
	}
	return 2 * uint64(n)
}

func unfold(z uint64) int64 {
	if z%2 == 1 {
		return ^int64(z / 2)
	}
	return int64(z / 2)
}
