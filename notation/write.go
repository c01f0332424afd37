package notation

import (
	"strconv"

	"kin/data"
)

// Write tells a datum's text.
func Write(d data.Datum) string { return string(appendDatum(nil, d)) }

func appendDatum(text []byte, d data.Datum) []byte {
	switch d := d.(type) {
	case data.Nothing:
		return append(text, 'N')
	case data.Truth:
		return appendTruth(text, d)
	case data.Number:
		return strconv.AppendInt(text, int64(d), 10)
	case data.Text:
		return appendMarked(text, '"', string(d))
	case data.List:
		return appendAll(text, '[', d, ']')
	case data.Map:
		return appendMap(text, d)
	case data.Branch:
		return appendBranch(text, d)
	case data.Record:
		return appendAll(text, '(', d, ')')
	case data.Symbol:
		return append(text, d.Letter)
	case data.Bytes:
		return appendMarked(text, '\'', string(d))
	}
	return text
}

func appendTruth(text []byte, d data.Truth) []byte {
	if d {
		return append(text, 'T')
	}
	return append(text, 'F')
}

func appendMarked(text []byte, mark byte, letters string) []byte {
	text = append(text, mark)
	text = append(text, letters...)
	return append(text, mark)
}

func appendAll(text []byte, opening byte, all []data.Datum, closing byte) []byte {
	text = append(text, opening)
	for i, d := range all {
		text = appendDatum(appendComma(text, i), d)
	}
	return append(text, closing)
}

func appendMap(text []byte, d data.Map) []byte {
	text = append(text, '{')
	for i, entry := range d {
		text = append(appendComma(text, i), entry.Key...)
		text = appendDatum(append(text, ':'), entry.Datum)
	}
	return append(text, '}')
}

func appendBranch(text []byte, d data.Branch) []byte {
	text = strconv.AppendInt(append(text, '<'), int64(d.Number), 10)
	text = appendDatum(append(text, ':'), d.Datum)
	return append(text, '>')
}

// appendComma parts what stands at the place i from what stands ahead of it.
func appendComma(text []byte, i int) []byte {
	if i == 0 {
		return text
	}
	return append(text, ',')
}
