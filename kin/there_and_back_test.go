package kin_test

import (
	"strings"
	"testing"

	"kin/kin"
)

// changed are a string with each byte gone, changed, or with one put ahead.
func changed(s string, signs []byte) []string {
	all := []string{s}
	for i := range len(s) + 1 {
		for _, sign := range signs {
			all = append(all, s[:i]+string([]byte{sign})+s[i:])
			if i < len(s) {
				all = append(all, s[:i]+string([]byte{sign})+s[i+1:])
			}
		}
		if i < len(s) {
			all = append(all, s[:i], s[:i]+s[i+1:])
		}
	}
	return all
}

func everyByte() []byte {
	var all []byte
	for b := range 256 {
		all = append(all, byte(b))
	}
	return all
}

// P4 and P5: a datum has one text and one row of bytes, so that what Encode
// takes comes back from Decode as it was.
func TestThereAndBack(t *testing.T) {
	signs := []byte("\x00\xff\x80AFTNabz019-+[]{}()<>,;:=!\"' ")
	taken := 0
	for _, c := range dataAndBytes {
		schema := defs + c[0]
		if len(c[1]) > 40 {
			continue
		}
		for _, text := range changed(c[1], signs) {
			bytes, e := kin.Encode(schema, text)
			if e == kin.ErrDatum && bytes == "" {
				continue
			}
			taken++
			if e != kin.OK {
				t.Errorf("Encode(%q, %q) = %q, %d", schema, text, bytes, e)
			}
			decodes(t, schema, bytes, text, len(bytes))
			decodes(t, schema, bytes+"\xffz", text, len(bytes))
		}
	}
	if taken < 1000 {
		t.Errorf("only %d texts were taken", taken)
	}
}

// The same the other way round: bytes that Decode takes are those of the
// datum, and no others are.
func TestBackAndThere(t *testing.T) {
	taken := 0
	for _, c := range dataAndBytes {
		schema := defs + c[0]
		if len(c[2]) > 40 {
			continue
		}
		for _, bytes := range changed(c[2], everyByte()) {
			text, size, e := kin.Decode(schema, bytes)
			if (e == kin.ErrData || e == kin.ErrBig) && text == "" && size == 0 {
				continue
			}
			taken++
			if e != kin.OK || size > len(bytes) {
				t.Errorf("Decode(%q, %q) = %q, %d, %d", schema, bytes, text, size, e)
				continue
			}
			encodes(t, schema, text, bytes[:size])
		}
	}
	if taken < 1000 {
		t.Errorf("only %d were taken", taken)
	}
}

// P1: whatever the data, a call ends and does not panic; here at schemas whose
// data have many within each, none at all, or no bytes.
func TestCodingEnds(t *testing.T) {
	for _, schema := range []string{
		"A=r(a:A,b:A,c:A,d:A);A", "A=r(a:[A],b:[A],c:{A});A", "A=r(a:(n,A),b:(A,n));A", "A=r(a:[B]);B=r(a:(A),b:n);B",
		"[[[[[[[[[[n]]]]]]]]]]", "[{[{[{[{s}]}]}]}]", nested(149),
	} {
		for b := range 256 {
			for _, size := range []int{0, 1, 2, 3, 10, 300, 4000, 4001} {
				same := strings.Repeat(string([]byte{byte(b)}), size)
				for _, s := range []string{same, "\xfe\xff\xff\xff\xff\xff\xff\xff\xff\x01" + same, "((((([[[[[" + same} {
					if bytes, e := kin.Encode(schema, s); e != kin.OK && bytes != "" {
						t.Errorf("Encode(%q, %.40q) = %q, %d", schema, s, bytes, e)
					}
					if text, n, e := kin.Decode(schema, s); e != kin.OK && (text != "" || n != 0) {
						t.Errorf("Decode(%q, %.40q) = %q, %d, %d", schema, s, text, n, e)
					}
				}
			}
		}
	}
}
