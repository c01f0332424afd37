package schemas

import "kin/types"

// checkNames goes through the schema in the order of its text, so that the
// first fault it meets is the first of all.
func checkNames(s types.Schema) error {
	for i, def := range s.Defs {
		ahead := types.Schema{Defs: s.Defs[:i]}
		if ahead.Meaning(def.Letter) != nil {
			return &Fault{Place: def.Place(), Cause: ErrName}
		}
		if err := checkBody(s, def.Body); err != nil {
			return err
		}
	}
	return checkUses(s, s.Root)
}

func checkBody(s types.Schema, body types.Type) error {
	switch body := body.(type) {
	case types.Record:
		return checkFields(s, body)
	case types.Enum:
		return checkSymbols(body)
	}
	return nil
}

func checkFields(s types.Schema, record types.Record) error {
	var seen letters
	for _, field := range record.Fields {
		if !seen.add(field.Letter) {
			return &Fault{Place: field.Letter.Place(), Cause: ErrName}
		}
		if err := checkUses(s, field.Type); err != nil {
			return err
		}
	}
	return nil
}

func checkSymbols(enum types.Enum) error {
	var seen letters
	for _, symbol := range enum.Symbols {
		if !seen.add(symbol) {
			return &Fault{Place: symbol.Place(), Cause: ErrName}
		}
	}
	if enum.Unknown != nil && !seen.has(*enum.Unknown) {
		return &Fault{Place: enum.Unknown.Place(), Cause: ErrName}
	}
	return nil
}

func checkUses(s types.Schema, t types.Type) error {
	switch t := t.(type) {
	case types.List:
		return checkUses(s, t.Item)
	case types.Map:
		return checkUses(s, t.Item)
	case types.Union:
		for _, branch := range t.Branches {
			if err := checkUses(s, branch); err != nil {
				return err
			}
		}
	case types.Name:
		if s.Meaning(t.Letter) == nil {
			return &Fault{Place: t.Place(), Cause: ErrName}
		}
	}
	return nil
}

// letters are those from a to z that have been seen.
type letters [26]bool

func (l *letters) has(letter types.Letter) bool { return l[letter.Byte-'a'] }

// add tells whether the letter is new.
func (l *letters) add(letter types.Letter) bool {
	if l.has(letter) {
		return false
	}
	l[letter.Byte-'a'] = true
	return true
}
