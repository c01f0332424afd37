package schemas

import (
	"kin/notation"
	"kin/types"
)

const maxSchema = 300

// Read reads a schema's text. Each step looks at the whole schema, and relies
// on those ahead of it having found nothing wrong.
func Read(text string) (types.Schema, error) {
	if len(text) > maxSchema {
		return types.Schema{}, ErrLong
	}
	p := parser{text: text}
	s, err := p.schema()
	if err != nil {
		return types.Schema{}, err
	}
	for _, step := range []func(types.Schema) error{checkNames, checkUnions, readDefaults} {
		if err := step(s); err != nil {
			return types.Schema{}, err
		}
	}
	return s, nil
}

func readDefaults(s types.Schema) error {
	for _, field := range s.Fields() {
		if field.Default == nil {
			continue
		}
		d, err := notation.Default(s, field.Type, field.Default.Text)
		if err != nil {
			return &Fault{Place: field.Default.Place(), Cause: err}
		}
		field.Default.Datum = d
	}
	return nil
}
