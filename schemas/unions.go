package schemas

import "kin/types"

func checkUnions(s types.Schema) error {
	for _, field := range s.Fields() {
		if err := checkBranches(field.Type); err != nil {
			return err
		}
	}
	return checkBranches(s.Root)
}

// checkBranches looks into a branch ahead of the next one, as what stands
// within it stands ahead of that in the text.
func checkBranches(t types.Type) error {
	switch t := t.(type) {
	case types.List:
		return checkBranches(t.Item)
	case types.Map:
		return checkBranches(t.Item)
	case types.Union:
		for i, branch := range t.Branches {
			if isUnion(branch) || hasKind(t.Branches[:i], kindOf(branch)) {
				return &Fault{Place: branch.Place(), Cause: ErrUnion}
			}
			if err := checkBranches(branch); err != nil {
				return err
			}
		}
	}
	return nil
}

func isUnion(t types.Type) bool {
	_, ok := t.(types.Union)
	return ok
}

func hasKind(branches []types.Type, kind byte) bool {
	for _, branch := range branches {
		if kindOf(branch) == kind {
			return true
		}
	}
	return false
}

// kindOf tells apart what may stand side by side in a (..): by the sign that
// each kind begins with, a name by its letter.
func kindOf(t types.Type) byte {
	switch t := t.(type) {
	case types.Nothing:
		return 'n'
	case types.Truth:
		return 't'
	case types.Int:
		return 'i'
	case types.Long:
		return 'l'
	case types.Text:
		return 's'
	case types.List:
		return '['
	case types.Map:
		return '{'
	case types.Name:
		return t.Letter
	}
	return 0
}
