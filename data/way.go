package data

import "strconv"

// Within tells the step from a datum to the one within it that is at fault.
// One wraps the other, so that together they tell the whole way.
type Within struct {
	Step  string
	Cause error
}

func (w *Within) Error() string { return w.Step + ": " + w.Cause.Error() }

func (w *Within) Unwrap() error { return w.Cause }

// InItem wraps what is wrong within a list's item, counted from 0 on.
func InItem(i int, cause error) error {
	return &Within{Step: "item " + strconv.Itoa(i), Cause: cause}
}

// InKey wraps what is wrong with what stands under a map's key.
func InKey(key string, cause error) error {
	return &Within{Step: "key " + strconv.Quote(key), Cause: cause}
}

// InBranch wraps what is wrong within the datum of a branch.
func InBranch(number int, cause error) error {
	return &Within{Step: "branch " + strconv.Itoa(number), Cause: cause}
}

// InField wraps what is wrong within the datum of a record's field.
func InField(letter byte, cause error) error {
	return &Within{Step: "field " + string(rune(letter)), Cause: cause}
}
