package notation

// take moves behind the sign, if it is the next byte.
func (r *reader) take(sign byte) bool {
	if r.at < len(r.text) && r.text[r.at] == sign {
		r.at++
		return true
	}
	return false
}

// run moves behind all the bytes of a class that come next, and tells them.
func (r *reader) run(class func(byte) bool) string {
	start := r.at
	for r.at < len(r.text) && class(r.text[r.at]) {
		r.at++
	}
	return r.text[start:r.at]
}

// between reads letters that stand between two like marks.
func (r *reader) between(mark byte) (string, bool) {
	if !r.take(mark) {
		return "", false
	}
	letters := r.run(isLetter)
	return letters, r.take(mark)
}

// items reads what stands between two brackets, with commas between.
func (r *reader) items(opening, closing byte, item func() error) error {
	if !r.take(opening) {
		return ErrNotOf
	}
	if r.take(closing) {
		return nil
	}
	for {
		if err := item(); err != nil {
			return err
		}
		if r.take(closing) {
			return nil
		}
		if !r.take(',') {
			return ErrNotOf
		}
	}
}

func isDigit(b byte) bool { return b >= '0' && b <= '9' }

func isLetter(b byte) bool { return b >= 'a' && b <= 'z' }
