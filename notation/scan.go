package notation

import "strconv"

// take moves behind the sign, if it is the next byte.
func (r *reader) take(sign byte) bool {
	if r.at < len(r.text) && r.text[r.at] == sign {
		r.at++
		return true
	}
	return false
}

// run moves behind all the bytes of a class that come next, and tells them.
func (r *reader) run(class func(byte) bool) string {
	start := r.at
	for r.at < len(r.text) && class(r.text[r.at]) {
		r.at++
	}
	return r.text[start:r.at]
}

// decimal reads a number in base ten that has no needless zeros, and is no -0.
func (r *reader) decimal(least, most int64) (int64, bool) {
	start := r.at
	negative := r.take('-')
	digits := r.run(isDigit)
	if digits == "" || digits[0] == '0' && (negative || len(digits) > 1) {
		return 0, false
	}
	n, err := strconv.ParseInt(r.text[start:r.at], 10, 64)
	return n, err == nil && n >= least && n <= most
}

// between reads letters that stand between two like marks.
func (r *reader) between(mark byte) (string, bool) {
	if !r.take(mark) {
		return "", false
	}
	letters := r.run(isLetter)
	return letters, r.take(mark)
}

// items reads what stands between two brackets, with commas between.
func (r *reader) items(opening, closing byte, item func() error) error {
	if !r.take(opening) {
		return ErrNotOf
	}
	if r.take(closing) {
		return nil
	}
	for {
		if err := item(); err != nil {
			return err
		}
		if r.take(closing) {
			return nil
		}
		if !r.take(',') {
			return ErrNotOf
		}
	}
}

func isDigit(b byte) bool { return b >= '0' && b <= '9' }

func isLetter(b byte) bool { return b >= 'a' && b <= 'z' }
