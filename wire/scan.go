package wire

import "math"

func (r *reader) next() (byte, error) {
	if r.at == len(r.bytes) {
		return 0, ErrData
	}
	r.at++
	return r.bytes[r.at-1], nil
}

// number reads a number that is told in as few bytes as can be.
func (r *reader) number(least, most int64) (int64, error) {
	var z uint64
	for shift := 0; ; shift += 7 {
		b, err := r.next()
		if err != nil {
			return 0, err
		}
		low := uint64(b % 128)
		if low<<shift>>shift != low {
			return 0, ErrData
		}
		z |= low << shift
		if b >= 128 {
			continue
		}
		if n := unfold(z); n >= least && n <= most && (b > 0 || shift == 0) {
			return n, nil
		}
		return 0, ErrData
	}
}

// count reads how many there are.
func (r *reader) count() (int64, error) { return r.number(0, math.MaxInt64) }

// choice reads the number of one of so many branches or symbols.
func (r *reader) choice(among int) (int, error) {
	n, err := r.number(0, int64(among-1))
	return int(n), err
}

func (r *reader) sizedLetters() (string, error) {
	size, err := r.count()
	if err != nil {
		return "", err
	}
	return r.letters(size)
}

func (r *reader) letters(size int64) (string, error) {
	if size > int64(len(r.bytes)-r.at) {
		return "", ErrData
	}
	start := r.at
	r.at += int(size)
	letters := r.bytes[start:r.at]
	for _, b := range []byte(letters) {
		if b < 'a' || b > 'z' {
			return "", ErrData
		}
	}
	return letters, nil
}
