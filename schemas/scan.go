package schemas

import "kin/types"

func (p *parser) spot() types.Spot { return types.Spot(p.at) }

// wrong blames the byte that comes next, or the end.
func (p *parser) wrong() error { return &Fault{Place: p.at, Cause: ErrGrammar} }

// peek tells the byte that comes next; at the end a 0, which the grammar has
// nowhere.
func (p *parser) peek() byte {
	if p.at < len(p.text) {
		return p.text[p.at]
	}
	return 0
}

// take moves behind the sign, if it comes next.
func (p *parser) take(sign byte) bool {
	if p.peek() != sign {
		return false
	}
	p.at++
	return true
}

func (p *parser) expect(sign byte) error {
	if !p.take(sign) {
		return p.wrong()
	}
	return nil
}

func (p *parser) letter() (types.Letter, error) {
	letter := types.Letter{Spot: p.spot(), Byte: p.peek()}
	if letter.Byte < 'a' || letter.Byte > 'z' {
		return types.Letter{}, p.wrong()
	}
	p.at++
	return letter, nil
}

func isName(b byte) bool { return b >= 'A' && b <= 'F' }
