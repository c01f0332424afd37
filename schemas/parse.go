package schemas

import "kin/types"

const maxDefs = 6

// parser reads by the grammar, byte by byte from the left: where it stops
// with an error, it stands at the first byte that cannot be there.
type parser struct {
	text string
	at   int
}

func (p *parser) schema() (types.Schema, error) {
	var s types.Schema
	for len(s.Defs) < maxDefs && p.atDef() {
		def, err := p.def()
		if err != nil {
			return types.Schema{}, err
		}
		s.Defs = append(s.Defs, def)
	}
	root, err := p.typ()
	if err != nil {
		return types.Schema{}, err
	}
	if p.at < len(p.text) {
		return types.Schema{}, p.wrong()
	}
	s.Root = root
	return s, nil
}

// atDef looks two bytes ahead, since the schema's type may begin with a name
// too.
func (p *parser) atDef() bool {
	return isName(p.peek()) && p.at+1 < len(p.text) && p.text[p.at+1] == '='
}

func (p *parser) def() (types.Def, error) {
	def := types.Def{Spot: p.spot(), Letter: p.peek()}
	p.at += len("A=")
	body, err := p.body()
	if err != nil {
		return types.Def{}, err
	}
	def.Body = body
	return def, p.expect(';')
}

func (p *parser) body() (types.Type, error) {
	spot := p.spot()
	switch {
	case p.take('r'):
		return p.record(spot)
	case p.take('e'):
		return p.enum(spot)
	case p.take('f'):
		return p.bytes(spot)
	}
	return nil, p.wrong()
}

func (p *parser) record(spot types.Spot) (types.Type, error) {
	if err := p.expect('('); err != nil {
		return nil, err
	}
	record := types.Record{Spot: spot}
	if p.take(')') {
		return record, nil
	}
	for {
		field, err := p.field()
		if err != nil {
			return nil, err
		}
		record.Fields = append(record.Fields, field)
		if !p.take(',') {
			return record, p.expect(')')
		}
	}
}

func (p *parser) field() (types.Field, error) {
	letter, err := p.letter()
	if err != nil {
		return types.Field{}, err
	}
	if err := p.expect(':'); err != nil {
		return types.Field{}, err
	}
	t, err := p.typ()
	if err != nil {
		return types.Field{}, err
	}
	field := types.Field{Letter: letter, Type: t}
	if p.take('=') {
		field.Default = p.defaultText()
	}
	return field, nil
}

// defaultText takes a default by its brackets alone: whether it is a datum
// is asked only when all else of the schema is known to be right.
func (p *parser) defaultText() *types.Default {
	spot := p.spot()
	open := 0
	for ; p.at < len(p.text); p.at++ {
		b := p.text[p.at]
		if open == 0 && (b == ',' || b == ')') {
			break
		}
		switch b {
		case '(', '[', '{', '<':
			open++
		case ')', ']', '}', '>':
			open = max(open-1, 0)
		}
	}
	return &types.Default{Spot: spot, Text: p.text[spot:p.at]}
}

func (p *parser) enum(spot types.Spot) (types.Type, error) {
	if err := p.expect('('); err != nil {
		return nil, err
	}
	enum := types.Enum{Spot: spot}
	for {
		symbol, err := p.letter()
		if err != nil {
			return nil, err
		}
		enum.Symbols = append(enum.Symbols, symbol)
		if !p.take(',') {
			break
		}
	}
	if p.take('!') {
		symbol, err := p.letter()
		if err != nil {
			return nil, err
		}
		enum.Unknown = &symbol
	}
	return enum, p.expect(')')
}

func (p *parser) bytes(spot types.Spot) (types.Type, error) {
	digit := p.peek()
	if digit < '0' || digit > '9' {
		return nil, p.wrong()
	}
	p.at++
	return types.Bytes{Spot: spot, Size: int(digit - '0')}, nil
}

func (p *parser) typ() (types.Type, error) {
	spot, sign := p.spot(), p.peek()
	switch {
	case p.take('n'):
		return types.Nothing{Spot: spot}, nil
	case p.take('t'):
		return types.Truth{Spot: spot}, nil
	case p.take('i'):
		return types.Int{Spot: spot}, nil
	case p.take('l'):
		return types.Long{Spot: spot}, nil
	case p.take('s'):
		return types.Text{Spot: spot}, nil
	case p.take('['):
		item, err := p.item(']')
		return types.List{Spot: spot, Item: item}, err
	case p.take('{'):
		item, err := p.item('}')
		return types.Map{Spot: spot, Item: item}, err
	case p.take('('):
		return p.union(spot)
	case isName(sign):
		p.at++
		return types.Name{Spot: spot, Letter: sign}, nil
	}
	return nil, p.wrong()
}

func (p *parser) item(closing byte) (types.Type, error) {
	t, err := p.typ()
	if err != nil {
		return nil, err
	}
	return t, p.expect(closing)
}

func (p *parser) union(spot types.Spot) (types.Type, error) {
	union := types.Union{Spot: spot}
	for {
		branch, err := p.typ()
		if err != nil {
			return nil, err
		}
		union.Branches = append(union.Branches, branch)
		if !p.take(',') {
			return union, p.expect(')')
		}
	}
}
