package measure

import "strobe/api"

// maxDigits is the greatest number of digits of a constant in a source.
const maxDigits = 9

// ParseExpr returns the nodes of a source string, or the offset of a syntax error.
func ParseExpr(src string) ([]Node, int, api.Errno) {
	if len(src) > api.MaxText {
		return nil, 0, api.ErrLong
	}
	p := &parser{source: src}
	if !p.expression() || p.at < len(src) {
		return nil, p.at, api.ErrSyntax
	}
	if len(p.nodes) > MaxNodes {
		return nil, 0, api.ErrMany
	}
	return p.nodes, 0, api.OK
}

// parser reads an expression from a source. Its methods report whether the source has what they read;
// if not, the parser stays at the first byte that deviates.
type parser struct {
	source string
	at     int
	nodes  []Node
}

// next returns the next byte, or 0, which no source may have, at the end.
func (p *parser) next() byte {
	if p.at == len(p.source) {
		return 0
	}
	return p.source[p.at]
}

// expect reads a certain text.
func (p *parser) expect(text string) bool {
	for _, wanted := range []byte(text) {
		if p.next() != wanted {
			return false
		}
		p.at++
	}
	return true
}

// add adds a node that has been read.
func (p *parser) add(n Node) bool {
	p.nodes = append(p.nodes, n)
	return true
}

// expression reads terms with signs between them.
func (p *parser) expression() bool {
	return p.operations(map[byte]string{'+': opPlus, '-': opMinus}, p.term)
}

// term reads factors with signs between them.
func (p *parser) term() bool {
	return p.operations(map[byte]string{'*': opTimes, '/': opOver}, p.factor)
}

// operations reads operands with signs between them. Each sign has an operator, whose node follows its two operands.
func (p *parser) operations(signs map[byte]string, operand func() bool) bool {
	isRead := operand()
	for isRead {
		op, isSign := signs[p.next()]
		if !isSign {
			return true
		}
		p.at++
		isRead = operand() && p.add(Node{Op: op})
	}
	return false
}

// factor reads what signs stand before or between.
func (p *parser) factor() bool {
	switch p.next() {
	case '-':
		return p.expect("-") && p.factor() && p.add(Node{Op: opNegative})
	case '(':
		return p.inParentheses()
	case 'a':
		return p.function(opMagnitude)
	case 'd':
		return p.function(opDifference)
	case 's':
		return p.function(opSum)
	case 'c':
		return p.channel()
	}
	return p.constant()
}

// inParentheses reads an expression in parentheses.
func (p *parser) inParentheses() bool {
	return p.expect("(") && p.expression() && p.expect(")")
}

// function reads a function, whose name is that of its operator.
func (p *parser) function(op string) bool {
	return p.expect(op) && p.inParentheses() && p.add(Node{Op: op})
}

// channel reads a channel.
func (p *parser) channel() bool {
	if !p.expect("c") || p.next() < '1' || p.next() >= '1'+api.MaxChannels {
		return false
	}
	index := int(p.next() - '1')
	p.at++
	return p.add(Node{Op: opChannel, Channel: index})
}

// constant reads a constant.
func (p *parser) constant() bool {
	begin := p.at
	// No digit may follow a leading zero.
	for isDigit(p.next()) && p.at < begin+maxDigits && p.source[begin:p.at] != "0" {
		p.at++
	}
	return p.at > begin && p.add(Node{Op: opConstant, Value: api.Rat(p.source[begin:p.at])})
}

func isDigit(b byte) bool {
	return b >= '0' && b <= '9'
}
