package trigger

import "strobe/api"

// Parse returns the program with a source, or the byte offset of the first error.
func Parse(s string) (Program, int, api.Errno) {
	if len(s) > api.MaxText {
		return Program{}, 0, api.ErrLong
	}
	p := &parser{end: len(s)}
	for at, text := range tokensOf(s) {
		p.rest = append(p.rest, token{at, text})
	}
	program := p.program()
	if p.isRefused {
		return Program{}, p.refusedAt, api.ErrSyntax
	}
	if e := CheckProgram(program); e != api.OK {
		return Program{}, 0, e
	}
	return program, 0, api.OK
}

// token is a token of a source, and its byte offset. The token at the end of the source has no text.
type token struct {
	at   int
	text string
}

// parser reads a program from the tokens that are left. After the first token that is refused there are none.
type parser struct {
	rest      []token
	end       int
	isRefused bool
	refusedAt int
}

// next takes the next token.
func (p *parser) next() token {
	if len(p.rest) == 0 {
		return token{at: p.end}
	}
	t := p.rest[0]
	p.rest = p.rest[1:]
	return t
}

// refuse makes a token the error of the source, unless there was one before.
func (p *parser) refuse(t token) {
	if !p.isRefused {
		p.isRefused, p.refusedAt = true, t.at
	}
	p.rest = nil
}

// required returns the value of the next token, which is refused if it has none.
func required[T any](next func() token, refuse func(token), value func(string) (T, bool)) T {
	t := next()
	v, ok := value(t.text)
	if !ok {
		refuse(t)
	}
	return v
}

// number reads a number.
func (p *parser) number() int {
	return required(p.next, p.refuse, numberOf)
}

// expect reads a certain token.
func (p *parser) expect(text string) {
	if t := p.next(); t.text != text {
		p.refuse(t)
	}
}

// accept reads a certain token if it is the next one, and reports whether it is.
func (p *parser) accept(text string) bool {
	if len(p.rest) == 0 || p.rest[0].text != text {
		return false
	}
	p.next()
	return true
}

// program reads a program.
func (p *parser) program() Program {
	p.expect("lines")
	program := Program{Lines: p.number()}
	p.expect(";")
	for len(p.rest) > 0 {
		program.Steps = append(program.Steps, p.step())
	}
	return program
}

// step reads a step.
func (p *parser) step() Step {
	s := Step{Cond: p.cond(), Times: 1}
	if p.accept("times") {
		s.Times = p.number()
	}
	if p.accept("within") {
		s.Within = p.number()
	}
	p.expect(";")
	return s
}

// cond reads a condition.
func (p *parser) cond() Cond {
	t := p.next()
	k, isKind := kinds()[t.text]
	if !isKind {
		p.refuse(t)
		return Cond{}
	}
	c := Cond{Kind: t.text}
	for _, field := range k.fields {
		switch field {
		case fieldPattern:
			c.Pattern = required(p.next, p.refuse, wordOf)
		case fieldElement, fieldElements:
			c.Kids = p.elements(field)
		default:
			*c.number(field) = p.number()
		}
	}
	return c
}

// elements reads the elements of a condition.
func (p *parser) elements(field rune) []Cond {
	p.expect("(")
	elements := []Cond{p.cond()}
	for field == fieldElements && p.accept(",") {
		elements = append(elements, p.cond())
	}
	p.expect(")")
	return elements
}
