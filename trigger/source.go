package trigger

import (
	"iter"
	"strconv"
	"strings"

	"strobe/api"
	"strobe/common"
)

// Print returns the source of a program.
func Print(p Program) (string, api.Errno) {
	if e := CheckProgram(p); e != api.OK {
		return "", e
	}
	tokens := []string{"lines", strconv.Itoa(p.Lines), ";"}
	for _, s := range p.Steps {
		tokens = append(tokens, s.tokens()...)
	}
	source := spaced(tokens)
	if len(source) > api.MaxText {
		return "", api.ErrLong
	}
	return source, api.OK
}

// tokens returns the tokens of a step.
func (s Step) tokens() []string {
	tokens := s.Cond.tokens()
	if s.Times != 1 {
		tokens = append(tokens, "times", strconv.Itoa(s.Times))
	}
	if s.Within != 0 {
		tokens = append(tokens, "within", strconv.Itoa(s.Within))
	}
	return append(tokens, ";")
}

// tokens returns the tokens of a condition.
func (c Cond) tokens() []string {
	tokens := []string{c.Kind}
	for _, field := range kinds()[c.Kind].fields {
		switch field {
		case fieldPattern:
			tokens = append(tokens, c.Pattern)
		case fieldElement, fieldElements:
			before := "("
			for _, element := range common.Transformed(c.Kids, Cond.tokens) {
				tokens = append(append(tokens, before), element...)
				before = ","
			}
			tokens = append(tokens, ")")
		default:
			tokens = append(tokens, strconv.Itoa(*c.number(field)))
		}
	}
	return tokens
}

// spaced returns tokens as one text, with the blanks of a printed source.
func spaced(tokens []string) string {
	var text strings.Builder
	before := "("
	for _, token := range tokens {
		if before != "(" && !strings.Contains("(),;", token) {
			text.WriteByte(' ')
		}
		text.WriteString(token)
		before = token
	}
	return text.String()
}

// tokensOf visits the tokens of a source and their byte offsets. A byte that cannot be part of a token is visited
// as if it were a token: the grammar permits it nowhere.
func tokensOf(source string) iter.Seq2[int, string] {
	return func(yield func(int, string) bool) {
		begin, isWord := 0, false
		for at, r := range source {
			if isOfWord(r) {
				if !isWord {
					begin, isWord = at, true
				}
				continue
			}
			if isWord && !yield(begin, source[begin:at]) {
				return
			}
			isWord = false
			if r != ' ' && r != '\n' && !yield(at, source[at:at+1]) {
				return
			}
		}
		if isWord {
			yield(begin, source[begin:])
		}
	}
}

// isOfWord reports whether words consist of a rune and others.
func isOfWord(r rune) bool {
	return r >= 'a' && r <= 'z' || r >= '0' && r <= '9'
}

// wordOf returns the word that a token is, and whether it is one.
func wordOf(text string) (string, bool) {
	return text, text != "" && isOfWord(rune(text[0]))
}

// numberOf returns the number that a token is, and whether it is one.
func numberOf(text string) (int, bool) {
	if len(text) > 9 || len(text) > 1 && text[0] == '0' {
		return 0, false
	}
	n, err := strconv.ParseUint(text, 10, 64)
	return int(n), err == nil
}
