package measure_test

import (
	"math/rand"
	"strings"
	"testing"

	"strobe/api"
	"strobe/measure"
)

// permitted returns what the syntax puts in the place of a symbol before a byte: an expression E and its further terms M,
// a term T and its further factors N, a factor F, the number D of a channel, and a further digit X.
func permitted(symbol, next byte) (string, bool) {
	switch symbol {
	case 'E':
		return "TM", true
	case 'T':
		return "FN", true
	case 'M':
		if next == '+' || next == '-' {
			return string(next) + "TM", true
		}
		return "", true
	case 'N':
		if next == '*' || next == '/' {
			return string(next) + "FN", true
		}
		return "", true
	case 'X':
		if next >= '0' && next <= '9' {
			return string(next), true
		}
		return "", true
	case 'D':
		return string(next), next >= '1' && next <= '8'
	case 'F':
		if next >= '1' && next <= '9' {
			return string(next) + "XXXXXXXX", true
		}
		more := map[byte]string{'-': "-F", '(': "(E)", 'a': "abs(E)", 'd': "diff(E)", 's': "sum(E)", 'c': "cD", '0': "0"}[next]
		return more, more != ""
	}
	return "", false
}

// syntaxError returns the offset of the first error of a source, or -1: it reads the bytes with a stack of what has to follow.
func syntaxError(source string) int {
	stack := "E"
	for at := range len(source) + 1 {
		next := byte(0)
		if at < len(source) {
			next = source[at]
		}
		for stack == "" || stack[0] != next {
			if stack == "" {
				if at == len(source) {
					return -1
				}
				return at
			}
			more, ok := permitted(stack[0], next)
			if !ok {
				return at
			}
			stack = more + stack[1:]
		}
		stack = stack[1:]
	}
	return len(source)
}

// lastSign returns where the last one of some signs stands between two operands outside of parentheses, or -1.
func lastSign(source, signs string) int {
	last, depth := -1, 0
	for i := range len(source) {
		switch {
		case source[i] == '(':
			depth++
		case source[i] == ')':
			depth--
		case depth == 0 && i > 0 && strings.IndexByte(signs, source[i]) >= 0 && strings.IndexByte("+-*/", source[i-1]) < 0:
			last = i
		}
	}
	return last
}

// treeOf returns the expression with a correct source: it divides the source at the operator that is applied last.
func treeOf(source string) tree {
	at := lastSign(source, "+-")
	if at < 0 {
		at = lastSign(source, "*/")
	}
	if at >= 0 {
		op := map[byte]string{'+': "add", '-': "sub", '*': "mul", '/': "div"}[source[at]]
		return apply(op, treeOf(source[:at]), treeOf(source[at+1:]))
	}
	end := len(source) - 1
	switch source[0] {
	case '-':
		return apply("neg", treeOf(source[1:]))
	case '(':
		return treeOf(source[1:end])
	case 'c':
		return channel(int(source[1] - '1'))
	case 'a', 's', 'd':
		name, _, _ := strings.Cut(source, "(")
		return apply(name, treeOf(source[len(name)+1:end]))
	}
	return constant(api.Rat(source))
}

// checkParse compares the nodes, the offset and the error of a source with the syntax.
func checkParse(t *testing.T, source string) api.Errno {
	t.Helper()
	var wanted []measure.Node
	wantedError := api.OK
	offset := syntaxError(source)
	if offset >= 0 {
		wantedError = api.ErrSyntax
	} else {
		offset, wanted = 0, treeOf(source).nodes()
	}
	if len(wanted) > 64 {
		wanted, wantedError = nil, api.ErrMany
	}
	got, at, e := measure.ParseExpr(source)
	sameList(t, "ParseExpr "+source, got, e, wanted, wantedError)
	same(t, "the offset of "+source, at, e, offset, e)
	return e
}

// P6.5: sources with an error, and where it is.
func TestSyntaxErrors(t *testing.T) {
	for _, row := range []struct {
		source string
		at     int
	}{
		{"", 0}, {" ", 0}, {"\x00", 0}, {"\xff", 0}, {"é", 0}, {"x", 0}, {"C1", 0}, {"+", 0}, {"*", 0}, {"/", 0}, {")", 0}, {"-", 1}, {"--", 2}, {"(", 1}, {"()", 1}, {"((", 2}, {"(1", 2}, {"(1))", 3}, {"1)", 1},
		{"c", 1}, {"c0", 1}, {"c9", 1}, {"c01", 1}, {"c10", 2}, {"c1c2", 2}, {"c-1", 1}, {"c(1)", 1}, {"ch1", 1}, {"c1 ", 2}, {"c1\n", 2}, {"c1\x00", 2}, {"c1+", 3}, {"c1+\x00", 3}, {"c1 + c2", 2}, {"c1++c2", 3}, {"c1+*c2", 3}, {"c1*", 3}, {"c1/+c2", 3}, {"c1**c2", 3}, {"c1+)", 3},
		{"00", 1}, {"01", 1}, {"0.5", 1}, {"1.5", 1}, {"1e5", 1}, {"0x1", 1}, {"1_0", 1}, {"1234567890", 9}, {"1000000000+", 9}, {"c1*1234567890", 12}, {"1c1", 1}, {"1(2)", 1}, {"(1)2", 3}, {"(1)(2)", 3},
		{"a", 1}, {"ab", 2}, {"abs", 3}, {"abs(", 4}, {"abs()", 4}, {"abs(1", 5}, {"abs1", 3}, {"abs 1", 3}, {"abc(1)", 2}, {"abs((1)", 7}, {"abs(1)1", 6}, {"absc1", 3}, {"Abs(1)", 0}, {"add(1,2)", 1},
		{"d", 1}, {"di", 2}, {"dif(1)", 3}, {"diff", 4}, {"diff(1,2)", 6}, {"div(1)", 2}, {"s", 1}, {"su", 2}, {"sun(1)", 2}, {"sub(1)", 2}, {"sum[1]", 3}, {"summ(1)", 3}, {"neg(1)", 0}, {"num", 0}, {"mul", 0},
		{"\xffc1", 0}, {"c1+\xc3\xa9", 3}, {"c\xb1", 1}, {"c1+\u00b2", 3}, {"١", 0},
	} {
		got, at, e := measure.ParseExpr(row.source)
		sameList(t, "ParseExpr "+row.source, got, e, nil, api.ErrSyntax)
		same(t, "the offset of "+row.source, at, 0, row.at, 0)
		same(t, "the reference of "+row.source, syntaxError(row.source), 0, row.at, 0)
	}
}

// P6.5: operators of the same level associate to the left, and others by their level.
func TestParseExpr(t *testing.T) {
	for source, canonical := range map[string]string{
		"c1": "c1", "c8": "c8", "0": "0", "10": "10", "999999999": "999999999", "c1-c2-c3": "((c1-c2)-c3)", "c1-c2+c3": "((c1-c2)+c3)", "c1/c2/c3": "((c1/c2)/c3)", "c1/c2*c3": "((c1/c2)*c3)", "c1+c2*c3": "(c1+(c2*c3))", "c1*c2+c3": "((c1*c2)+c3)", "c1-(c2-c3)": "(c1-(c2-c3))", "(c1+c2)*c3": "((c1+c2)*c3)",
		"-c1": "(-c1)", "--c1": "(-(-c1))", "-c1*c2": "((-c1)*c2)", "-c1+c2": "((-c1)+c2)", "c1*-c2": "(c1*(-c2))", "c1--c2": "(c1-(-c2))", "c1+-c2": "(c1+(-c2))", "-(c1+c2)": "(-(c1+c2))", "c1/--c2*c3": "((c1/(-(-c2)))*c3)",
		"((c1))": "c1", "abs(c1)": "abs(c1)", "diff((c1))": "diff(c1)", "sum(c1+c2)": "sum((c1+c2))", "-abs(-c1)": "(-abs((-c1)))", "sum(c1)*2": "(sum(c1)*2)", "abs(sum(diff(1)))": "abs(sum(diff(1)))", "1/2": "(1/2)", "0-7": "(0-7)",
	} {
		nodes, at, e := measure.ParseExpr(source)
		same(t, "the offset", at, e, 0, api.OK)
		got, e := measure.PrintExpr(nodes)
		same(t, "PrintExpr "+source, got, e, canonical, api.OK)
		checkParse(t, source)
	}
}

// P6.5: the longest sources, and those of the most nodes.
func TestParseLimits(t *testing.T) {
	repeated := strings.Repeat
	for source, wanted := range map[string]api.Errno{
		repeated("-", 63) + "1": api.OK, repeated("-", 64) + "1": api.ErrMany, repeated("c1+", 31) + "-c1": api.OK, repeated("c1+", 32) + "c1": api.ErrMany, repeated("c1*", 1365) + "1": api.ErrMany, repeated("-", 4095) + "1": api.ErrMany,
		repeated("(", 2047) + "c1" + repeated(")", 2047): api.OK, repeated("-", 4096): api.ErrSyntax, repeated("(", 4096): api.ErrSyntax, repeated("abs(", 1024): api.ErrSyntax, repeated("c1+", 1000) + "c9": api.ErrSyntax, repeated("1", 4096): api.ErrSyntax,
	} {
		same(t, "the error", 0, checkParse(t, source), 0, wanted)
	}
	for _, source := range []string{repeated("-", 4096) + "1", repeated("(", 2048) + "1" + repeated(")", 2048), repeated("$", 4097), repeated(" ", 100000)} {
		got, at, e := measure.ParseExpr(source)
		sameList(t, "ParseExpr", got, e, nil, api.ErrLong)
		same(t, "the offset", at, 0, 0, 0)
	}
}

// changed returns a source in which some bytes are left out, repeated or replaced.
func changed(r *rand.Rand, source string) string {
	words := []string{"c1", "c", "c9", "0", "00", "7", "1234567890", "+", "-", "*", "/", "(", ")", "abs", "diff(", "sum(c1)", "s", " ", "\x00", "é", "\xff", ""}
	for range r.Intn(3) {
		from := r.Intn(len(source) + 1)
		to := min(from+r.Intn(4), len(source))
		source = source[:from] + words[r.Intn(len(words))] + source[to:]
	}
	return source
}

// P6.5: random sources, and changed ones.
func TestParseBySyntax(t *testing.T) {
	r := source(44)
	errors := map[api.Errno]int{}
	for range 20000 {
		x := randomTree(r, r.Intn(6), naturals)
		source := x.written(r, 0)
		if len(x.nodes()) <= 64 {
			got, at, e := measure.ParseExpr(source)
			sameList(t, "ParseExpr "+source, got, e, x.nodes(), api.OK)
			same(t, "the offset", at, 0, 0, 0)
		}
		errors[checkParse(t, changed(r, source))]++
	}
	if min(errors[api.OK], errors[api.ErrSyntax]) < 1000 {
		t.Errorf("the sources decide nothing: %v", errors)
	}
}
