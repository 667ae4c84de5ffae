package number_test

import (
	"math/big"
	"testing"

	"strobe/api"
	"strobe/number"
)

// referenceSpan returns the error of a span by its definition.
func referenceSpan(s api.Span) api.Errno {
	if e := firstError(referenceCheck(s.Low), referenceCheck(s.High)); e != api.OK {
		return e
	}
	if value(s.Low).Cmp(value(s.High)) > 0 {
		return api.ErrOrder
	}
	return api.OK
}

// P1.2: the error of a span.
func TestCheckSpan(t *testing.T) {
	large := api.Rat(nines(601))
	for _, row := range []struct {
		s api.Span
		e api.Errno
	}{
		{span("1", "2"), api.OK}, {span("2", "2"), api.OK}, {span("-1/2", "-1/3"), api.OK}, {span("-1", "0"), api.OK},
		{span("2", "1"), api.ErrOrder}, {span("-1/3", "-1/2"), api.ErrOrder}, {span("1/2", "1/3"), api.ErrOrder}, {span("0", "-1"), api.ErrOrder},
		{span("", "1"), api.ErrForm}, {span("1", ""), api.ErrForm}, {span("", ""), api.ErrForm}, {span(large, "x"), api.ErrLarge}, {span("x", large), api.ErrForm}, {span("5", large), api.ErrLarge}, {span(large, "1"), api.ErrLarge},
	} {
		expect(t, "CheckSpan", 0, number.CheckSpan(row.s), 0, row.e)
	}
}

// spanOperation is a function of two spans, and the operation on their members.
type spanOperation struct {
	name      string
	got       func(a, b api.Span) (api.Span, api.Errno)
	reference func(x, y *big.Rat) *big.Rat
}

func spanOperations() []spanOperation {
	o := operations()
	return []spanOperation{
		{"Plus", number.Plus, o[0].reference},
		{"Minus", number.Minus, o[1].reference},
		{"Times", number.Times, o[2].reference},
		{"Over", number.Over, o[3].reference},
	}
}

// referenceErrors returns the first error of two spans, and that of a division by the second one.
func referenceErrors(name string, a, b api.Span) api.Errno {
	e := firstError(referenceSpan(a), referenceSpan(b))
	if e == api.OK && name == "Over" && contains(b, new(big.Rat)) {
		return api.ErrZero
	}
	return e
}

// compareSpanOperations compares all operations on two spans with the least and the greatest result at their ends.
func compareSpanOperations(t *testing.T, a, b api.Span) {
	t.Helper()
	for _, o := range spanOperations() {
		wanted, wantedError := api.Span{}, referenceErrors(o.name, a, b)
		if wantedError == api.OK {
			wanted, wantedError = hull(o, a, b)
		}
		got, gotError := o.got(a, b)
		what := o.name + " " + brief(string(a.Low)) + " " + brief(string(a.High)) + " " + brief(string(b.Low)) + " " + brief(string(b.High))
		expect(t, what, got, gotError, wanted, wantedError)
	}
}

// hull returns the span of the results of an operation at the ends of two spans.
func hull(o spanOperation, a, b api.Span) (api.Span, api.Errno) {
	var low, high *big.Rat
	for _, x := range []api.Rat{a.Low, a.High} {
		for _, y := range []api.Rat{b.Low, b.High} {
			z := o.reference(value(x), value(y))
			if low == nil || z.Cmp(low) < 0 {
				low = z
			}
			if high == nil || z.Cmp(high) > 0 {
				high = z
			}
		}
	}
	lowText, lowError := text(low)
	highText, highError := text(high)
	if e := firstError(lowError, highError); e != api.OK {
		return api.Span{}, e
	}
	return span(lowText, highText), api.OK
}

// P1.2: operations, on all pairs of some spans.
func TestSpanOperations(t *testing.T) {
	ends := []api.Rat{"-7/2", "-1", "-1/3", "0", "1/3", "1", "5"}
	var l []api.Span
	for i, low := range ends {
		for _, high := range ends[i:] {
			l = append(l, span(low, high))
		}
	}
	huge, tiny := api.Rat(power(599)), api.Rat("1/"+power(599))
	l = append(l, span("0", huge), span(tiny, huge), span("-"+huge, "-"+tiny), span(tiny, tiny), span("2", "1"), span("x", "1"), span("1", api.Rat(nines(601))), span("", ""))
	for _, a := range l {
		for _, b := range l {
			compareSpanOperations(t, a, b)
		}
	}
	r := source(5)
	for range 1000 {
		compareSpanOperations(t, randomSpan(r, 150), randomSpan(r, 150))
	}
}

// P1.2: examples of operations, without the reference.
func TestSpanExamples(t *testing.T) {
	for _, row := range []struct {
		name string
		a, b api.Span
		want api.Span
		e    api.Errno
	}{
		{"Plus", span("-1", "2"), span("-3", "4"), span("-4", "6"), api.OK},
		{"Minus", span("-1", "2"), span("-3", "4"), span("-5", "5"), api.OK},
		{"Times", span("-1", "2"), span("-3", "4"), span("-6", "8"), api.OK},
		{"Times", span("-2", "-1"), span("3", "4"), span("-8", "-3"), api.OK},
		{"Over", span("1", "2"), span("4", "8"), span("1/8", "1/2"), api.OK},
		{"Over", span("-1", "2"), span("-8", "-4"), span("-1/2", "1/4"), api.OK},
		{"Over", span("0", "0"), span("1", "2"), span("0", "0"), api.OK},
		{"Over", span("1", "2"), span("0", "8"), api.Span{}, api.ErrZero},
		{"Over", span("1", "2"), span("-8", "0"), api.Span{}, api.ErrZero},
		{"Over", span("1", "2"), span("-1", "1"), api.Span{}, api.ErrZero},
		{"Over", span("0", "0"), span("0", "0"), api.Span{}, api.ErrZero},
		{"Over", span("2", "1"), span("0", "0"), api.Span{}, api.ErrOrder},
		{"Over", span("1", "2"), span("1", "0"), api.Span{}, api.ErrOrder},
		{"Plus", span("2", "1"), span("x", "1"), api.Span{}, api.ErrOrder},
		{"Plus", span("1", "2"), span("x", "1"), api.Span{}, api.ErrForm},
		{"Plus", span("0", api.Rat(nines(600))), span("0", "1"), api.Span{}, api.ErrLarge},
		{"Plus", span("-"+api.Rat(nines(600)), "0"), span("-1", "0"), api.Span{}, api.ErrLarge},
		{"Minus", span("0", api.Rat(nines(600))), span("1", "1"), span("-1", api.Rat(nines(599)+"8")), api.OK},
	} {
		for _, o := range spanOperations() {
			if o.name == row.name {
				s, e := o.got(row.a, row.b)
				expect(t, row.name, s, e, row.want, row.e)
			}
		}
	}
}

// P1.2: products of numbers that have too many digits only on the way.
func TestSpanIntermediateNumbers(t *testing.T) {
	a, b := span("0", api.Rat(power(599))), span("1/"+api.Rat(power(599)), "1/"+api.Rat(power(599)))
	s, e := number.Times(a, b)
	expect(t, "Times", s, e, span("0", "1"), api.OK)
	// The product of both upper ends has too many digits, but it is no end of the result.
	low := api.Rat("-" + nines(600))
	s, e = number.Times(span("-1", "1/"+api.Rat(power(300))), span(low, "1/"+api.Rat(power(300))))
	inner, _ := new(big.Rat).SetString("-" + nines(600) + "/" + power(300))
	wanted, _ := text(inner)
	expect(t, "Times", s, e, span(wanted, api.Rat(nines(600))), api.OK)
}

// P1.2: comparisons of spans.
func TestCompare(t *testing.T) {
	for _, row := range []struct {
		a, b api.Span
		n    int
		e    api.Errno
	}{
		{span("1", "2"), span("3", "4"), -1, api.OK}, {span("3", "4"), span("1", "2"), 1, api.OK}, {span("1", "1"), span("2", "2"), -1, api.OK}, {span("-1/2", "-1/2"), span("-2/3", "-2/3"), 1, api.OK},
		{span("2", "2"), span("2", "2"), 0, api.OK}, {span("0", "0"), span("0", "0"), 0, api.OK}, {span("-7/3", "-7/3"), span("-7/3", "-7/3"), 0, api.OK},
		{span("1", "2"), span("2", "3"), 0, api.ErrOpen}, {span("2", "3"), span("1", "2"), 0, api.ErrOpen}, {span("1", "2"), span("1", "2"), 0, api.ErrOpen}, {span("1", "4"), span("2", "3"), 0, api.ErrOpen}, {span("2", "2"), span("1", "3"), 0, api.ErrOpen}, {span("1", "2"), span("2", "2"), 0, api.ErrOpen}, {span("1", "1"), span("1", "2"), 0, api.ErrOpen},
		{span("2", "1"), span("x", "1"), 0, api.ErrOrder}, {span("1", "2"), span("x", "1"), 0, api.ErrForm}, {span("1", "2"), span("2", "1"), 0, api.ErrOrder}, {span("1", api.Rat(nines(601))), span("2", "1"), 0, api.ErrLarge},
	} {
		n, e := number.Compare(row.a, row.b)
		expect(t, "Compare "+string(row.a.Low)+" "+string(row.b.Low), n, e, row.n, row.e)
	}
}

// P1.2: roots.
func TestRoot(t *testing.T) {
	for _, row := range []struct {
		a    api.Rat
		want api.Span
		e    api.Errno
	}{
		{"0", span("0", "0"), api.OK}, {"1", span("1", "1"), api.OK}, {"9/16", span("3/4", "3/4"), api.OK}, {"1/4", span("1/2", "1/2"), api.OK}, {"144", span("12", "12"), api.OK},
		{"2", span("707/500", "283/200"), api.OK}, {"1/2", span("707/1000", "177/250"), api.OK}, {"3/4", span("433/500", "867/1000"), api.OK}, {"4/3", span("577/500", "231/200"), api.OK}, {"9/2", span("2121/1000", "1061/500"), api.OK}, {"2/9", span("471/1000", "59/125"), api.OK},
		{"1/1000001", span("0", "1/1000"), api.OK}, {"1/1000000", span("1/1000", "1/1000"), api.OK}, {"1/999999", span("1/1000", "1/500"), api.OK}, {"1000001/1000000", span("1", "1001/1000"), api.OK}, {"999999/1000000", span("999/1000", "1"), api.OK},
		{"-1", api.Span{}, api.ErrRange}, {"-1/4", api.Span{}, api.ErrRange}, {"", api.Span{}, api.ErrForm}, {"-0", api.Span{}, api.ErrForm}, {"-4/6", api.Span{}, api.ErrForm}, {api.Rat("-" + nines(601)), api.Span{}, api.ErrLarge},
		{api.Rat(power(598)), span(api.Rat(power(299)), api.Rat(power(299))), api.OK}, {api.Rat("1/" + power(598)), span("1/"+api.Rat(power(299)), "1/"+api.Rat(power(299))), api.OK}, {api.Rat("1/" + power(599)), span("0", "1/1000"), api.OK},
	} {
		s, e := number.Root(row.a)
		expect(t, "Root "+string(row.a), s, e, row.want, row.e)
	}
}

func TestRootByDefinition(t *testing.T) {
	r := source(6)
	thousandths := big.NewRat(1, 1000)
	for i := range 2000 {
		x := randomRat(r, []int{8, 64, 130, 1990}[i%4])
		x.Abs(x)
		a := api.Rat(x.RatString())
		s := mustSpan(t, "Root "+string(a), first(number.Root(a)), second(number.Root(a)))
		low, high := value(s.Low), value(s.High)
		if s.Low == s.High {
			if new(big.Rat).Mul(low, low).Cmp(x) != 0 {
				t.Errorf("Root %s: %s is not the root", brief(string(a)), brief(string(s.Low)))
			}
			continue
		}
		isMultiple := new(big.Rat).Quo(low, thousandths).IsInt()
		isNext := new(big.Rat).Sub(high, low).Cmp(thousandths) == 0
		if !isMultiple || !isNext || new(big.Rat).Mul(low, low).Cmp(x) > 0 || new(big.Rat).Mul(high, high).Cmp(x) <= 0 {
			t.Errorf("Root %s: got %v", brief(string(a)), s)
		}
		if isSquare(x.Num()) && isSquare(x.Denom()) {
			t.Errorf("Root %s is rational", brief(string(a)))
		}
	}
	for range 500 {
		x := randomRat(r, 900)
		square, root := api.Rat(new(big.Rat).Mul(x, x).RatString()), api.Rat(new(big.Rat).Abs(x).RatString())
		s, e := number.Root(square)
		expect(t, "Root "+string(square), s, e, span(root, root), api.OK)
	}
}

// isSquare reports whether an integer is the square of an integer.
func isSquare(n *big.Int) bool {
	root := new(big.Int).Sqrt(n)
	return root.Mul(root, root).Cmp(n) == 0
}

// first and second return one of two results.
func first[T, U any](a T, _ U) T  { return a }
func second[T, U any](_ T, b U) U { return b }
