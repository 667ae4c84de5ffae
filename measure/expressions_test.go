package measure_test

import (
	"math"
	"math/rand"
	"slices"
	"strings"
	"testing"

	"strobe/api"
	"strobe/measure"
)

// P6.5: the examples 6 of the chapter.
func TestExpressionExamples(t *testing.T) {
	nodes, at, e := measure.ParseExpr("c1-2*c2")
	wanted := []measure.Node{{Op: "ch"}, {Op: "num", Value: "2"}, {Op: "ch", Channel: 1}, {Op: "mul"}, {Op: "sub"}}
	sameList(t, "ParseExpr", nodes, e, wanted, api.OK)
	same(t, "the offset", at, 0, 0, 0)
	source, e := measure.PrintExpr(wanted)
	same(t, "PrintExpr", source, e, "(c1-(2*c2))", api.OK)
	u, e := measure.UnitOf(wanted, []measure.Unit{{Volts: 1}, {Volts: 1}})
	same(t, "UnitOf", u, e, measure.Unit{Volts: 1}, api.OK)
	l, e := measure.Evaluate(wanted, [][]float32{{1, 3}, {1, 0}})
	sameList(t, "Evaluate", l, e, []api.Rat{"-1", "3"}, api.OK)
	l, e = measure.Evaluate(apply("diff", channel(0)).nodes(), [][]float32{{1, 3}})
	sameList(t, "Evaluate", l, e, []api.Rat{"0", "2"}, api.OK)
	for source, offset := range map[string]int{"c1+": 3, "c9": 1} {
		nodes, at, e := measure.ParseExpr(source)
		sameList(t, "ParseExpr", nodes, e, nil, api.ErrSyntax)
		same(t, "the offset", at, 0, offset, 0)
	}
}

// badExpr is nodes with an error.
type badExpr struct {
	nodes []measure.Node
	e     api.Errno
}

// allOperators returns the operators with operands.
func allOperators() []string {
	return []string{"neg", "abs", "diff", "sum", "add", "sub", "mul", "div"}
}

// badExprs returns nodes with every error, each with other errors that come later.
func badExprs() []badExpr {
	good := measure.Node{Op: "ch"}
	l := []badExpr{{nil, api.ErrEmpty}, {[]measure.Node{}, api.ErrEmpty}, {slices.Repeat([]measure.Node{{Op: "x"}}, 65), api.ErrMany}, {slices.Repeat([]measure.Node{good}, 65), api.ErrMany}, {make([]measure.Node, 100000), api.ErrMany}}
	add := func(n measure.Node, e api.Errno) {
		l = append(l, badExpr{[]measure.Node{n}, e}, badExpr{[]measure.Node{n, {Op: "x"}}, e}, badExpr{[]measure.Node{good, good, n, {Op: "num"}}, e})
	}
	for _, op := range []string{"", "x", "NUM", "Ch", " neg", "add ", "+", "const", "num\x00", "\xff", strings.Repeat("neg", 100000)} {
		add(measure.Node{Op: op, Value: "x", Channel: 8}, api.ErrKind)
		add(measure.Node{Op: op}, api.ErrKind)
	}
	for _, bad := range badNumbers() {
		add(measure.Node{Op: "num", Value: bad.a, Channel: -1}, bad.e)
		add(measure.Node{Op: "num", Value: bad.a}, bad.e)
	}
	for _, index := range append(far(), 8) {
		add(measure.Node{Op: "num", Value: "1", Channel: index}, api.ErrRange)
		add(measure.Node{Op: "ch", Channel: index}, api.ErrRange)
		for _, op := range append(allOperators(), "ch") {
			add(measure.Node{Op: op, Value: "0", Channel: index}, api.ErrForm)
			add(measure.Node{Op: op, Value: "x"}, api.ErrForm)
		}
	}
	for _, op := range allOperators() {
		add(measure.Node{Op: op, Channel: 1}, api.ErrRange)
		l = append(l, badExpr{[]measure.Node{{Op: op}}, api.ErrShape}, badExpr{[]measure.Node{{Op: op}, good}, api.ErrShape}, badExpr{[]measure.Node{good, good, good, {Op: op}}, api.ErrShape})
	}
	add(measure.Node{Op: "num", Value: "1", Channel: 1}, api.ErrRange)
	for _, op := range []string{"add", "sub", "mul", "div"} {
		l = append(l, badExpr{[]measure.Node{good, {Op: op}}, api.ErrShape}, badExpr{[]measure.Node{good, {Op: op}, good, good}, api.ErrShape}, badExpr{[]measure.Node{good, {Op: "neg"}, {Op: op}}, api.ErrShape})
	}
	return append(l, badExpr{[]measure.Node{good, good}, api.ErrShape}, badExpr{slices.Repeat([]measure.Node{good}, 64), api.ErrShape}, badExpr{[]measure.Node{good, good, {Op: "neg"}}, api.ErrShape})
}

// P6.5: nodes with an error, also as an argument of each function.
func TestExpressionErrors(t *testing.T) {
	for _, bad := range badExprs() {
		same(t, "CheckExpr", 0, measure.CheckExpr(bad.nodes), 0, bad.e)
		source, e := measure.PrintExpr(bad.nodes)
		same(t, "PrintExpr", source, e, "", bad.e)
		u, e := measure.UnitOf(bad.nodes, make([]measure.Unit, 9))
		same(t, "UnitOf", u, e, measure.Unit{}, bad.e)
		l, e := measure.Evaluate(bad.nodes, make([][]float32, 9))
		sameList(t, "Evaluate", l, e, nil, bad.e)
	}
}

// operands returns the number of operands.
func operands(op string) int {
	return map[string]int{"neg": 1, "abs": 1, "diff": 1, "sum": 1, "add": 2, "sub": 2, "mul": 2, "div": 2}[op]
}

// isWellFormed reads nodes from the last one on: each of them is wanted, and wants its operands.
func isWellFormed(nodes []measure.Node) bool {
	wanted := 1
	for _, n := range slices.Backward(nodes) {
		if wanted == 0 {
			return false
		}
		wanted += operands(n.Op) - 1
	}
	return wanted == 0
}

// P6.5: nodes in all orders.
func TestWellFormed(t *testing.T) {
	r := source(40)
	found := 0
	for range 20000 {
		var nodes []measure.Node
		for range 1 + r.Intn(7) {
			nodes = append(nodes, measure.Node{Op: append(allOperators(), "ch", "ch", "ch", "ch", "ch")[r.Intn(13)]})
		}
		wanted := api.ErrShape
		if isWellFormed(nodes) {
			wanted = api.OK
			found++
		}
		same(t, "CheckExpr", 0, measure.CheckExpr(nodes), 0, wanted)
	}
	if found < 100 {
		t.Errorf("only %d expressions", found)
	}
	for range 1000 {
		if x := randomTree(r, 5, rationals).nodes(); len(x) <= 64 {
			same(t, "CheckExpr", 0, measure.CheckExpr(x), 0, api.OK)
		}
	}
}

// P6.5: canonical strings.
func TestPrintExpr(t *testing.T) {
	for _, row := range []struct {
		x      tree
		wanted string
	}{
		{constant("0"), "0"}, {constant("7"), "7"}, {constant("-7"), "(0-7)"}, {constant("3/2"), "(3/2)"}, {constant("-3/2"), "(0-3/2)"}, {constant(nines(600)), string(nines(600))}, {channel(0), "c1"}, {channel(7), "c8"},
		{apply("neg", constant("-1")), "(-(0-1))"}, {apply("neg", apply("neg", channel(1))), "(-(-c2))"}, {apply("abs", constant("1/2")), "abs((1/2))"}, {apply("diff", apply("sum", channel(2))), "diff(sum(c3))"},
		{apply("div", apply("add", channel(0), channel(1)), apply("sub", constant("1"), constant("2"))), "((c1+c2)/(1-2))"}, {apply("mul", apply("mul", channel(0), channel(0)), channel(0)), "((c1*c1)*c1)"},
	} {
		got, e := measure.PrintExpr(row.x.nodes())
		same(t, "PrintExpr", got, e, row.wanted, api.OK)
		same(t, "the reference", row.x.canonical(), 0, row.wanted, 0)
	}
	r := source(41)
	for range 2000 {
		x := randomTree(r, r.Intn(6), rationals)
		wanted, wantedError := x.canonical(), api.OK
		if len(wanted) > 4096 {
			wanted, wantedError = "", api.ErrLong
		}
		if len(x.nodes()) > 64 {
			wanted, wantedError = "", api.ErrMany
		}
		got, e := measure.PrintExpr(x.nodes())
		same(t, "PrintExpr", got, e, wanted, wantedError)
	}
}

// P6.5: the longest string.
func TestPrintExprLong(t *testing.T) {
	x := constant(nines(600))
	for range 5 {
		x = apply("add", x, constant(nines(600)))
	}
	for digits, wanted := range map[int]api.Errno{477: api.OK, 478: api.OK, 479: api.ErrLong, 600: api.ErrLong} {
		longer := apply("add", x, constant(nines(digits)))
		got, e := measure.PrintExpr(longer.nodes())
		if wanted != api.OK {
			same(t, "PrintExpr", got, e, "", wanted)
			continue
		}
		same(t, "PrintExpr", got, e, longer.canonical(), api.OK)
		same(t, "the length", len(got), 0, 3618+digits, 0)
	}
}

// P6.5: the units of each operator.
func TestUnitOfOperators(t *testing.T) {
	units := []measure.Unit{{Volts: 1}, {Volts: 1}, {Volts: 2, Seconds: -3}, {Seconds: 1}}
	a, b, c, d := channel(0), channel(1), channel(2), channel(3)
	for _, row := range []struct {
		x      tree
		wanted measure.Unit
		e      api.Errno
	}{
		{a, units[0], api.OK}, {c, units[2], api.OK}, {constant("5"), measure.Unit{}, api.OK}, {apply("neg", c), units[2], api.OK}, {apply("abs", c), units[2], api.OK},
		{apply("diff", c), measure.Unit{Volts: 2, Seconds: -4}, api.OK}, {apply("sum", c), measure.Unit{Volts: 2, Seconds: -2}, api.OK}, {apply("sum", apply("diff", c)), units[2], api.OK}, {apply("sum", constant("1")), units[3], api.OK},
		{apply("add", a, b), units[0], api.OK}, {apply("sub", a, b), units[0], api.OK}, {apply("mul", a, c), measure.Unit{Volts: 3, Seconds: -3}, api.OK}, {apply("div", a, c), measure.Unit{Volts: -1, Seconds: 3}, api.OK}, {apply("div", c, c), measure.Unit{}, api.OK},
		{apply("add", a, c), measure.Unit{}, api.ErrUnit}, {apply("sub", a, constant("0")), measure.Unit{}, api.ErrUnit}, {apply("add", a, apply("sum", b)), measure.Unit{}, api.ErrUnit}, {apply("add", d, apply("sum", constant("1"))), units[3], api.OK},
		{apply("add", constant("1"), apply("div", a, b)), measure.Unit{}, api.OK}, {channel(4), measure.Unit{}, api.ErrUnknown},
		{apply("mul", apply("add", a, c), channel(4)), measure.Unit{}, api.ErrUnit}, {apply("mul", channel(4), apply("add", a, c)), measure.Unit{}, api.ErrUnknown}, {apply("add", a, apply("mul", c, channel(7))), measure.Unit{}, api.ErrUnknown},
	} {
		got, e := measure.UnitOf(row.x.nodes(), units)
		same(t, "UnitOf "+row.x.canonical(), got, e, row.wanted, row.e)
	}
}

// P6.5: the units of random expressions.
func TestUnitOf(t *testing.T) {
	r := source(42)
	errors := map[api.Errno]int{}
	for range 5000 {
		x := randomTree(r, r.Intn(5), rationals)
		var units []measure.Unit
		for range r.Intn(9) {
			units = append(units, measure.Unit{Volts: r.Intn(2), Seconds: r.Intn(2)})
		}
		if len(x.nodes()) > 64 {
			continue
		}
		wanted, wantedError := x.unit(units)
		got, e := measure.UnitOf(x.nodes(), units)
		same(t, "UnitOf "+x.canonical(), got, e, wanted, wantedError)
		errors[e]++
	}
	if min(errors[api.OK], errors[api.ErrUnit], errors[api.ErrUnknown]) < 100 {
		t.Errorf("the expressions decide nothing: %v", errors)
	}
}

// P6.5: exponents of the result have no limit, those of channels have one.
func TestUnitErrors(t *testing.T) {
	x := channel(0)
	for range 31 {
		x = apply("mul", x, channel(0))
	}
	u, e := measure.UnitOf(x.nodes(), []measure.Unit{{Volts: 100, Seconds: -100}})
	same(t, "UnitOf", u, e, measure.Unit{Volts: 3200, Seconds: -3200}, api.OK)
	good := measure.Unit{Volts: -100, Seconds: 100}
	for _, bad := range []int{math.MinInt, -101, 101, math.MaxInt} {
		for _, unit := range []measure.Unit{{Volts: bad}, {Seconds: bad}, {Volts: bad, Seconds: bad}} {
			for _, units := range [][]measure.Unit{{unit}, {good, unit}, slices.Concat(make([]measure.Unit, 7), []measure.Unit{unit})} {
				u, e := measure.UnitOf(channel(7).nodes(), units)
				same(t, "UnitOf", u, e, measure.Unit{}, api.ErrRange)
			}
			u, e := measure.UnitOf(constant("1").nodes(), append(make([]measure.Unit, 8), unit))
			same(t, "UnitOf", u, e, measure.Unit{}, api.ErrMany)
		}
	}
	u, e = measure.UnitOf(channel(7).nodes(), slices.Repeat([]measure.Unit{good}, 8))
	same(t, "UnitOf", u, e, good, api.OK)
	u, e = measure.UnitOf(channel(0).nodes(), nil)
	same(t, "UnitOf", u, e, measure.Unit{}, api.ErrUnknown)
	u, e = measure.UnitOf(constant("1").nodes(), nil)
	same(t, "UnitOf", u, e, measure.Unit{}, api.OK)
}

// P6.5: the values of each operator, and of records without samples.
func TestEvaluateOperators(t *testing.T) {
	channels := [][]float32{{1, -3, negativeZero(), 0.5}, {2, 2, -1, 4}}
	a, b := channel(0), channel(1)
	for _, row := range []struct {
		x      tree
		wanted []api.Rat
	}{
		{a, []api.Rat{"1", "-3", "0", "1/2"}}, {constant("-2/3"), []api.Rat{"-2/3", "-2/3", "-2/3", "-2/3"}}, {apply("neg", a), []api.Rat{"-1", "3", "0", "-1/2"}}, {apply("abs", a), []api.Rat{"1", "3", "0", "1/2"}},
		{apply("diff", a), []api.Rat{"0", "-4", "3", "1/2"}}, {apply("sum", a), []api.Rat{"1", "-2", "-2", "-3/2"}}, {apply("sum", apply("diff", a)), []api.Rat{"0", "-4", "-1", "-1/2"}}, {apply("diff", apply("sum", a)), []api.Rat{"0", "-3", "0", "1/2"}}, {apply("sum", constant("1")), []api.Rat{"1", "2", "3", "4"}},
		{apply("add", a, b), []api.Rat{"3", "-1", "-1", "9/2"}}, {apply("sub", a, b), []api.Rat{"-1", "-5", "1", "-7/2"}}, {apply("mul", a, b), []api.Rat{"2", "-6", "0", "2"}}, {apply("div", a, b), []api.Rat{"1/2", "-3/2", "0", "1/8"}},
	} {
		got, e := measure.Evaluate(row.x.nodes(), channels)
		sameList(t, "Evaluate "+row.x.canonical(), got, e, row.wanted, api.OK)
		for _, empty := range [][][]float32{{{}, {}}, {nil, {}, nil}} {
			got, e = measure.Evaluate(row.x.nodes(), empty)
			sameList(t, "Evaluate "+row.x.canonical(), got, e, nil, api.OK)
		}
	}
	// Without an index nothing is divided by 0, and without channels each channel is missing.
	zero := apply("div", constant("1"), constant("0"))
	for _, empty := range [][][]float32{nil, {}, {nil}} {
		got, e := measure.Evaluate(zero.nodes(), empty)
		sameList(t, "Evaluate", got, e, nil, api.OK)
	}
	got, e := measure.Evaluate(a.nodes(), nil)
	sameList(t, "Evaluate", got, e, nil, api.ErrUnknown)
}

// P6.5: divisions by 0, also those that do not matter for the result, and missing channels, in the order of the nodes.
func TestEvaluateErrors(t *testing.T) {
	channels := [][]float32{{1, 0, 3}, {1, 2, 3}}
	a, b, missing := channel(0), channel(1), channel(2)
	zero := apply("div", b, a)
	for _, row := range []struct {
		x tree
		e api.Errno
	}{
		{zero, api.ErrZero}, {missing, api.ErrUnknown}, {apply("add", zero, missing), api.ErrZero}, {apply("add", missing, zero), api.ErrUnknown}, {apply("div", missing, constant("0")), api.ErrUnknown}, {apply("div", apply("div", b, constant("0")), missing), api.ErrZero},
		{apply("mul", constant("0"), zero), api.ErrZero}, {apply("div", constant("0"), a), api.ErrZero}, {apply("div", a, constant("0")), api.ErrZero}, {apply("div", b, apply("diff", b)), api.ErrZero}, {apply("div", b, apply("sub", b, b)), api.ErrZero},
		{apply("mul", constant(nines(600)), apply("mul", constant(nines(600)), zero)), api.ErrZero}, {apply("mul", constant(nines(600)), constant(nines(600))), api.ErrLarge}, {apply("sum", constant(nines(600))), api.ErrLarge},
	} {
		got, e := measure.Evaluate(row.x.nodes(), channels)
		sameList(t, "Evaluate "+row.x.canonical(), got, e, nil, row.e)
	}
	got, e := measure.Evaluate(apply("diff", apply("div", constant("1"), channel(0))).nodes(), [][]float32{{negativeZero()}})
	sameList(t, "Evaluate", got, e, nil, api.ErrZero)
	// The first value has too many digits; the second one is a division by 0.
	large := apply("div", apply("mul", constant(nines(600)), constant(nines(600))), a)
	got, e = measure.Evaluate(large.nodes(), channels)
	sameList(t, "Evaluate", got, e, nil, api.ErrZero)
}

// P6.5: the errors of channels, in their order.
func TestChannelErrors(t *testing.T) {
	check := func(channels [][]float32, wanted api.Errno) {
		t.Helper()
		for _, x := range []tree{channel(7), constant("1"), apply("div", constant("1"), constant("0"))} {
			l, e := measure.Evaluate(x.nodes(), channels)
			sameList(t, "Evaluate", l, e, nil, wanted)
		}
	}
	for _, bad := range badRecords() {
		check([][]float32{bad.s}, bad.e)
		check([][]float32{{1}, {1, 2}, bad.s}, bad.e)
		check([][]float32{bad.s, make([]float32, 4097), notFinite()}, bad.e)
		check(append(make([][]float32, 8), bad.s), api.ErrMany)
		check(append([][]float32{bad.s}, make([][]float32, 8)...), api.ErrMany)
	}
	check([][]float32{{1}, {1, 2}}, api.ErrShape)
	check([][]float32{{1, 2}, {1}}, api.ErrShape)
	check([][]float32{{}, {}, {}, {1}}, api.ErrShape)
	check([][]float32{{1}, nil}, api.ErrShape)
}

// randomChannels returns up to 8 records that are equally long.
func randomChannels(r *rand.Rand) [][]float32 {
	channels := make([][]float32, r.Intn(9))
	n := r.Intn(5)
	for i := range channels {
		channels[i] = anyRecord(r, n)
	}
	return channels
}

// P6.5: the values of random expressions.
func TestEvaluate(t *testing.T) {
	r := source(43)
	errors := map[api.Errno]int{}
	for range 4000 {
		x := randomTree(r, r.Intn(5), rationals)
		if len(x.nodes()) > 64 {
			continue
		}
		channels := randomChannels(r)
		wanted, wantedError := x.evaluated(channels)
		got, e := measure.Evaluate(x.nodes(), channels)
		sameList(t, "Evaluate "+x.canonical(), got, e, wanted, wantedError)
		errors[e]++
	}
	if min(errors[api.OK], errors[api.ErrZero], errors[api.ErrUnknown], errors[api.ErrLarge]) < 20 {
		t.Errorf("the expressions decide nothing: %v", errors)
	}
}

// P6.5: values on the way have more digits than a number may have, but the results have not; the longest records.
func TestEvaluateOnTheWay(t *testing.T) {
	large := constant(nines(600))
	x := apply("div", apply("mul", apply("mul", large, channel(0)), large), apply("mul", large, large))
	s := make([]float32, 4096)
	for i := range s {
		s[i] = float32(i)
	}
	got, e := measure.Evaluate(x.nodes(), [][]float32{s})
	wanted, _ := channel(0).evaluated([][]float32{s})
	sameList(t, "Evaluate", got, e, wanted, api.OK)
	// The sum of inverses has thousands of digits.
	inverse := apply("div", constant("1"), apply("add", channel(0), constant("1")))
	got, e = measure.Evaluate(apply("sum", inverse).nodes(), [][]float32{s})
	sameList(t, "Evaluate", got, e, nil, api.ErrLarge)
	got, e = measure.Evaluate(apply("sub", apply("sum", inverse), apply("sum", inverse)).nodes(), [][]float32{s})
	sameList(t, "Evaluate", got, e, slices.Repeat([]api.Rat{"0"}, 4096), api.OK)
}

// P6.5: arguments do not change, and results share no memory.
func TestExpressionsChangeNothing(t *testing.T) {
	nodes := apply("div", apply("sum", apply("diff", channel(0))), constant("-3/2")).nodes()
	before := slices.Clone(nodes)
	unchanged(t, []float32{1, negativeZero(), 3}, func(s []float32) {
		first, _ := measure.Evaluate(nodes, [][]float32{s})
		second, _ := measure.Evaluate(nodes, [][]float32{s})
		values := slices.Clone(second)
		clear(first)
		sameList(t, "Evaluate", second, api.OK, values, api.OK)
	})
	measure.CheckExpr(nodes)
	measure.PrintExpr(nodes)
	measure.UnitOf(nodes, []measure.Unit{{Volts: 1}})
	sameList(t, "the nodes", nodes, api.OK, before, api.OK)
	first, _, _ := measure.ParseExpr("c1+2")
	second, _, _ := measure.ParseExpr("c1+2")
	clear(first)
	sameList(t, "ParseExpr", second, api.OK, apply("add", channel(0), constant("2")).nodes(), api.OK)
}
