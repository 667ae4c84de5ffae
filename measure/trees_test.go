package measure_test

import (
	"math/big"
	"math/rand"
	"strconv"
	"strings"

	"strobe/api"
	"strobe/measure"
)

// tree is an expression as a tree.
type tree struct {
	node measure.Node
	kids []tree
}

// constant returns a constant.
func constant(a api.Rat) tree { return tree{node: measure.Node{Op: "num", Value: a}} }

// channel returns a channel.
func channel(index int) tree { return tree{node: measure.Node{Op: "ch", Channel: index}} }

// apply returns an operator with operands.
func apply(op string, kids ...tree) tree { return tree{measure.Node{Op: op}, kids} }

// nodes returns the nodes in postfix notation.
func (x tree) nodes() []measure.Node {
	var l []measure.Node
	for _, kid := range x.kids {
		l = append(l, kid.nodes()...)
	}
	return append(l, x.node)
}

// signs returns the sign of each operator with two operands.
func signs() map[string]string {
	return map[string]string{"add": "+", "sub": "-", "mul": "*", "div": "/"}
}

// canonical returns the canonical string.
func (x tree) canonical() string {
	switch op := x.node.Op; op {
	case "num":
		value := valid(x.node.Value)
		magnitude := new(big.Rat).Abs(value).RatString()
		if value.Sign() < 0 {
			return "(0-" + magnitude + ")"
		}
		if !value.IsInt() {
			return "(" + magnitude + ")"
		}
		return magnitude
	case "ch":
		return "c" + strconv.Itoa(x.node.Channel+1)
	case "neg":
		return "(-" + x.kids[0].canonical() + ")"
	case "abs", "diff", "sum":
		return op + "(" + x.kids[0].canonical() + ")"
	default:
		return "(" + x.kids[0].canonical() + signs()[op] + x.kids[1].canonical() + ")"
	}
}

// written returns a source of an expression in the place of an expression (0), of a term (1) or of a factor (2).
func (x tree) written(r *rand.Rand, place int) string {
	if r.Intn(8) == 0 {
		return "(" + x.written(r, 0) + ")"
	}
	text, level := "", 2
	switch op := x.node.Op; op {
	case "num", "ch":
		text = x.canonical()
	case "neg":
		text = "-" + x.kids[0].written(r, 2)
	case "abs", "diff", "sum":
		text = op + "(" + x.kids[0].written(r, 0) + ")"
	default:
		level = strings.Index("addsubmuldiv", op) / 6
		text = x.kids[0].written(r, level) + signs()[op] + x.kids[1].written(r, level+1)
	}
	if level < place {
		return "(" + text + ")"
	}
	return text
}

// valueAt returns the value at an index; no divisor is 0.
func (x tree) valueAt(i int, channels [][]float32) *big.Rat {
	kid := func(k, i int) *big.Rat { return x.kids[k].valueAt(i, channels) }
	switch x.node.Op {
	case "num":
		return valid(x.node.Value)
	case "ch":
		return exact(channels[x.node.Channel][i])
	case "neg":
		return minus(integer(0), kid(0, i))
	case "abs":
		return distance(kid(0, i), integer(0))
	case "diff":
		if i == 0 {
			return integer(0)
		}
		return minus(kid(0, i), kid(0, i-1))
	case "sum":
		total := integer(0)
		for j := range i + 1 {
			total = plus(total, kid(0, j))
		}
		return total
	case "add":
		return plus(kid(0, i), kid(1, i))
	case "sub":
		return minus(kid(0, i), kid(1, i))
	case "mul":
		return times(kid(0, i), kid(1, i))
	default:
		return over(kid(0, i), kid(1, i))
	}
}

// error returns the error of the first node with one, for records of n samples.
func (x tree) error(n int, channels [][]float32) api.Errno {
	for _, kid := range x.kids {
		if e := kid.error(n, channels); e != api.OK {
			return e
		}
	}
	if x.node.Op == "ch" && x.node.Channel >= len(channels) {
		return api.ErrUnknown
	}
	for i := range n {
		if x.node.Op == "div" && x.kids[1].valueAt(i, channels).Sign() == 0 {
			return api.ErrZero
		}
	}
	return api.OK
}

// evaluated returns the result of Evaluate.
func (x tree) evaluated(channels [][]float32) ([]api.Rat, api.Errno) {
	n := 0
	if len(channels) > 0 {
		n = len(channels[0])
	}
	if e := x.error(n, channels); e != api.OK {
		return nil, e
	}
	var values []*big.Rat
	for i := range n {
		values = append(values, x.valueAt(i, channels))
	}
	return rats(values)
}

// unit returns the result of UnitOf.
func (x tree) unit(units []measure.Unit) (measure.Unit, api.Errno) {
	var kids []measure.Unit
	for _, kid := range x.kids {
		u, e := kid.unit(units)
		if e != api.OK {
			return measure.Unit{}, e
		}
		kids = append(kids, u)
	}
	switch x.node.Op {
	case "num":
		return measure.Unit{}, api.OK
	case "ch":
		if x.node.Channel >= len(units) {
			return measure.Unit{}, api.ErrUnknown
		}
		return units[x.node.Channel], api.OK
	case "neg", "abs":
		return kids[0], api.OK
	case "diff":
		return measure.Unit{Volts: kids[0].Volts, Seconds: kids[0].Seconds - 1}, api.OK
	case "sum":
		return measure.Unit{Volts: kids[0].Volts, Seconds: kids[0].Seconds + 1}, api.OK
	case "add", "sub":
		if kids[0].Volts != kids[1].Volts || kids[0].Seconds != kids[1].Seconds {
			return measure.Unit{}, api.ErrUnit
		}
		return kids[0], api.OK
	case "mul":
		return measure.Unit{Volts: kids[0].Volts + kids[1].Volts, Seconds: kids[0].Seconds + kids[1].Seconds}, api.OK
	default:
		return measure.Unit{Volts: kids[0].Volts - kids[1].Volts, Seconds: kids[0].Seconds - kids[1].Seconds}, api.OK
	}
}

// randomTree returns an expression with constants of a random kind, and up to some levels of operators.
func randomTree(r *rand.Rand, levels int, constants func(*rand.Rand) api.Rat) tree {
	if levels == 0 || r.Intn(5) == 0 {
		if r.Intn(3) == 0 {
			return constant(constants(r))
		}
		return channel(r.Intn(r.Intn(api.MaxChannels) + 1))
	}
	kid := func() tree { return randomTree(r, levels-1, constants) }
	switch op := []string{"neg", "abs", "diff", "sum", "add", "sub", "mul", "div", "add", "sub", "mul", "div"}[r.Intn(12)]; op {
	case "neg", "abs", "diff", "sum":
		return apply(op, kid())
	default:
		return apply(op, kid(), kid())
	}
}

// naturals returns a constant that a source may have.
func naturals(r *rand.Rand) api.Rat {
	return api.Rat(strconv.Itoa(r.Intn([]int{1, 3, 100, 1000000000}[r.Intn(4)])))
}

// rationals returns a constant of any kind.
func rationals(r *rand.Rand) api.Rat {
	if r.Intn(9) == 0 {
		return text(largeNumber(r, []int{5, 599, 600}[r.Intn(3)]))
	}
	return text(anyNumber(r))
}
