package measure

import (
	"slices"

	"strobe/api"
	"strobe/common"
	"strobe/rational"
)

// The operators of expressions.
const (
	opConstant   = "num"
	opChannel    = "ch"
	opNegative   = "neg"
	opMagnitude  = "abs"
	opDifference = "diff"
	opSum        = "sum"
	opPlus       = "add"
	opMinus      = "sub"
	opTimes      = "mul"
	opOver       = "div"
)

// action takes the operands of an operator, the last one first, and returns its result or an error.
type action[T any] func(take func() T) (T, api.Errno)

// operator is an operator with operands, and what it makes of their texts, of their units and of their values.
type operator struct {
	operands int
	text     action[string]
	unit     action[Unit]
	value    action[column]
}

// operators returns the operators with operands by their names.
func operators() map[string]operator {
	return map[string]operator{
		opNegative:   unary("(-", 0, each(rational.Number.Negated)),
		opMagnitude:  unary("abs(", 0, each(rational.Number.Magnitude)),
		opDifference: unary("diff(", -1, differences),
		opSum:        unary("sum(", 1, sums),
		opPlus:       binary("+", equalUnit, pairwise(rational.Number.Plus)),
		opMinus:      binary("-", equalUnit, pairwise(rational.Number.Minus)),
		opTimes:      binary("*", unitOfProduct, pairwise(rational.Number.Times)),
		opOver:       binary("/", unitOfQuotient, quotients),
	}
}

// unary returns an operator with one operand: what stands before it in a text, the exponent of seconds that is added
// to its unit, and what is made of its values.
func unary(before string, seconds int, value func(column) column) operator {
	return operator{
		operands: 1,
		text:     one(func(x string) string { return before + x + ")" }),
		unit:     one(func(x Unit) Unit { return Unit{x.Volts, x.Seconds + seconds} }),
		value:    one(value),
	}
}

// one returns the action of an operator with one operand.
func one[T any](result func(T) T) action[T] {
	return func(take func() T) (T, api.Errno) { return result(take()), api.OK }
}

// binary returns an operator with two operands: its sign, and what is made of their units and of their values.
func binary(sign string, unit func(a, b Unit) (Unit, api.Errno), value func(a, b column) (column, api.Errno)) operator {
	return operator{
		operands: 2,
		text:     two(func(a, b string) (string, api.Errno) { return "(" + a + sign + b + ")", api.OK }),
		unit:     two(unit),
		value:    two(value),
	}
}

// two returns the action of an operator with two operands.
func two[T any](result func(a, b T) (T, api.Errno)) action[T] {
	return func(take func() T) (T, api.Errno) {
		b := take()
		a := take()
		return result(a, b)
	}
}

// equalUnit returns the unit of two operands, which have to have the same one.
func equalUnit(a, b Unit) (Unit, api.Errno) {
	if a != b {
		return Unit{}, api.ErrUnit
	}
	return a, api.OK
}

func unitOfProduct(a, b Unit) (Unit, api.Errno) {
	return Unit{a.Volts + b.Volts, a.Seconds + b.Seconds}, api.OK
}

func unitOfQuotient(a, b Unit) (Unit, api.Errno) {
	return Unit{a.Volts - b.Volts, a.Seconds - b.Seconds}, api.OK
}

// each returns a function that changes each value of a column.
func each(change func(rational.Number) rational.Number) func(column) column {
	return func(x column) column { return common.Transformed(x, change) }
}

// differences returns the differences from the value before, and 0 for the first one.
func differences(x column) column {
	// Without values there is no first one.
	return append(column{rational.Of(0)}, gaps(x)...)[:len(x)]
}

// sums returns the sums of all values up to each one.
func sums(x column) column {
	return common.Transformed(x, accumulator())
}

// pairwise returns a function that combines the values of two columns with the same index.
func pairwise(combine func(a, b rational.Number) rational.Number) func(a, b column) (column, api.Errno) {
	return func(a, b column) (column, api.Errno) { return common.Combined(a, b, combine), api.OK }
}

// quotients returns the quotients of the values with the same index, or ErrZero if one is divided by 0.
func quotients(a, b column) (column, api.Errno) {
	if slices.ContainsFunc(b, func(x rational.Number) bool { return x.Sign() == 0 }) {
		return nil, api.ErrZero
	}
	return common.Combined(a, b, rational.Number.Over), api.OK
}
