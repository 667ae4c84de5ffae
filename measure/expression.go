package measure

import (
	"slices"
	"strconv"
	"strings"

	"strobe/api"
	"strobe/common"
	"strobe/number"
	"strobe/rational"
)

// stack is the results of the nodes that no operator has taken yet.
type stack[T any] struct {
	results []T
}

func (s *stack[T]) put(x T) {
	s.results = append(s.results, x)
}

// take takes the result that was put last.
func (s *stack[T]) take() T {
	last := len(s.results) - 1
	x := s.results[last]
	s.results = s.results[:last]
	return x
}

// evaluated returns the result of an expression without errors, or the error of the first node with one,
// given the results of constants and channels, and the actions of operators.
func evaluated[T any](e []Node, leaf func(Node) (T, api.Errno), actionOf func(operator) action[T]) (T, api.Errno) {
	known := operators()
	s := &stack[T]{}
	for _, n := range e {
		act := func(func() T) (T, api.Errno) { return leaf(n) }
		if o, isOperator := known[n.Op]; isOperator {
			act = actionOf(o)
		}
		x, err := act(s.take)
		if err != api.OK {
			var none T
			return none, err
		}
		s.put(x)
	}
	return s.take(), api.OK
}

// PrintExpr returns the canonical string of an expression.
func PrintExpr(e []Node) (string, api.Errno) {
	if err := CheckExpr(e); err != api.OK {
		return "", err
	}
	text, _ := evaluated(e, leafText, func(o operator) action[string] { return o.text })
	if len(text) > api.MaxText {
		return "", api.ErrLong
	}
	return text, api.OK
}

// leafText returns the text of a constant or a channel.
func leafText(n Node) (string, api.Errno) {
	if n.Op == opChannel {
		return "c" + strconv.Itoa(n.Channel+1), api.OK
	}
	text, isNegative := strings.CutPrefix(string(n.Value), "-")
	if isNegative {
		text = "0-" + text
	}
	if isNegative || strings.Contains(text, "/") {
		text = "(" + text + ")"
	}
	return text, api.OK
}

// UnitOf returns the unit of an expression.
func UnitOf(e []Node, units []Unit) (Unit, api.Errno) {
	if err := common.FirstError(CheckExpr(e), checkUnits(units)); err != api.OK {
		return Unit{}, err
	}
	leaf := func(n Node) (Unit, api.Errno) {
		if n.Op == opConstant {
			return Unit{}, api.OK
		}
		return channelOf(n, units)
	}
	return evaluated(e, leaf, func(o operator) action[Unit] { return o.unit })
}

// checkUnits returns the error of the units of channels.
func checkUnits(units []Unit) api.Errno {
	if e := common.AtMost(units, api.MaxChannels); e != api.OK {
		return e
	}
	return common.FirstError(common.Transformed(units, func(u Unit) api.Errno {
		return common.FirstError(common.InRange(u.Volts, -MaxExponent, MaxExponent), common.InRange(u.Seconds, -MaxExponent, MaxExponent))
	})...)
}

// channelOf returns what a list has for the channel of a node, or ErrUnknown if it has nothing.
func channelOf[T any](n Node, channels []T) (T, api.Errno) {
	if n.Channel >= len(channels) {
		var none T
		return none, api.ErrUnknown
	}
	return channels[n.Channel], api.OK
}

// Evaluate returns the value of an expression at each sample index.
func Evaluate(e []Node, channels [][]float32) ([]api.Rat, api.Errno) {
	if err := common.FirstError(CheckExpr(e), checkChannels(channels)); err != api.OK {
		return nil, err
	}
	leaf := func(n Node) (column, api.Errno) {
		if n.Op == opConstant {
			return constant(n.Value, channels), api.OK
		}
		samples, err := channelOf(n, channels)
		return slices.Collect(values(samples)), err
	}
	results, err := evaluated(e, leaf, func(o operator) action[column] { return o.value })
	if err != api.OK {
		return nil, err
	}
	return rational.WriteAll(results)
}

// checkChannels returns the error of the records of channels, and ErrShape if they differ in length.
func checkChannels(channels [][]float32) api.Errno {
	if e := common.AtMost(channels, api.MaxChannels); e != api.OK {
		return e
	}
	differs := func(s []float32) bool { return len(s) != len(channels[0]) }
	return common.FirstError(
		common.FirstError(common.Transformed(channels, number.CheckSamples)...),
		common.ErrorIf(slices.ContainsFunc(channels, differs), api.ErrShape),
	)
}

// constant returns a number for each sample of the records of channels.
func constant(value api.Rat, channels [][]float32) column {
	if len(channels) == 0 {
		return nil
	}
	x, _ := rational.Read(value)
	return slices.Repeat(column{x}, len(channels[0]))
}
