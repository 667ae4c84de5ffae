package measure

import (
	"strobe/api"
	"strobe/common"
	"strobe/number"
)

// CheckExpr returns the first error of an expression, or OK.
func CheckExpr(e []Node) api.Errno {
	if err := common.FirstError(common.ErrorIf(len(e) == 0, api.ErrEmpty), common.AtMost(e, MaxNodes)); err != api.OK {
		return err
	}
	known := operators()
	for _, n := range e {
		if err := checkNode(n, known); err != api.OK {
			return err
		}
	}
	return common.ErrorIf(!isWellFormed(e, known), api.ErrShape)
}

// checkNode returns the first error of a node, or OK.
func checkNode(n Node, known map[string]operator) api.Errno {
	_, isOperator := known[n.Op]
	hasValue := n != Node{Op: n.Op, Channel: n.Channel}
	hasChannel := n != Node{Op: n.Op, Value: n.Value}
	switch {
	case n.Op == opConstant:
		return common.FirstError(number.Check(n.Value), common.ErrorIf(hasChannel, api.ErrRange))
	case n.Op == opChannel:
		return common.FirstError(common.ErrorIf(hasValue, api.ErrForm), common.InRange(n.Channel, 0, api.MaxChannels-1))
	case isOperator:
		return common.FirstError(common.ErrorIf(hasValue, api.ErrForm), common.ErrorIf(hasChannel, api.ErrRange))
	}
	return api.ErrKind
}

// isWellFormed reports whether each operator of an expression finds its operands, and one value is left.
func isWellFormed(e []Node, known map[string]operator) bool {
	depth := 0
	for _, n := range e {
		depth -= known[n.Op].operands
		if depth < 0 {
			return false
		}
		depth++
	}
	return depth == 1
}
