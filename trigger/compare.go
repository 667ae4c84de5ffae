package trigger

import (
	"slices"

	"strobe/api"
	"strobe/common"
)

// visit is a visit to a pair of states, and the number of the visit and the symbol from which it comes.
type visit struct {
	pair   [2]int
	from   int
	symbol int
}

// differences searches the pairs of states of two automata for a symbol at which just one of them triggers.
// It returns the shortest signal with that symbol at its end, or nil without one, and the pairs that it has visited.
func differences(a, b Automaton) ([]int, []visit) {
	// Visits are in the order of their signals: by length, and then lexicographically.
	visits := []visit{{}}
	isVisited := map[[2]int]bool{{}: true}
	var signal []int
search:
	for i := 0; i < len(visits); i++ {
		for symbol := range 1 << a.Lines {
			after, x, y := readBoth(a, b, visits[i].pair, symbol)
			if x != y {
				signal = append(signalTo(visits, i), symbol)
				break search
			}
			if !isVisited[after] {
				isVisited[after] = true
				visits = append(visits, visit{after, i, symbol})
			}
		}
	}
	return signal, visits
}

// readBoth returns the states of two automata after a symbol, and whether the one and the other trigger.
func readBoth(a, b Automaton, pair [2]int, symbol int) ([2]int, bool, bool) {
	next, x := a.read(pair[0], symbol)
	nextOther, y := b.read(pair[1], symbol)
	return [2]int{next, nextOther}, x, y
}

// signalTo returns the signal that leads to a visit.
func signalTo(visits []visit, number int) []int {
	var signal []int
	for ; number > 0; number = visits[number].from {
		signal = append(signal, visits[number].symbol)
	}
	slices.Reverse(signal)
	return signal
}

// Distinguish returns the shortest signal after which just one of two automata triggers.
func Distinguish(a, b Automaton) ([]int, api.Errno) {
	if e := checkTwo(a, b); e != api.OK {
		return nil, e
	}
	signal, _ := differences(a, b)
	return signal, common.ErrorIf(signal == nil, api.ErrNone)
}

// Shortest returns the shortest signal after which an automaton triggers.
func Shortest(a Automaton) ([]int, api.Errno) {
	if e := CheckAutomaton(a); e != api.OK {
		return nil, e
	}
	symbols := 1 << a.Lines
	never := Automaton{Lines: a.Lines, Next: [][]int{make([]int, symbols)}, Fires: [][]bool{make([]bool, symbols)}}
	return Distinguish(a, never)
}

// Relate returns a relation that proves that two automata trigger alike.
func Relate(a, b Automaton) ([][2]int, api.Errno) {
	if e := checkTwo(a, b); e != api.OK {
		return nil, e
	}
	signal, visits := differences(a, b)
	if signal != nil {
		return nil, api.ErrConflict
	}
	relation := common.Transformed(visits, func(v visit) [2]int { return v.pair })
	slices.SortFunc(relation, order)
	return relation, api.OK
}

// order compares two pairs of states lexicographically.
func order(a, b [2]int) int {
	return slices.Compare(a[:], b[:])
}

// CheckRelation returns OK for a relation that proves that two automata trigger alike.
func CheckRelation(a, b Automaton, l [][2]int) api.Errno {
	e := common.FirstError(checkTwo(a, b), common.AtMost(l, api.MaxStates*api.MaxStates))
	if e != api.OK {
		return e
	}
	for i, pair := range l {
		if !a.has(pair[0]) || !b.has(pair[1]) {
			return api.ErrUnknown
		}
		if i > 0 && order(l[i-1], pair) >= 0 {
			return api.ErrOrder
		}
	}
	return common.ErrorIf(!proves(a, b, l), api.ErrProof)
}

// proves reports whether a relation proves that two automata trigger alike.
func proves(a, b Automaton, l [][2]int) bool {
	isRelated := map[[2]int]bool{}
	for _, pair := range l {
		isRelated[pair] = true
	}
	for _, pair := range l {
		for symbol := range 1 << a.Lines {
			if after, x, y := readBoth(a, b, pair, symbol); x != y || !isRelated[after] {
				return false
			}
		}
	}
	return isRelated[[2]int{0, 0}]
}

// Either returns the minimal automaton that triggers when one of two automata does.
func Either(a, b Automaton) (Automaton, api.Errno) {
	return combined(a, b, func(x, y bool) bool { return x || y })
}

// Both returns the minimal automaton that triggers when two automata do.
func Both(a, b Automaton) (Automaton, api.Errno) {
	return combined(a, b, func(x, y bool) bool { return x && y })
}

// combined returns the minimal automaton that triggers depending on whether two automata do.
func combined(a, b Automaton, fires func(bool, bool) bool) (Automaton, api.Errno) {
	if e := checkTwo(a, b); e != api.OK {
		return Automaton{}, e
	}
	product := explored([2]int{}, a.Lines, func(pair [2]int, symbol int) ([2]int, bool) {
		after, x, y := readBoth(a, b, pair, symbol)
		return after, fires(x, y)
	})
	return product.minimal()
}
