package trigger

import (
	"slices"

	"strobe/api"
)

// graph is an automaton without a limit of its states, each of which can be reached. What a state does with a symbol
// is at the index that index returns.
type graph struct {
	lines int
	next  []int
	fires []bool
}

// symbols returns the number of symbols.
func (g graph) symbols() int {
	return 1 << g.lines
}

// states returns the number of states.
func (g graph) states() int {
	return len(g.next) / g.symbols()
}

// index returns the index of a state and a symbol.
func (g graph) index(state, symbol int) int {
	return state*g.symbols() + symbol
}

// explored returns the graph of the states that are reached from a first one, numbered in the order in which they are found.
func explored[S comparable](first S, lines int, read func(S, int) (S, bool)) graph {
	g := graph{lines: lines}
	states := []S{first}
	numbers := map[S]int{first: 0}
	for i := 0; i < len(states); i++ {
		for symbol := range g.symbols() {
			after, fires := read(states[i], symbol)
			number, isFound := numbers[after]
			if !isFound {
				number = len(states)
				numbers[after] = number
				states = append(states, after)
			}
			g.next = append(g.next, number)
			g.fires = append(g.fires, fires)
		}
	}
	return g
}

// minimal returns the minimal automaton of a graph, or ErrMany if it has more than MaxStates states.
func (g graph) minimal() (Automaton, api.Errno) {
	classes := g.classes()
	if len(classes.ranges) > api.MaxStates {
		return Automaton{}, api.ErrMany
	}
	reduced := explored(classes.of[0], g.lines, func(class, symbol int) (int, bool) {
		at := g.index(classes.member(class), symbol)
		return classes.of[g.next[at]], g.fires[at]
	})
	return reduced.automaton(), api.OK
}

// automaton returns the automaton that a graph is.
func (g graph) automaton() Automaton {
	return Automaton{Lines: g.lines, Next: rows(g.next, g.symbols()), Fires: rows(g.fires, g.symbols())}
}

// rows returns the rows of a table with a certain number of columns.
func rows[T any](table []T, columns int) [][]T {
	var all [][]T
	for row := range slices.Chunk(table, columns) {
		all = append(all, slices.Clone(row))
	}
	return all
}

// classes returns the classes of the states that trigger alike. It gives up when there are more than MaxStates classes.
func (g graph) classes() *partition {
	p := newPartition(g.states())
	for symbol := range g.symbols() {
		for state := range g.states() {
			if g.fires[g.index(state, symbol)] {
				p.mark(state)
			}
		}
		p.split()
	}
	arrivals := g.arrivals()
	// A class is taken again when it has been split, but then only the smaller part: this is the algorithm of Hopcroft.
	for len(p.pending) > 0 && len(p.ranges) <= api.MaxStates {
		class := p.pending[len(p.pending)-1]
		p.pending = p.pending[:len(p.pending)-1]
		members := slices.Clone(p.members(class))
		for symbol := range g.symbols() {
			// A symbol leads from each state to one state only, so no state is marked twice.
			for _, state := range members {
				for _, from := range arrivals.at(g.index(state, symbol)) {
					p.mark(from)
				}
			}
			p.split()
		}
	}
	return p
}

// arrivals has for each state and each symbol the states from which the symbol leads there.
type arrivals struct {
	from  []int
	begin []int
}

// at returns the states at the index of a state and a symbol.
func (a arrivals) at(index int) []int {
	return a.from[a.begin[index]:a.begin[index+1]]
}

// arrivals returns the arrivals of a graph.
func (g graph) arrivals() arrivals {
	a := arrivals{make([]int, len(g.next)), make([]int, len(g.next)+1)}
	targets := func(visit func(from, index int)) {
		for i, to := range g.next {
			visit(i/g.symbols(), g.index(to, i%g.symbols()))
		}
	}
	targets(func(_, index int) { a.begin[index]++ })
	sum := 0
	for i, count := range a.begin {
		sum += count
		a.begin[i] = sum
	}
	targets(func(from, index int) {
		a.begin[index]--
		a.from[a.begin[index]] = from
	})
	return a
}
