package trigger

import "strobe/api"

// maxCells is the number of cells of memory of a program that is compiled, at most: each is that of a condition
// of at least the size 3, and so is the factor for the symbols; 3 to the power of 11 is above MaxSize.
const maxCells = 9

// noSymbol is the symbol before the first sample.
const noSymbol = -1

// configuration is all that the times of the next triggers of a program depend on.
type configuration struct {
	memory [maxCells]int
	at     place
	before int
}

// Compile returns the minimal automaton of a program.
func Compile(p Program) (Automaton, api.Errno) {
	size, e := Size(p)
	if e != api.OK {
		return Automaton{}, e
	}
	if p.Lines > MaxBits || size > MaxSize {
		return Automaton{}, api.ErrLimit
	}
	r := newRunner(p)
	return explored(configuration{before: noSymbol}, p.Lines, r.read).minimal()
}

// read returns the configuration after a symbol, and whether the program triggers there.
func (r runner) read(c configuration, symbol int) (configuration, bool) {
	m := moment{c.before, symbol}
	if c.before == noSymbol {
		m.before = symbol
	}
	var fires bool
	c.at, fires = r.take(c.memory[:], c.at, m)
	c.before = symbol
	return c, fires
}
