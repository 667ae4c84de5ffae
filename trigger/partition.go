package trigger

// partition is a partition of states into classes, which are split until all states of a class trigger alike.
type partition struct {
	// order has the states class by class, place the index of each state in it.
	order []int
	place []int
	// of has the class of each state.
	of     []int
	ranges []classRange
	// touched are the classes with marked states, pending those by which others have still to be split.
	touched []int
	pending []int
}

// classRange is where a class has its states in the order. The first ones are marked, up to an index.
type classRange struct {
	from, marked, to int
}

// newPartition returns the partition of n states that has one class.
func newPartition(n int) *partition {
	p := &partition{
		order:   make([]int, n),
		place:   make([]int, n),
		of:      make([]int, n),
		ranges:  []classRange{{to: n}},
		pending: []int{0},
	}
	for i := range n {
		p.order[i], p.place[i] = i, i
	}
	return p
}

// members returns the states of a class.
func (p *partition) members(class int) []int {
	r := p.ranges[class]
	return p.order[r.from:r.to]
}

// member returns a state of a class.
func (p *partition) member(class int) int {
	return p.order[p.ranges[class].from]
}

// mark marks a state that is not marked.
func (p *partition) mark(state int) {
	class := p.of[state]
	r := &p.ranges[class]
	if r.marked == r.from {
		p.touched = append(p.touched, class)
	}
	at, other := p.place[state], p.order[r.marked]
	p.order[at], p.order[r.marked] = other, state
	p.place[other], p.place[state] = at, r.marked
	r.marked++
}

// split separates the marked states of each class from the others, and leaves no state marked.
func (p *partition) split() {
	for _, class := range p.touched {
		r := p.ranges[class]
		first, second := classRange{r.from, r.from, r.marked}, classRange{r.marked, r.marked, r.to}
		switch {
		case r.marked == r.to:
			p.ranges[class].marked = r.from
		case r.marked-r.from < r.to-r.marked:
			p.ranges[class] = second
			p.add(first)
		default:
			p.ranges[class] = first
			p.add(second)
		}
	}
	p.touched = p.touched[:0]
}

// add adds a class, which is pending.
func (p *partition) add(r classRange) {
	class := len(p.ranges)
	p.ranges = append(p.ranges, r)
	p.pending = append(p.pending, class)
	for _, state := range p.order[r.from:r.to] {
		p.of[state] = class
	}
}
