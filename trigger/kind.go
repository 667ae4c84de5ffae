package trigger

import "slices"

// The letters of the fields of conditions. A kind has them in the order of this list.
const (
	fieldA        = 'a'
	fieldB        = 'b'
	fieldMin      = 'l'
	fieldMax      = 'm'
	fieldPattern  = 'p'
	fieldElement  = 'o'
	fieldElements = 'e'
)

// kind is a kind of conditions.
type kind struct {
	// fields has the letters of the fields that the kind uses, in the order in which they are examined and written.
	fields string
	size   func(c Cond) int
	// take returns the memory of a condition after a sample, and whether it holds there. A memory is 0 at first, and
	// less than the size of the condition. Conditions of elements have none of their own: they have join instead.
	take func(c Cond, memory int, m moment) (int, bool)
	// join reports whether a condition holds, given whether its elements hold.
	join func(holds []bool) bool
}

// kinds returns the kinds of conditions by their names.
func kinds() map[string]kind {
	return map[string]kind{
		"high":    immediate("a", func(c Cond, m moment) bool { return isHigh(m.now, c.A) }),
		"low":     immediate("a", func(c Cond, m moment) bool { return !isHigh(m.now, c.A) }),
		"rise":    immediate("a", func(c Cond, m moment) bool { return m.rises(c.A) }),
		"fall":    immediate("a", func(c Cond, m moment) bool { return m.falls(c.A) }),
		"pattern": immediate("p", func(c Cond, m moment) bool { return fits(m.now, c.Pattern) }),
		"enter":   immediate("p", func(c Cond, m moment) bool { return fits(m.now, c.Pattern) && !fits(m.before, c.Pattern) }),
		"pulse":   {fields: "alm", size: func(c Cond) int { return c.Max + 3 }, take: takePulse},
		"gap":     {fields: "alm", size: func(c Cond) int { return c.Max + 3 }, take: takeGap},
		"idle":    {fields: "al", size: func(c Cond) int { return c.Min + 2 }, take: takeIdle},
		"setup":   {fields: "abl", size: func(c Cond) int { return c.Min + 2 }, take: takeSetup},
		"runt":    {fields: "ab", size: func(c Cond) int { return 4 }, take: takeRunt},
		"not":     joined("o", func(holds []bool) bool { return !slices.Contains(holds, true) }),
		"all":     joined("e", func(holds []bool) bool { return !slices.Contains(holds, false) }),
		"any":     joined("e", func(holds []bool) bool { return slices.Contains(holds, true) }),
	}
}

// immediate returns a kind of conditions that depend only on the symbol of a sample and on the one before.
func immediate(fields string, holds func(Cond, moment) bool) kind {
	return kind{
		fields: fields,
		size:   func(Cond) int { return 1 },
		take:   func(c Cond, _ int, m moment) (int, bool) { return 0, holds(c, m) },
	}
}

// joined returns a kind of conditions that depend only on their elements.
func joined(fields string, join func([]bool) bool) kind {
	return kind{fields: fields, size: sizeOfElements, join: join}
}

// number returns where a condition has the number of a field.
func (c *Cond) number(field rune) *int {
	switch field {
	case fieldA:
		return &c.A
	case fieldB:
		return &c.B
	case fieldMin:
		return &c.Min
	default:
		return &c.Max
	}
}

// sizeOf returns the size of a condition, or MaxSize + 1 if it is greater.
func sizeOf(c Cond) int {
	return kinds()[c.Kind].size(c)
}

// sizeOfElements returns the product of the sizes of the elements of a condition, or MaxSize + 1 if it is greater.
func sizeOfElements(c Cond) int {
	size := 1
	for _, element := range c.Kids {
		size = product(size, sizeOf(element))
	}
	return size
}

// product returns the product of two sizes, or MaxSize + 1 if it is greater.
func product(a, b int) int {
	return min(a*b, MaxSize+1)
}
