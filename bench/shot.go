package bench

import (
	"cmp"
	"slices"

	"strobe/api"
	"strobe/common"
)

// shotKey identifies a shot: two shots that have the same one conflict, unless they are the same.
type shotKey struct {
	instrument string
	number     int
}

// key returns the key of a shot.
func (s Shot) key() shotKey {
	return shotKey{s.Instrument, s.Number}
}

// check returns the first error of a shot, or OK.
func (s Shot) check() api.Errno {
	return common.FirstError(
		checkName(s.Instrument),
		common.InRange(s.Number, 1, MaxShots),
		common.InRange(s.Time, 0, api.MaxNumber),
		common.InRange(s.From, -api.MaxNumber, 2*api.MaxNumber),
		common.InRange(s.To, -api.MaxNumber, 2*api.MaxNumber))
}

// checkShots returns the first error of reported shots, or OK.
func checkShots(l []Shot) api.Errno {
	if e := common.AtMost(l, MaxShots); e != api.OK {
		return e
	}
	for _, s := range l {
		if e := s.check(); e != api.OK {
			return e
		}
	}
	return api.OK
}

// distinct returns each reported shot once.
func distinct(l []Shot) ([]Shot, api.Errno) {
	if e := checkShots(l); e != api.OK {
		return nil, e
	}
	known := map[shotKey]Shot{}
	var list []Shot
	for _, s := range l {
		other, isKnown := known[s.key()]
		if isKnown && other != s {
			return nil, api.ErrConflict
		}
		if !isKnown {
			known[s.key()] = s
			list = append(list, s)
		}
	}
	return list, api.OK
}

// Collect returns each reported shot once, in order.
func Collect(l []Shot) ([]Shot, api.Errno) {
	list, e := distinct(l)
	if e != api.OK {
		return nil, e
	}
	slices.SortFunc(list, func(a, b Shot) int {
		return cmp.Or(cmp.Compare(a.Time, b.Time), cmp.Compare(a.Instrument, b.Instrument), cmp.Compare(a.Number, b.Number))
	})
	return list, api.OK
}

// FindMissing returns the numbers that were not reported.
func FindMissing(l []Shot) ([]Missing, api.Errno) {
	list, e := distinct(l)
	if e != api.OK {
		return nil, e
	}
	slices.SortFunc(list, func(a, b Shot) int {
		return cmp.Or(cmp.Compare(a.Instrument, b.Instrument), cmp.Compare(a.Number, b.Number))
	})
	var missing []Missing
	// The first number of an instrument that no shot so far has.
	var next Missing
	for _, s := range list {
		if s.Instrument != next.Instrument {
			next = Missing{s.Instrument, 1}
		}
		for ; next.Number < s.Number; next.Number++ {
			missing = append(missing, next)
		}
		next.Number++
	}
	return missing, api.OK
}
