package atlas

import (
	"iter"

	"lampblack/api"
)

// code is what is seen, comparison by comparison; in those that a plan does not
// have it is 0. That of a chip is what is seen if the chip became darker.
type code [api.MaxAtlasRows]int

func (c code) times(shade int) code {
	for i := range c {
		c[i] *= shade
	}
	return c
}

// opposite returns what is seen if a chip became lighter, not darker.
func (c code) opposite() code { return c.times(-1) }

// turned returns a code with 1 for 0, -1 for 1, and 0 for -1, in so many
// comparisons.
func (c code) turned(rows int) code {
	for i := range rows {
		c[i] = (c[i]+2)%3 - 1
	}
	return c
}

func sum(codes ...code) code {
	var all code
	for _, c := range codes {
		for i, n := range c {
			all[i] += n
		}
	}
	return all
}

// each returns codes that are all changed in one way.
func each(change func(code) code, codes ...code) []code {
	var changed []code
	for _, c := range codes {
		changed = append(changed, change(c))
	}
	return changed
}

// allCodes returns all codes of so many comparisons, that of no chip first.
func allCodes(rows int) []code {
	codes := []code{{}}
	for i := range rows {
		for _, c := range codes {
			var unit code
			unit[i] = 1
			codes = append(codes, sum(c, unit), sum(c, unit.opposite()))
		}
	}
	return codes
}

// first returns the first one of several values that is of a kind, or false if
// there is none.
func first[T any](values iter.Seq[T], isOfKind func(T) bool) (T, bool) {
	for v := range values {
		if isOfKind(v) {
			return v, true
		}
	}
	var none T
	return none, false
}
