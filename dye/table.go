package dye

import (
	"slices"

	"lampblack/api"
)

// newTable returns the table of costs of a valid shelf for a fastness.
func newTable(l []api.DyeKind, fast int) []int64 {
	v := newVat()
	var table []int64
	for n := range len(l) + 1 {
		v.fill(l[:n], fast)
		for s := range wholeArea().states() {
			table = append(table, v.at(s).number())
		}
	}
	return table
}

// labels is the numbers of a table.
type labels []int64

// at returns the number for the first dyes, so many of them, and a state.
func (t labels) at(dyes int, s state) int64 {
	return t[(int64(dyes)*side+s.x)*side+s.y]
}

// areRight reports whether a table of a valid shelf is right for a fastness.
func (t labels) areRight(l []api.DyeKind, fast int) bool {
	if t.at(0, state{}) != 0 {
		return false
	}
	for n := range l {
		for s := range wholeArea().states() {
			if t.at(n+1, s) > t.at(n, s) {
				return false
			}
		}
	}
	for d := range dyesOf(l, fastness(fast).allows) {
		if !t.areRightFor(d) {
			return false
		}
	}
	return true
}

// areRightFor reports whether no number is greater than one to which a grain of a
// dye, with its price, is added.
func (t labels) areRightFor(d dye) bool {
	n := d.number + 1
	all := wholeArea()
	for s := range all.states() {
		to := s.with(d, 1)
		if all.holds(to) && t.at(n, to) > t.at(n, s)+d.Price {
			return false
		}
	}
	return true
}

// bound returns the least number for so many dyes and the states of an area.
func (t labels) bound(dyes int, a area) int64 {
	number := func(s state) int64 { return t.at(dyes, s) }
	return number(least(number, slices.Collect(a.states())))
}
