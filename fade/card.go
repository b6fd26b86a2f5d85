package fade

import (
	"cmp"
	"maps"
	"slices"

	"lampblack/api"
)

// sums is what marks add up to: their Weights, and their Grades times their
// Weights. Since each Weight is above 0, only no marks at all add up to sums{}.
type sums [2]int64

// plus returns two sums added.
func (s sums) plus(other sums) sums {
	return sums{s[0] + other[0], s[1] + other[1]}
}

// hour is one of the hours of a card, with what its marks add up to.
type hour struct {
	at    int64
	marks sums
}

// total returns what the marks of some hours add up to.
func total(hours []hour) sums {
	var all sums
	for _, h := range hours {
		all = all.plus(h.marks)
	}
	return all
}

// card is the hours of a card that are not taken out yet, with what their marks
// add up to.
type card map[int64]sums

// newCard returns all hours of a valid card.
func newCard(marks []api.FadeMark) card {
	c := card{}
	for _, m := range marks {
		c[m.Hours] = c[m.Hours].plus(sums{m.Weight, m.Grade * m.Weight})
	}
	return c
}

// takeTo takes the hours up to the last one that is wanted out of a card.
func (c card) takeTo(last int64) []hour {
	var taken []hour
	for _, at := range sortedKeys(c) {
		if at <= last {
			taken = append(taken, hour{at, c[at]})
			delete(c, at)
		}
	}
	return taken
}

// sortedKeys returns the keys of a map, the least one first.
func sortedKeys[K cmp.Ordered, V any](m map[K]V) []K {
	return slices.Sorted(maps.Keys(m))
}
