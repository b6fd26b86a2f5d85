package panel

import (
	"cmp"
	"slices"

	"lampblack/api"
)

// tally is a list of wins that is not too long.
type tally []int

// duels returns duels with these wins, and whether there are any. Shade after shade
// beats, of the later ones, those that have the fewest wins left to get, and is
// beaten by the others. No duels are missed so: where a shade beats one that has as
// many wins as another one that beats it, or more, there is a way of one or two
// wins from the former to the latter; turned round, together with both duels of the
// shade, it leaves all wins as they are.
func (w tally) duels() (duels, bool) {
	d := duels{shades: len(w)}
	left := slices.Clone(w)
	for shade := range left {
		later := left.fewest(shade + 1)
		if !isFrom(left[shade], 0, len(later)) {
			return duels{}, false
		}
		for place, other := range later {
			if place < left[shade] {
				d.beats[shade][other] = true
			} else {
				d.beats[other][shade] = true
				left[other]--
			}
		}
	}
	return d, true
}

// fewest returns the shades from one on, those with the fewest wins first.
func (w tally) fewest(from int) []int {
	room := make([]int, len(w))
	grown := room[:0:len(room)]
	for shade := from; shade < len(w); shade++ {
		grown = append(grown, shade)
	}
	slices.SortStableFunc(grown, func(a, b int) int { return cmp.Compare(w[a], w[b]) })
	return taken(grown)
}

// isShort reports whether wins are short at indexes.
func (w tally) isShort(indexes []int) bool {
	var there []int
	for _, index := range indexes {
		there = append(there, w[index])
	}
	k := len(indexes)
	all, least := sum(there...), k*(k-1)/2
	return all < least || k == len(w) && all != least
}

// sum returns the sum of numbers.
func sum(numbers ...int) int {
	all := 0
	for _, n := range numbers {
		all += n
	}
	return all
}

// short returns indexes at which wins are short, and whether there are any. Only the
// fewest wins have to be tried: no others, of as many shades, have a lesser sum.
func (w tally) short() ([]int, bool) {
	room := make([]int, len(w))
	grown := room[:0:len(room)]
search:
	for n := range api.MaxPanelShades {
		for index, number := range w {
			if number != n {
				continue
			}
			grown = append(grown, index)
			if w.isShort(grown) {
				break search
			}
		}
	}
	if !w.isShort(grown) {
		return nil, false
	}
	slices.Sort(grown)
	return taken(grown), true
}
