package dye

import (
	"iter"

	"lampblack/api"
)

// side is how many numbers a band can be.
const side = api.MaxDyeBand + 1

// state is the bands that grains add up to. Without a grain it is state{}.
type state struct{ x, y int64 }

// with returns the state with some more grains of a dye, or with less.
func (s state) with(d dye, grains int64) state {
	return state{s.x + grains*d.Band[0], s.y + grains*d.Band[1]}
}

// area is the states whose bands are within ranges.
type area [2]api.Range

// wholeArea returns the area of all bands that can be asked for.
func wholeArea() area {
	all := api.Range{Lo: 0, Hi: api.MaxDyeBand}
	return area{all, all}
}

// holds reports whether a state is within an area.
func (a area) holds(s state) bool {
	return isFrom(s.x, a[0].Lo, a[0].Hi) && isFrom(s.y, a[1].Lo, a[1].Hi)
}

// states yields the states of an area in the order in which a table has them.
func (a area) states() iter.Seq[state] {
	return func(yield func(state) bool) {
		for x := a[0].Lo; x <= a[0].Hi; x++ {
			for y := a[1].Lo; y <= a[1].Hi; y++ {
				if !yield(state{x, y}) {
					return
				}
			}
		}
	}
}

// wider returns an area that is wider on all sides, as far as can be asked for.
func (a area) wider(by int64) area {
	var wide area
	for i, r := range a {
		wide[i] = api.Range{Lo: max(0, r.Lo-by), Hi: min(api.MaxDyeBand, r.Hi+by)}
	}
	return wide
}

// least returns the first one of several values that has the least number.
func least[T any](number func(T) int64, values []T) T {
	found := values[0]
	for _, v := range values {
		if number(v) < number(found) {
			found = v
		}
	}
	return found
}
