package zone

import (
	"iter"

	"lampblack/api"
)

// isFrom reports whether a number is from one to another one.
func isFrom[T int | int64](n, from, to T) bool { return from <= n && n <= to }

// areRanges reports whether ranges are valid and have ends from 0 to a number.
func areRanges(to int64, ranges ...api.Range) bool {
	for _, r := range ranges {
		if r.Lo < 0 || r.Hi < r.Lo || r.Hi > to {
			return false
		}
	}
	return true
}

// areAngles reports whether angles are strictly increasing degrees.
func areAngles(angles []int64) bool {
	before := int64(-1)
	for _, a := range angles {
		if a <= before || a > api.MaxZoneTurn {
			return false
		}
		before = a
	}
	return true
}

func areWeights(weights []int64) bool {
	for _, w := range weights {
		if !isFrom(w, 0, api.MaxZoneWeight) {
			return false
		}
	}
	return true
}

// degrees returns how many degrees there are from the first angle to the last one.
func degrees(l api.ZoneLamp) int { return index(l, l.Angles[len(l.Angles)-1]) + 1 }

// index returns the index of a degree in lanterns and weights.
func index(l api.ZoneLamp, degree int64) int { return int(degree - l.Angles[0]) }

// gap is what lies from an angle to the next one. The light only falls from its
// bright end to its dark one: where it rises, the gap is walked the other way.
type gap struct {
	bright, dark int // indexes of degrees
	step         int // 1 or -1
}

// gaps yields the gaps of a lamp.
func gaps(l api.ZoneLamp) iter.Seq[gap] {
	return func(yield func(gap) bool) {
		for i, falls := range l.Falls {
			first, last := index(l, l.Angles[i]), index(l, l.Angles[i+1])
			g := gap{bright: last, dark: first, step: -1}
			if falls {
				g = gap{bright: first, dark: last, step: 1}
			}
			if !yield(g) {
				return
			}
		}
	}
}

// onlyFalls reports whether the light of a lantern does not rise in the gap.
func (g gap) onlyFalls(lantern []int64) bool {
	for d := g.bright; d != g.dark; d += g.step {
		if lantern[d+g.step] > lantern[d] {
			return false
		}
	}
	return true
}

// doubt is two indexes of angles, i less than k; its zero value is none.
type doubt struct {
	i, k int
}

// isDoubt reports whether two indexes of angles are a contradiction.
func isDoubt(l api.ZoneLamp, x doubt) bool {
	falls := l.Falls[x.i]
	for _, other := range l.Falls[x.i:x.k] {
		if other != falls {
			return false
		}
	}
	if falls {
		return l.Lights[x.i].Hi < l.Lights[x.k].Lo
	}
	return l.Lights[x.i].Lo > l.Lights[x.k].Hi
}

// findDoubt returns a contradiction of a lamp, or none.
func findDoubt(l api.ZoneLamp) doubt {
	var found doubt
search:
	for k := range l.Angles {
		for i := range k {
			if x := (doubt{i, k}); isDoubt(l, x) {
				found = x
				break search
			}
		}
	}
	return found
}

// flux returns the flux of a light that is told for each index of a degree.
func flux(l api.ZoneLamp, light func(int) int64) int64 {
	sum := int64(0)
	for d, w := range l.Weights {
		sum += w * light(d)
	}
	return sum
}

// most returns the greatest one of several values, none of which is below 0.
func most[T int | int64](values iter.Seq[T]) T {
	var greatest T
	for v := range values {
		greatest = max(greatest, v)
	}
	return greatest
}
