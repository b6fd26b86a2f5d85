package unit

import (
	"iter"

	"lampblack/api"
)

// step is where a path, or a search, has come to: two neighbours, as Num and
// Den of the left one and Num and Den of the right one. Den of the left one
// times Num of the right one, less the other way round, is always 1; so all
// fractions between both have at least the numbers of the one in the middle.
type step [4]int64

// first returns the step from which all others come: 0 / 1 and 1 / 0.
func first() step { return step{0, 1, 1, 0} }

func (t step) left() api.Ratio   { return api.Ratio{Num: t[0], Den: t[1]} }
func (t step) right() api.Ratio  { return api.Ratio{Num: t[2], Den: t[3]} }
func (t step) middle() api.Ratio { return api.Ratio{Num: t[0] + t[2], Den: t[1] + t[3]} }

// up returns the step after the left neighbour has moved n times to the middle.
func (t step) up(n int64) step {
	return step{t[0] + n*t[2], t[1] + n*t[3], t[2], t[3]}
}

// down returns the step after the right neighbour has moved n times to the middle.
func (t step) down(n int64) step {
	return step{t[0], t[1], t[2] + n*t[0], t[3] + n*t[1]}
}

// isOver reports whether a number of the step is above MaxUnit.
func (t step) isOver() bool { return max(t[0], t[1], t[2], t[3]) > api.MaxUnit }

// steps yields the step after each number of a path. The numbers of steps only
// grow, so the one that is over is the last one: the next one might not fit.
func steps(path []int64) iter.Seq[step] {
	return func(yield func(step) bool) {
		at := first()
		for i, n := range path {
			// The step is over after any number above MaxUnit, too.
			n = min(n, api.MaxUnit+1)
			if i%2 == 0 {
				at = at.up(n)
			} else {
				at = at.down(n)
			}
			if !yield(at) || at.isOver() {
				return
			}
		}
	}
}

// isPath reports whether numbers, at least one, are those of a path, or just 0.
func isPath(path []int64) bool {
	for i, n := range path {
		if n < 0 || n == 0 && i > 0 {
			return false
		}
	}
	return len(path) == 1 || path[len(path)-1] >= 2
}

// descend searches from the first step on for one whose middle is found, by
// the side on which fractions lie: all that are low are below all that are high.
func descend(side func(api.Ratio) int) step {
	at := first()
search:
	for {
		from := at
		switch side(from.middle()) {
		case low:
			at = from.up(most(func(n int64) bool { return side(from.up(n).left()) == low }))
		case high:
			at = from.down(most(func(n int64) bool { return side(from.down(n).right()) == high }))
		default:
			break search
		}
	}
	return at
}

// most returns the greatest number that holds, if 1 does, and all do up to it.
// It tries no number above twice the greatest one, so that what is made of it
// by the way does not become too great.
func most(holds func(int64) bool) int64 {
	n := int64(1)
	for holds(2 * n) {
		n *= 2
	}
	for more := n / 2; more > 0; more /= 2 {
		if holds(n + more) {
			n += more
		}
	}
	return n
}
