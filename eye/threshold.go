package eye

import (
	"cmp"
	"maps"
	"slices"

	"lampblack/api"
)

// threshold is a threshold of a test.
type threshold struct {
	api.Ratio
}

// isThreshold reports whether a ratio is a threshold.
func isThreshold(r api.Ratio) bool {
	return isFraction(r) && max(r.Num, r.Den) <= api.MaxEyeNumber
}

// side returns what is above 0 for an outcome above a threshold, and below 0 for
// one below it. Of an outcome that nobody comes to both products are 0.
func (t threshold) side(o outcome) int { return cmp.Compare(o.Eye*t.Den, o.Guess*t.Num) }

// isPassed reports whether an outcome is above a threshold.
func (t threshold) isPassed(o outcome) bool { return t.side(o) > 0 }

// proves reports whether a threshold proves a set of outcomes.
func (t threshold) proves(p plates, set members) bool {
	for o := range p.outcomes() {
		side := t.side(o)
		if side > 0 && !set.have(o) || side < 0 && set.have(o) {
			return false
		}
	}
	return true
}

// groups is the odds of all outcomes that speak as much for an eye, by the
// threshold that they are neither above nor below. Those to which a guesser never
// comes are left out: it costs no Guess to have them in a set.
type groups map[threshold]api.EyeOdds

// newGroups returns the groups of the outcomes of a test.
func newGroups(p plates) groups {
	g := groups{}
	for o := range p.outcomes() {
		if o.Guess > 0 {
			t := threshold{newRatio(o.Eye, o.Guess)}
			g[t] = sum(g[t], o.EyeOdds)
		}
	}
	return g
}

// falling returns the thresholds of groups, the greatest one first.
func (g groups) falling() []threshold {
	fall := func(a, b threshold) int { return compare(b.Ratio, a.Ratio) }
	return slices.SortedFunc(maps.Keys(g), fall)
}

// leastThreshold takes groups, those with the greatest thresholds first, as long
// as the Guess of all of them is at most a number, and returns the least threshold
// of the region that they make up: that of the next group, which is not above it
// any more. If all are taken, it is 0; an outcome with the threshold 0 may be taken
// then, but is in no region.
func (g groups) leastThreshold(most int64) threshold {
	least := threshold{api.Ratio{Num: 0, Den: 1}}
	left := most
search:
	for _, t := range g.falling() {
		guess := g[t].Guess
		if guess > left {
			least = t
			break search
		}
		left -= guess
		delete(g, t)
	}
	return least
}
