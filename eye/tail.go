package eye

import (
	"iter"

	"lampblack/api"
)

// runs is what can be read of some plates of one kind: of so many parts as the
// whole, in how many at least so many plates are read right.
type runs struct {
	whole   int64
	atLeast [api.MaxEyeRuns + 1]int64
}

// noRuns returns what can be read of no plate.
func noRuns() runs { return runs{whole: 1, atLeast: [api.MaxEyeRuns + 1]int64{1}} }

// more returns what can be read with one plate more: it is right, and of the
// others one less has to be, or it is wrong.
func (r runs) more(chance api.Ratio) runs {
	n := runs{whole: r.whole * chance.Den}
	n.atLeast[0] = n.whole
	for right := 1; right < len(n.atLeast); right++ {
		n.atLeast[right] = chance.Num*r.atLeast[right-1] + rest(chance).Num*r.atLeast[right]
	}
	return n
}

// tail returns the tail of a valid plan for a chance.
func tail(x api.EyePlan, chance api.Ratio) api.Ratio {
	r := noRuns()
	for range x.Plates {
		r = r.more(chance)
	}
	return newRatio(r.atLeast[x.Right], r.whole)
}

// plans yields all valid plans: those with fewer plates first, and of those with
// as many the ones with less right.
func plans() iter.Seq[api.EyePlan] {
	return func(yield func(api.EyePlan) bool) {
		for n := 1; n <= api.MaxEyeRuns; n++ {
			for right := range n + 1 {
				if !yield(api.EyePlan{Plates: n, Right: right}) {
					return
				}
			}
		}
	}
}
