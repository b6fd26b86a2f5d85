package atlas

import (
	"slices"

	"lampblack/api"
)

// A plan tells all just if the codes of its chips and their opposites are all
// different, and none of them is that of no chip. Its rows are balanced just if
// the codes of its chips add up to none.

// most returns for how many chips so many comparisons are enough. Each chip
// takes two of the codes, not that of no chip. Chips cannot take all the others:
// then an odd number of them would be compared in each row.
func most(rows int) int {
	codes := 1
	for range rows {
		codes *= 3
	}
	return max(0, (codes-3)/2)
}

// triple returns a code and those into which it turns. Each comparison has all
// three numbers once, so that they add up to none. All codes but those with the
// same number everywhere are in triples, and the opposites of a triple are
// another one: that is how most chips come together.
func triple(c code, rows int) []code {
	next := c.turned(rows)
	return []code{c, next, sum(c, next).opposite()}
}

// swing returns the code into which another one turns, and the opposite of that
// one. They add up to -2 where that one has 1, and to 1 in all other
// comparisons.
func swing(c code, rows int) []code {
	return []code{c.turned(rows), c.opposite()}
}

// start returns codes that add up to none, as many that with triples they are
// as many as the chips: none, 4 or 5. From only two triples they take so many,
// and the 5 a code that is in none of them: so enough triples are left, up to
// as many chips as can be. They need at least 3 comparisons.
func start(chips, rows int) []code {
	one := code{1}
	bent := one
	bent[rows-1] = -1
	ones := code{}.turned(rows)
	rest := sum(ones, one.opposite())
	switch chips % 3 {
	case 1:
		// Both have 1 in the first comparison only.
		return slices.Concat(swing(one, rows), each(code.opposite, swing(bent, rows)...))
	case 2:
		// In each comparison just one of both has 1, so that -1 is left.
		return slices.Concat(swing(bent, rows), swing(rest, rows), []code{ones})
	}
	return nil
}

func areFree(free map[code]bool, codes []code) bool {
	for _, c := range codes {
		if !free[c] {
			return false
		}
	}
	return true
}

// choose returns codes that add up to none, one for each chip; they and their
// opposites are all different, and none of them is that of no chip.
func choose(chips, rows int) []code {
	all := allCodes(rows)[1:]
	free := map[code]bool{}
	for _, c := range all {
		free[c] = true
	}
	var chosen []code
	take := func(codes ...code) {
		for _, c := range codes {
			chosen = append(chosen, c)
			delete(free, c)
			delete(free, c.opposite())
		}
	}
	take(start(chips, rows)...)
	for range (chips - len(chosen)) / 3 {
		c, _ := first(slices.Values(all), func(c code) bool { return areFree(free, triple(c, rows)) })
		take(triple(c, rows)...)
	}
	return chosen
}

// makePlan returns a plan with so many rows that tells all.
func makePlan(chips, rows int) api.AtlasPlan {
	g := page{api.AtlasPlan{Chips: chips}, choose(chips, rows)}
	for i := range rows {
		g.Rows = append(g.Rows, g.row(i))
	}
	return g.AtlasPlan
}
