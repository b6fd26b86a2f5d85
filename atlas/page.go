package atlas

import (
	"iter"

	"lampblack/api"
)

// page is a plan with the codes of its chips.
type page struct {
	api.AtlasPlan
	codes []code
}

func newPage(p api.AtlasPlan) page {
	g := page{p, make([]code, p.Chips)}
	for i, row := range g.Rows {
		for chip, n := range row {
			g.codes[chip][i] = n
		}
	}
	return g
}

// cases yields all cases in order.
func (g page) cases() iter.Seq[api.AtlasCase] {
	return func(yield func(api.AtlasCase) bool) {
		if !yield(api.AtlasCase{}) {
			return
		}
		for chip := range g.Chips {
			for _, shade := range [2]int{-1, 1} {
				if !yield(api.AtlasCase{Chip: chip, Shade: shade}) {
					return
				}
			}
		}
	}
}

// seen returns what is seen in a case.
func (g page) seen(c api.AtlasCase) code { return g.codes[c.Chip].times(c.Shade) }

// casesOf returns all cases in which just this is seen.
func (g page) casesOf(what code) []api.AtlasCase {
	var list []api.AtlasCase
	for c := range g.cases() {
		if g.seen(c) == what {
			list = append(list, c)
		}
	}
	return list
}

// clash returns two cases in which the same is seen, or twice the same case if
// there are none.
func (g page) clash() (a, b api.AtlasCase) {
search:
	for later := range g.cases() {
		for earlier := range g.cases() {
			if earlier == later {
				continue search
			}
			if g.seen(earlier) == g.seen(later) {
				a, b = earlier, later
				break search
			}
		}
	}
	return a, b
}

// row returns the row of a comparison, as the codes have it.
func (g page) row(i int) []int {
	var row [api.MaxAtlasChips]int
	for chip, c := range g.codes {
		row[chip] = c[i]
	}
	return row[:g.Chips:g.Chips]
}
