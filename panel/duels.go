package panel

import (
	"slices"

	"lampblack/api"
)

// duels is, for each of some shades, those that it beats.
type duels struct {
	beats  [api.MaxPanelShades]row
	shades int
}

// newDuels returns what lists say of shades, of which each is one.
func newDuels(lists [][]int) duels {
	d := duels{shades: len(lists)}
	for shade, beaten := range lists {
		for _, other := range beaten {
			d.beats[shade][other] = true
		}
	}
	return d
}

// lists returns duels as they are given and returned.
func (d duels) lists() [][]int {
	lists := make([][]int, d.shades)
	for shade := range lists {
		lists[shade] = d.beats[shade].list()
	}
	return lists
}

// unsettled returns the shades that a shade beats, and that beat it, too, or
// neither. Itself it must not beat: it would have more wins than there are others.
func (d duels) unsettled(shade int) row {
	var r row
	for other := range d.shades {
		r[other] = d.beats[shade][other] == d.beats[other][shade]
	}
	r[shade] = d.beats[shade][shade]
	return r
}

// areSettled reports whether of each two different shades just one beats the other
// one, and none beats itself.
func (d duels) areSettled() bool {
	for shade := range d.shades {
		if d.unsettled(shade) != (row{}) {
			return false
		}
	}
	return true
}

// circles returns how many circles there are. Three shades are one if each of them
// beats the next one, or each the one before it.
func (d duels) circles() int {
	n := 0
	for p := range pairs(d.shades) {
		ahead := d.beats[p.deeper][p.paler]
		for last := p.paler + 1; last < d.shades; last++ {
			if d.beats[p.paler][last] == ahead && d.beats[last][p.deeper] == ahead {
				n++
			}
		}
	}
	return n
}

// order returns an order. Each shade comes in before the first one that it beats:
// the one before that is not beaten by it, and so beats it.
func (d duels) order() []int {
	room := make([]int, d.shades)
	grown := room[:0:len(room)]
	for shade := range d.shades {
		grown = slices.Insert(grown, first(grown, d.beats[shade].has), shade)
	}
	return taken(grown)
}

// areInOrder reports whether each shade of a list, but the last one, beats the next
// one.
func (d duels) areInOrder(list []int) bool {
	for i := 1; i < len(list); i++ {
		if !d.beats[list[i-1]][list[i]] {
			return false
		}
	}
	return true
}

// comes returns for each shade those to which one comes from it, from a shade to
// one that it beats, and so on.
func (d duels) comes() [api.MaxPanelShades]row {
	to := d.beats
	for through := range d.shades {
		for from := range d.shades {
			for end := range d.shades {
				to[from][end] = to[from][end] || to[from][through] && to[through][end]
			}
		}
	}
	return to
}

// grades returns the grades. An order goes from grade to grade, so that the first
// shade of it that is in none of the grades so far is in the next one.
func (d duels) grades() [][]int {
	to := d.comes()
	var graded row
	var grades [][]int
	for _, shade := range d.order() {
		if graded[shade] {
			continue
		}
		var grade row
		for other := range d.shades {
			if other == shade || to[shade][other] && to[other][shade] {
				grade[other], graded[other] = true, true
			}
		}
		grades = append(grades, grade.list())
	}
	return grades
}
