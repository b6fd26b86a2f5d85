package dye

import (
	"iter"
	"slices"

	"lampblack/api"
)

// cost is what recipes with some bands cost at least. If there is none, it is
// cost{}.
type cost struct {
	known bool
	pence int64
}

// number returns a cost as a table has it.
func (c cost) number() int64 {
	if !c.known {
		return api.MaxNumber
	}
	return c.pence
}

// row is the costs for one number of the first band.
type row [side]cost

// vat is the costs of all recipes of some dyes, by their bands, and for each
// state but state{} the dye whose grain came last in the cheapest one.
type vat struct {
	costs [side]row
	last  map[state]dye
}

// newVat returns a vat that is not filled yet.
func newVat() *vat { return &vat{last: map[state]dye{}} }

// fill empties a vat, and puts the dyes of a valid shelf in that are fast enough.
func (v *vat) fill(l []api.DyeKind, fast int) {
	clear(v.costs[:])
	clear(v.last)
	v.costs[0][0] = cost{known: true}
	for d := range dyesOf(l, fastness(fast).allows) {
		v.add(d)
	}
}

// add puts a dye in. A grain leads to a state that comes later, so that each state
// gets as many grains of the dye as are worth it. Only a cheaper way replaces the
// dye that came last: where a state is made cheaper afterwards, so are all states
// to which its grains lead, and going back leads through the costs that are kept.
func (v *vat) add(d dye) {
	all := wholeArea()
	for from := range v.states() {
		to := from.with(d, 1)
		if !all.holds(to) {
			continue
		}
		pence := v.at(from).pence + d.Price
		if pence < v.at(to).number() {
			v.costs[to.x][to.y] = cost{known: true, pence: pence}
			v.last[to] = d
		}
	}
}

// at returns the cost for a state.
func (v *vat) at(s state) cost { return v.costs[s.x][s.y] }

// states yields the states for which there is a recipe, in the order in which a
// table has them. It goes on to such as get one meanwhile, if they come later.
func (v *vat) states() iter.Seq[state] {
	return func(yield func(state) bool) {
		for x := range side {
			if v.costs[x] == (row{}) {
				continue
			}
			for y := range side {
				s := state{int64(x), int64(y)}
				if v.at(s).known && !yield(s) {
					return
				}
			}
		}
	}
}

// cheapest returns the first one of the cheapest states of an area. If there is
// no recipe for it, there is none for the area.
func (v *vat) cheapest(a area) state {
	number := func(s state) int64 { return v.at(s).number() }
	return least(number, slices.Collect(a.states()))
}

// tooNarrow returns by how much an area has to be wider, so that there is a
// recipe for it. The widest one holds state{}, for which there always is one.
func (v *vat) tooNarrow(a area) int64 {
	by := int64(0)
search:
	for ; by < api.MaxDyeBand; by++ {
		wide := a.wider(by)
		for s := range v.states() {
			if wide.holds(s) {
				break search
			}
		}
	}
	return by
}

// takeOut takes the grains of the cheapest recipe for a state out of a vat. There
// has to be one.
func (v *vat) takeOut(s state) grains {
	var g grains
	for s != (state{}) {
		d := v.last[s]
		delete(v.last, s)
		g[d.number]++
		s = s.with(d, -1)
	}
	return g
}
