package metamer

import "lampblack/api"

// spectrum has a number for each band; those that a palette does not have are 0.
type spectrum [api.MaxMetamerBands]int64

// taken returns the spectrum of so many numbers as a palette has bands.
func taken(numbers []int64) spectrum {
	var s spectrum
	bands := len(numbers)
	copy(s[:bands:bands], numbers)
	return s
}

func (s spectrum) plus(other spectrum) spectrum {
	for band, n := range other {
		s[band] += n
	}
	return s
}

// isNear reports whether a light differs from the spectrum of a set by at most
// a number in each band. A light can have any numbers, so that no difference is
// taken.
func (s spectrum) isNear(light spectrum, most int64) bool {
	for band, n := range s {
		if !isFrom(light[band], n-most, n+most) {
			return false
		}
	}
	return true
}

func bandsOf(p api.MetamerPalette) int { return len(p.Pigments[0]) }

// sets returns how many sets of pigments there are.
func sets(p api.MetamerPalette) int { return 1 << len(p.Pigments) }

// mix returns the spectrum of a set.
func mix(p api.MetamerPalette, set int) spectrum {
	var s spectrum
	for i, pigment := range p.Pigments {
		if set>>i&1 == 1 {
			s = s.plus(taken(pigment))
		}
	}
	return s
}

// pair is two sets, the first one less; its zero value is none.
type pair struct {
	first, second int
}

func (q pair) isLess(other pair) bool {
	return q.first < other.first || q.first == other.first && q.second < other.second
}

// least returns the least one of several values, or the zero value if there are
// none.
func least[T any](values []T, isLess func(one, two T) bool) T {
	var best T
	for i, v := range values {
		if i == 0 || isLess(v, best) {
			best = v
		}
	}
	return best
}

// cell is a square of spectra by their numbers in the first band and in the last
// one. It is so wide that sets that clash are in one cell, or in two cells that
// touch. More bands would not pay: each of them makes three times as many cells
// that touch.
type cell struct {
	first, last int64
}

// touching returns a cell and those around it.
func (c cell) touching() [9]cell {
	var around [9]cell
	for i := range around {
		step := int64(i)
		around[i] = cell{c.first + step/3 - 1, c.last + step%3 - 1}
	}
	return around
}

// grid keeps the sets of a palette by their cells, in each cell increasing.
type grid struct {
	api.MetamerPalette
	spectra []spectrum
	sets    map[cell][]int
}

func newGrid(p api.MetamerPalette) grid {
	g := grid{MetamerPalette: p, sets: map[cell][]int{}}
	for set := range sets(p) {
		g.spectra = append(g.spectra, mix(p, set))
		home := g.home(set)
		g.sets[home] = append(g.sets[home], set)
	}
	return g
}

// home returns the cell of a set.
func (g grid) home(set int) cell {
	wide := 2*g.Error + 1
	s := g.spectra[set]
	return cell{s[0] / wide, s[bandsOf(g.MetamerPalette)-1] / wide}
}

// take takes the least set out of the grid.
func (g grid) take(set int) {
	home := g.home(set)
	g.sets[home] = g.sets[home][1:]
	if len(g.sets[home]) == 0 {
		delete(g.sets, home)
	}
}

// clashes returns the pairs of a set and, for each cell, the least set in it
// that clashes with that one.
func (g grid) clashes(set int) []pair {
	var found []pair
search:
	for _, c := range g.home(set).touching() {
		for _, other := range g.sets[c] {
			if g.spectra[set].isNear(g.spectra[other], 2*g.Error) {
				found = append(found, pair{set, other})
				continue search
			}
		}
	}
	return found
}

// findClash returns the least pair of sets that clash, or none. Sets are taken
// out of the grid in their order, so that only greater ones are left in it.
func findClash(p api.MetamerPalette) pair {
	g := newGrid(p)
	var found pair
	for set := 0; set < sets(p) && found == (pair{}); set++ {
		g.take(set)
		found = least(g.clashes(set), pair.isLess)
	}
	return found
}
