package dye

import (
	"iter"

	"lampblack/api"
)

// dye is a dye of a shelf, with its number.
type dye struct {
	api.DyeKind
	number int
}

// dyesOf yields the dyes of a shelf that are wanted.
func dyesOf(l []api.DyeKind, isWanted func(dye) bool) iter.Seq[dye] {
	return func(yield func(dye) bool) {
		for number, kind := range l {
			d := dye{kind, number}
			if isWanted(d) && !yield(d) {
				return
			}
		}
	}
}

// fastness is how fast each dye of a recipe has to be.
type fastness int

// allows reports whether a dye may be used.
func (f fastness) allows(d dye) bool { return d.Fast >= int(f) }

// grains is how many grains of each dye a recipe has, by the numbers of the dyes.
// Of numbers that no dye of its shelf has there is no grain.
type grains [api.MaxDyes]int64

// newGrains returns the grains of a recipe of a valid shelf.
func newGrains(recipe []int64) grains {
	var g grains
	copy(g[:], recipe)
	return g
}

// recipe returns grains as a recipe of a shelf.
func (g grains) recipe(l []api.DyeKind) []int64 {
	recipe := make([]int64, len(l))
	copy(recipe, g[:])
	return recipe
}

// has reports whether there is a grain of a dye.
func (g grains) has(d dye) bool { return g[d.number] > 0 }

// mix returns what grains add up to, and what they cost.
func (g grains) mix(l []api.DyeKind) (state, int64) {
	var bands state
	var pence int64
	for d := range dyesOf(l, g.has) {
		bands = bands.with(d, g[d.number])
		pence += g[d.number] * d.Price
	}
	return bands, pence
}
