package zone

import (
	"iter"

	"lampblack/api"
)

// lights has a light for each degree from the first angle on.
type lights [api.MaxZoneTurn + 1]int64

// bounds tells between which lights a lantern can be. Of two true lanterns both
// the greater lights and the lesser ones are true lanterns, too; so all the
// greatest lights are one lantern, and all the least ones.
type bounds struct {
	lo, hi lights
}

// bounded is a lamp with its bounds.
type bounded struct {
	api.ZoneLamp
	bounds
}

// bound returns a valid lamp with its bounds, or ErrClash if it contradicts
// itself.
func bound(l api.ZoneLamp) (bounded, api.Errno) {
	if findDoubt(l) != (doubt{}) {
		return bounded{}, api.ErrClash
	}
	b := bounded{ZoneLamp: l}
	b.open()
	b.settle()
	return b, api.OK
}

// open takes back all bounds but those that were measured.
func (b *bounded) open() {
	clear(b.lo[:])
	for d := range b.hi {
		b.hi[d] = api.MaxZoneLight
	}
	for i, a := range b.Angles {
		b.narrow(index(b.ZoneLamp, a), b.Lights[i])
	}
}

// narrow bounds the light at a degree by a range.
func (b *bounded) narrow(d int, to api.Range) {
	b.lo[d], b.hi[d] = max(b.lo[d], to.Lo), min(b.hi[d], to.Hi)
}

// settle carries bounds across all gaps, until none changes: in a gap that
// comes later one may be found that matters for an earlier one.
func (b *bounded) settle() {
	for settled := false; !settled; {
		lo, hi := b.lo, b.hi
		for g := range gaps(b.ZoneLamp) {
			b.cross(g)
		}
		settled = b.lo == lo && b.hi == hi
	}
}

// cross carries bounds across a gap: no light is above the ones on its bright
// side, or below the ones on its dark side.
func (b *bounded) cross(g gap) {
	for d := g.bright; d != g.dark; d += g.step {
		b.hi[d+g.step] = min(b.hi[d+g.step], b.hi[d])
	}
	for d := g.dark; d != g.bright; d -= g.step {
		b.lo[d-g.step] = max(b.lo[d-g.step], b.lo[d])
	}
}

func (b *bounded) least(d int) int64    { return b.lo[d] }
func (b *bounded) greatest(d int) int64 { return b.hi[d] }

// at returns what the light can be at a degree.
func (b *bounded) at(d int) api.Range { return api.Range{Lo: b.lo[d], Hi: b.hi[d]} }

// span returns the least and the greatest flux.
func (b *bounded) span() api.Range {
	return api.Range{Lo: flux(b.ZoneLamp, b.least), Hi: flux(b.ZoneLamp, b.greatest)}
}

// lantern returns the lantern of an end, in memory of its own.
func (b *bounded) lantern(end func(int) int64) []int64 {
	var room lights
	list := room[:0:len(b.Weights)]
	for d := range b.Weights {
		list = append(list, end(d))
	}
	own := make([]int64, len(list))
	copy(own, list)
	return own
}

// widths yields by how much the greatest flux is above the least one after a
// test at a degree, for each number that matters: what is told below the least
// light, or above the greatest one, leaves no more than the nearest number that
// is yielded.
func (b *bounded) widths(d int, off int64) iter.Seq[int64] {
	return func(yield func(int64) bool) {
		after := *b
		possible := b.at(d)
		for m := possible.Lo; m <= max(possible.Lo, possible.Hi-off); m++ {
			after.open()
			after.narrow(d, api.Range{Lo: m, Hi: m + off})
			after.settle()
			span := after.span()
			if !yield(span.Hi - span.Lo) {
				return
			}
		}
	}
}
