package bench

import (
	"iter"

	"lampblack/api"
)

// isRow reports whether a row can have so many lamps.
func isRow(lamps int) bool { return isFrom(lamps, 2, api.MaxBenchLamps) }

// takeOver returns a programme in memory of its own.
func takeOver(p []api.BenchPair) []api.BenchPair {
	own := make([]api.BenchPair, len(p))
	copy(own, p)
	return own
}

// runRound returns the pairs that have to wait for a later round than the next
// one, in place of those that it was given. A pair takes its places even if it
// waits: those after it must not overtake it.
func runRound(rest []api.BenchPair, taken []bool) []api.BenchPair {
	later := rest[:0:len(rest)]
	for _, q := range rest {
		if taken[q.Left] || taken[q.Right] {
			later = append(later, q)
		}
		taken[q.Left], taken[q.Right] = true, true
	}
	return later
}

// sift yields, with their indexes, the pairs of a programme that exchange lamps
// on some row, or those that never do. Rows of dark and bright lamps suffice: a
// lamp that is brighter than another one is still so if just those lamps are
// bright that have at least its power.
func sift(lamps int, p []api.BenchPair, exchanging bool) iter.Seq2[int, api.BenchPair] {
	return func(yield func(int, api.BenchPair) bool) {
		b := newBench(lamps)
		for i, q := range p {
			// Just after an equal pair there is nothing left to exchange.
			again := i > 0 && p[i-1] == q
			exchanges := !again && b.exchanges(q)
			if exchanges {
				b.run(q)
			}
			if exchanges == exchanging && !yield(i, q) {
				return
			}
		}
	}
}

// growing is a programme for so many lamps that grows by Batcher's merging.
type growing struct {
	lamps int
	pairs []api.BenchPair
}

// add adds a pair. At places beyond the row one may think of lamps that are
// darker than all others: none is ever exchanged, so their pairs are left out.
func (g *growing) add(left, right int) {
	if right < g.lamps {
		g.pairs = append(g.pairs, api.BenchPair{Left: left, Right: right})
	}
}

// order adds pairs that put a power of 2 of places, from first on, in order.
func (g *growing) order(first, places int) {
	if places == 1 {
		return
	}
	half := places / 2
	g.order(first, half)
	g.order(first+half, half)
	g.merge(first, first+places, 1)
}

// merge adds pairs that put every so many-th place from first up to end in
// order, if both halves of these places are in order. Once each second one of
// them is in order with its like, only neighbours can be the wrong way round.
func (g *growing) merge(first, end, step int) {
	if first+2*step >= end {
		g.add(first, first+step)
		return
	}
	g.merge(first, end, 2*step)
	g.merge(first+step, end, 2*step)
	for i := first + step; i+step < end; i += 2 * step {
		g.add(i, i+step)
	}
}
