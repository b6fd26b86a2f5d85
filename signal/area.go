package signal

import (
	"iter"
	"slices"

	"lampblack/api"
)

// area is what lies between some places, by its corners in order.
type area []place

// areaOf returns the area of one place or more.
func areaOf(places []place) area {
	order := inOrder(places)
	if len(order) == 1 {
		return order
	}
	lower := leftTurns(order)
	slices.Reverse(order)
	upper := leftTurns(order)
	// Each of the halves ends where the other one begins.
	low, up := len(lower)-1, len(upper)-1
	return append(lower[:low:low], upper[:up]...)
}

// leftTurns returns those of places in order from which one has all others on
// the left hand, or straight behind, on the way from the first to the last one.
func leftTurns(order []place) []place {
	var path []place
	for _, p := range order {
		for len(path) > 1 {
			last := len(path) - 1
			if cross(wayFrom(path[last-1], path[last]), wayFrom(path[last], p)) > 0 {
				break
			}
			path = path[:last]
		}
		path = append(path, p)
	}
	return path
}

// plus returns the area of all sums of a place of one area and one of another
// one: its corners are among the sums of theirs.
func (a area) plus(b area) area {
	sums := make([]place, 0, len(a)*len(b))
	for _, p := range a {
		for _, q := range b {
			sums = append(sums, sum(p, q))
		}
	}
	return areaOf(sums)
}

// points returns the corners of an area as points.
func (a area) points() []api.SignalPoint {
	points := make([]api.SignalPoint, len(a))
	for i, p := range a {
		points[i] = p.point()
	}
	return points
}

// sides yields the sides of an area, from corner to corner all round. A single
// place has one side, which leads nowhere.
func (a area) sides() iter.Seq[side] {
	return func(yield func(side) bool) {
		for i, from := range a {
			if !yield(side{from, a[(i+1)%len(a)]}) {
				return
			}
		}
	}
}

// reach returns the least and the greatest number that the corners of an area
// have along a way: what lies between them has none beyond these.
func (a area) reach(way place) api.Range {
	first := dot(way, a[0])
	r := api.Range{Lo: first, Hi: first}
	for _, p := range a[1:] {
		n := dot(way, p)
		r.Lo, r.Hi = min(r.Lo, n), max(r.Hi, n)
	}
	return r
}

// holds reports whether a light is in an area.
func (a area) holds(l light) bool {
	// A straight piece, or a single place, has all places that are straight
	// before or behind it on its left hand, too: the axes cut them off.
	for _, axis := range [...]place{{1, 0}, {0, 1}} {
		r := a.reach(axis)
		if !isFrom(dot(axis, l.at), r.Lo*l.den, r.Hi*l.den) {
			return false
		}
	}
	for s := range a.sides() {
		if !s.keeps(l) {
			return false
		}
	}
	return true
}

// side is a side of an area, which has the area on its left hand.
type side struct {
	from, to place
}

// way returns the way along a side.
func (s side) way() place { return wayFrom(s.from, s.to) }

// start returns the corner from which a side leads.
func (s side) start() place { return s.from }

// inward returns the way from a side straight into its area.
func (s side) inward() place {
	along := s.way()
	return place{-along[1], along[0]}
}

// keeps reports whether a light is not on the right hand of a side.
func (s side) keeps(l light) bool {
	return cross(s.way(), wayFrom(times(l.den)(s.from), l.at)) >= 0
}

// light is a place whose coordinates are divided by a number above 0, since
// where two sides cross is not always a whole number.
type light struct {
	at  place
	den int64
}

// lightAt returns a place as a light.
func lightAt(p place) light { return light{p, 1} }
