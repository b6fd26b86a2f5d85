package signal

import (
	"slices"

	"lampblack/api"
)

// place is a place of the diagram, or the way from one place to another one.
type place [2]int64

// placeOf returns a point as a place.
func placeOf(p api.SignalPoint) place { return place{p.X, p.Y} }

// placesOf returns points as places.
func placesOf(points []api.SignalPoint) []place {
	places := make([]place, len(points))
	for i, p := range points {
		places[i] = placeOf(p)
	}
	return places
}

// point returns a place as a point.
func (p place) point() api.SignalPoint { return api.SignalPoint{X: p[0], Y: p[1]} }

// sum returns the sum of places, coordinate by coordinate.
func sum(places ...place) place {
	var all place
	for _, p := range places {
		for axis, n := range p {
			all[axis] += n
		}
	}
	return all
}

// times returns what multiplies places by a number.
func times(n int64) func(place) place {
	return func(p place) place { return place{n * p[0], n * p[1]} }
}

// wayFrom returns the way from one place to another one.
func wayFrom(from, to place) place { return sum(to, times(-1)(from)) }

// dot returns how far one way leads along another one, times the length of it.
func dot(a, b place) int64 { return a[0]*b[0] + a[1]*b[1] }

// cross is above 0 just if one turns left from one way to another one.
func cross(a, b place) int64 { return a[0]*b[1] - a[1]*b[0] }

// inOrder returns places by their first coordinate, and those that have the
// same one by their second one, each of them once.
func inOrder[P ~[2]int64](places []P) []P {
	order := make([]P, len(places))
	copy(order, places)
	slices.SortFunc(order, func(a, b P) int { return slices.Compare(a[:], b[:]) })
	return slices.Compact(order)
}
