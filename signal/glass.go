package signal

import "lampblack/api"

// signal is a valid glass with the corners of its area.
type signal struct {
	api.SignalGlass
	corners area
}

// newSignal returns a valid glass with its corners.
func newSignal(g api.SignalGlass) signal {
	s := signal{SignalGlass: g}
	s.corners = areaOf(placesOf(s.Points))
	for _, haze := range s.Hazes {
		s.corners = s.corners.plus(areaOf(placesOf(haze)))
	}
	return s
}

// waysTo returns the area of all ways from a place of one signal to one of
// another one: 0 0 is among them just if they clash.
func (s signal) waysTo(other signal) area {
	back := times(-1)
	away := make([]place, len(s.corners))
	for i, p := range s.corners {
		away[i] = back(p)
	}
	return other.corners.plus(areaOf(away))
}

// wayTo returns a way that is as straight as the shortest one from one signal
// to another one, and the least number that the ways between them have along
// it, which is above 0; if the signals clash there is none, and both are 0.
func (s signal) wayTo(other signal) (place, int64) {
	ways := s.waysTo(other)
	var found place
	var least int64
search:
	for edge := range ways.sides() {
		// The shortest way ends at a corner, or meets a side at right angles.
		for _, ask := range [...]func() place{edge.start, edge.inward} {
			way := ask()
			n := ways.reach(way).Lo
			// All ways have at least n along this one; so the one that has
			// just n, and leads straight along it, is the shortest one.
			if n > 0 && ways.holds(light{times(n)(way), dot(way, way)}) {
				found, least = way, n
				break search
			}
		}
	}
	return found, least
}

// both returns a light that is in the areas of two signals, or none, which has
// no number by which it is divided. A corner of what is in both areas is a
// corner of one of them, or where two sides cross.
func (s signal) both(other signal) light {
	for _, list := range [...]area{s.corners, other.corners} {
		for _, p := range list {
			if l := lightAt(p); s.corners.holds(l) && other.corners.holds(l) {
				return l
			}
		}
	}
	for a := range s.corners.sides() {
		for b := range other.corners.sides() {
			l := crossing(a, b)
			if l != (light{}) && s.corners.holds(l) && other.corners.holds(l) {
				return l
			}
		}
	}
	return light{}
}

// crossing returns the light where two sides cross, if they are made longer as
// far as needed, or none if the second one does not lead to the left of the
// first one. (What is in both areas has a corner at which one goes round it from
// a side of the first area on to one of the second one, and turns left.)
func crossing(a, b side) light {
	turn := cross(a.way(), b.way())
	if turn <= 0 {
		return light{}
	}
	far := cross(wayFrom(a.from, b.from), b.way())
	return light{sum(times(turn)(a.from), times(far)(a.way())), turn}
}

// pair is two signals of a code, the one before the other one.
type pair struct {
	one, other int
}

// clashesOf returns the pairs of a code that clash.
func clashesOf(code []api.SignalGlass) map[pair]bool {
	signals := make([]signal, len(code))
	for i, g := range code {
		signals[i] = newSignal(g)
	}
	clashes := make(map[pair]bool)
	for i, one := range signals {
		for j := i + 1; j < len(signals); j++ {
			if one.waysTo(signals[j]).holds(light{den: 1}) {
				clashes[pair{i, j}] = true
			}
		}
	}
	return clashes
}

// firstOf returns the first one of pairs, or none, whose signals are the same.
func firstOf(pairs map[pair]bool) pair {
	var first pair
	for p := range pairs {
		if first == (pair{}) || p.isBefore(first) {
			first = p
		}
	}
	return first
}

// isBefore reports whether a pair comes before another one.
func (p pair) isBefore(q pair) bool {
	if p.one == q.one {
		return p.other < q.other
	}
	return p.one < q.one
}

// ratio returns a number divided by another one above 0, in least terms.
func ratio(num, den int64) api.Ratio {
	a, b := num, den
	for b != 0 {
		a, b = b, a%b
	}
	return api.Ratio{Num: num / a, Den: den / a}
}
