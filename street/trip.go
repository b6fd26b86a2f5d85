package street

import (
	"iter"

	"lampblack/api"
)

// The cheapest choice is made by trips from the start of the street to its end,
// after each of which every place is lit by one post more. One goes on by a post
// that does not stand, which is put up and paid for, and back by a post that
// stands, which is taken away and paid back. On foot one goes back anywhere,
// since several posts of a trip can light the same place, and on only where a
// place is lit by more posts than there were trips. If each trip is the cheapest
// one that there is, so is the choice after it.

// far is more than any trip costs. It stands for what it costs to come to a
// place to which no way is found yet. Ways from there do no harm: all places are
// reached in the end, for much less.
const far int64 = api.MaxNumber

// costs is what it costs to come to each place, and to the end of the street,
// which is numbered as the place behind the last one.
type costs [api.MaxStreetPlaces + 1]int64

// prices returns by how much more it costs to come behind each of so many places
// than to the place itself. After the last trip they prove that the choice is
// the cheapest one: no place costs less than 0, since one goes back on foot, and
// one that is lit by more posts than it has to be costs 0; together the places
// that a post lights cost at least as much as the post if it stands, and at most
// as much if it does not.
func (c costs) prices(places int) []int64 {
	prices := make([]int64, places)
	for place := range prices {
		prices[place] = c[place+1] - c[place]
	}
	return prices
}

// way leads from one place to another one, by a post or, if that is none, on
// foot.
type way struct {
	from, to int
	cost     int64
	post     post
}

// wayBy returns the way that leads by a post.
func (s road) wayBy(p post) way {
	if s.stands[p.number] {
		return way{p.end, p.first, -p.cost, p}
	}
	return way{p.first, p.end, p.cost, p}
}

// ways yields all ways that one can go after so many trips.
func (s road) ways(trips int) iter.Seq[way] {
	return func(yield func(way) bool) {
		for place, n := range s.lit() {
			next := place + 1
			if !yield(way{from: next, to: place}) {
				return
			}
			if n > trips && !yield(way{from: place, to: next}) {
				return
			}
		}
		for number := range s.Posts {
			p := s.post(number)
			if p != (post{}) && !yield(s.wayBy(p)) {
				return
			}
		}
	}
}

// search returns what it costs at least to come to each place after so many
// trips, and by which way one comes there.
func (s road) search(trips int) (costs, map[int]way) {
	var now, before costs
	for place := range s.Places {
		now[place+1] = far
	}
	came := map[int]way{}
	total := func(w way) int64 { return now[w.from] + w.cost }
	for now != before {
		before = now
		for w := range s.ways(trips) {
			stay := way{from: w.to, to: w.to}
			if least(total, stay, w) == w {
				now[w.to] = total(w)
				came[w.to] = w
			}
		}
	}
	return now, came
}

// follow goes the ways by which one came to the end of the street, from there
// back to its start, and puts up posts, or takes them away.
func (s *road) follow(came map[int]way) {
	at := s.Places
	for at != 0 {
		w := came[at]
		delete(came, at)
		if w.post != (post{}) {
			s.stands[w.post.number] = !s.stands[w.post.number]
		}
		at = w.from
	}
}

// cheapest returns a valid street on which a choice stands that costs as little
// as any that holds, and what it cost to come to each place on the last trip.
// All posts together have to hold, so that each trip comes to the end.
func cheapest(r api.StreetRoad) (road, costs) {
	s := newRoad(r, nil)
	var last costs
	for trips := range s.Dead + 1 {
		now, came := s.search(trips)
		s.follow(came)
		last = now
	}
	return s, last
}

// least returns the first one of several values that costs the least.
func least[T any](cost func(T) int64, first T, others ...T) T {
	found := first
	for _, v := range others {
		if cost(v) < cost(found) {
			found = v
		}
	}
	return found
}
