package street

import (
	"iter"

	"lampblack/api"
)

// post is a post whose lamp is dirty: it lights the places from first to the
// one before end. One that lights no place is none, which is post{}.
type post struct {
	number     int
	first, end int
	cost       int64
}

// lights reports whether a post lights a place.
func (p post) lights(place int) bool { return p.first <= place && place < p.end }

// road is a valid street with the posts that stand on it, by their numbers.
type road struct {
	api.StreetRoad
	stands [api.MaxStreetPosts]bool
}

// newRoad returns a valid street on which a choice stands.
func newRoad(r api.StreetRoad, choice []int) road {
	s := road{StreetRoad: r}
	for _, number := range choice {
		s.stands[number] = true
	}
	return s
}

// fullRoad returns a valid street on which all posts stand.
func fullRoad(r api.StreetRoad) road {
	s := road{StreetRoad: r}
	for number := range r.Posts {
		s.stands[number] = true
	}
	return s
}

// post returns a post of a street, or none if it lights no place.
func (s road) post(number int) post {
	p := s.Posts[number]
	first, end := p.From+s.Dirt, p.To-s.Dirt+1
	if first >= end {
		return post{}
	}
	return post{number, first, end, p.Cost}
}

// choice returns the numbers of the posts that stand.
func (s road) choice() []int {
	var numbers []int
	for number := range s.Posts {
		if s.stands[number] {
			numbers = with(numbers, number)
		}
	}
	return numbers
}

// cost returns what the posts that stand cost.
func (s road) cost() int64 {
	var costs []int64
	for _, number := range s.choice() {
		costs = with(costs, s.Posts[number].Cost)
	}
	return sum(costs...)
}

// places yields the places that are lit.
func (s road) places(isLit func(place int) bool) iter.Seq[int] {
	return func(yield func(int) bool) {
		for place := range s.Places {
			if isLit(place) && !yield(place) {
				return
			}
		}
	}
}

// lit returns for each place by how many of the posts that stand it is lit.
func (s road) lit() []int {
	lit := make([]int, s.Places)
	for _, number := range s.choice() {
		for place := range s.places(s.post(number).lights) {
			lit[place]++
		}
	}
	return lit
}

// dark returns the first dark place, and the posts that have to be dead for it;
// if there is none, the number of places, and no posts.
func (s road) dark() (int, []int) {
	place, dead := s.Places, []int(nil)
search:
	for at := range s.Places {
		var lighting []int
		for _, number := range s.choice() {
			if s.post(number).lights(at) {
				lighting = with(lighting, number)
			}
			if len(lighting) > s.Dead {
				continue search
			}
		}
		place, dead = at, lighting
		break search
	}
	return place, dead
}

// holds reports whether the posts that stand keep each place lit.
func (s road) holds() bool {
	place, _ := s.dark()
	return place == s.Places
}

// bound returns what a choice that holds costs at least by prices of the places.
func (s road) bound(prices []int64) int64 {
	bound := int64(s.Dead+1) * sum(prices...)
	for number := range s.Posts {
		p := s.post(number)
		var lit []int64
		for place := range s.places(p.lights) {
			lit = with(lit, prices[place])
		}
		bound -= max(0, sum(lit...)-p.cost)
	}
	return bound
}

// with returns a list that is longer by one element. It leaves alone what lies
// behind the list that it is given.
func with[T any](list []T, last T) []T {
	n := len(list)
	return append(list[:n:n], last)
}

// sum returns the sum of numbers.
func sum(numbers ...int64) int64 {
	var all int64
	for _, n := range numbers {
		all += n
	}
	return all
}
