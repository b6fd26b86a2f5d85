package street_test

import (
	"iter"
	"math/rand"
	"slices"
	"testing"

	"lampblack/api"
	"lampblack/street"
)

// The definitions of the chapter, as plainly as they can be written.

func lights(r api.StreetRoad, number, place int) bool {
	p := r.Posts[number]
	return p.From+r.Dirt <= place && place <= p.To-r.Dirt
}

// litBy returns by how many of some posts a place is lit.
func litBy(r api.StreetRoad, posts []int, place int) int {
	n := 0
	for _, number := range posts {
		if lights(r, number, place) {
			n++
		}
	}
	return n
}

func isChoice(r api.StreetRoad, choice []int) bool {
	for i, number := range choice {
		if number < 0 || number >= len(r.Posts) || i > 0 && choice[i-1] >= number {
			return false
		}
	}
	return true
}

func holds(r api.StreetRoad, choice []int) bool {
	for place := range r.Places {
		if litBy(r, choice, place) < r.Dead+1 {
			return false
		}
	}
	return true
}

func costOf(r api.StreetRoad, choice []int) int64 {
	n := int64(0)
	for _, number := range choice {
		n += r.Posts[number].Cost
	}
	return n
}

// isDark reports whether a place with dead posts is a dark place of a choice.
func isDark(r api.StreetRoad, choice []int, place int, dead []int) bool {
	if place < 0 || place >= r.Places || len(dead) > r.Dead || !isChoice(r, dead) {
		return false
	}
	for _, number := range dead {
		if !slices.Contains(choice, number) {
			return false
		}
	}
	others := slices.DeleteFunc(slices.Clone(choice), func(n int) bool { return slices.Contains(dead, n) })
	return litBy(r, others, place) == 0
}

func arePrices(r api.StreetRoad, l []int64) bool {
	for _, n := range l {
		if n < 0 || n > mostPrice {
			return false
		}
	}
	return len(l) == r.Places
}

func boundOf(r api.StreetRoad, l []int64) int64 {
	bound := int64(0)
	for _, n := range l {
		bound += n * int64(r.Dead+1)
	}
	for number, p := range r.Posts {
		all := int64(0)
		for place, n := range l {
			if lights(r, number, place) {
				all += n
			}
		}
		if all > p.Cost {
			bound -= all - p.Cost
		}
	}
	return bound
}

// part returns the numbers whose bits are set.
func part(bits int) []int {
	var l []int
	for i := 0; bits>>i > 0; i++ {
		if bits>>i&1 == 1 {
			l = append(l, i)
		}
	}
	return l
}

// choices yields all choices of so many posts.
func choices(posts int) iter.Seq[[]int] {
	return func(yield func([]int) bool) {
		for bits := range 1 << posts {
			if !yield(part(bits)) {
				return
			}
		}
	}
}

// leastOf returns the least that a choice that holds costs, by all choices, or
// -1 if none holds.
func leastOf(r api.StreetRoad) int64 {
	least := int64(-1)
	for choice := range choices(len(r.Posts)) {
		if n := costOf(r, choice); holds(r, choice) && (least < 0 || n < least) {
			least = n
		}
	}
	return least
}

// ends is where the light of the chosen posts that reach farthest ends, the
// farthest one first: as many posts as have to light each place.
type ends [mostDead + 1]int

// leastBySweep returns the same as leastOf for a street of any size. Posts are
// taken by where their light begins, so that all places before the next one have
// to be lit by those that reach farthest.
func leastBySweep(r api.StreetRoad) int64 {
	all := slices.DeleteFunc(numbers(len(r.Posts)), func(n int) bool {
		return r.Posts[n].From+r.Dirt > r.Posts[n].To-r.Dirt
	})
	slices.SortFunc(all, func(a, b int) int { return r.Posts[a].From - r.Posts[b].From })
	now := map[ends]int64{{-1, -1, -1}: 0}
	for _, number := range all {
		p := r.Posts[number]
		next := map[ends]int64{}
		keep := func(e ends, cost int64) {
			if old, is := next[e]; !is || cost < old {
				next[e] = cost
			}
		}
		for e, cost := range now {
			if e[r.Dead] < p.From+r.Dirt-1 {
				continue
			}
			keep(e, cost)
			l := append(slices.Clone(e[:]), p.To-r.Dirt)
			slices.Sort(l)
			slices.Reverse(l)
			keep(ends(l[:mostDead+1]), cost+p.Cost)
		}
		now = next
	}
	least := int64(-1)
	for e, cost := range now {
		if e[r.Dead] >= r.Places-1 && (least < 0 || cost < least) {
			least = cost
		}
	}
	return least
}

// someRoad returns a valid street with at most so many places and posts.
func someRoad(chance *rand.Rand, places, posts, dirt, cost int) api.StreetRoad {
	r := road(1+chance.Intn(places), chance.Intn(mostDead+1), chance.Intn(dirt+1))
	for range chance.Intn(posts + 1) {
		from, to := chance.Intn(r.Places), chance.Intn(r.Places)
		r.Posts = append(r.Posts, post(min(from, to), max(from, to), int64(chance.Intn(cost+1))))
	}
	return r
}

// litRoad returns a street that mostly is lit by all of its posts together: some
// lines of posts lie end to end, or overlap.
func litRoad(chance *rand.Rand, places, posts, cost int) api.StreetRoad {
	r := road(1+chance.Intn(places), chance.Intn(mostDead+1), 0)
	for len(r.Posts) < posts && chance.Intn(30) > 0 {
		for at := 0; at < r.Places && len(r.Posts) < posts; {
			to := min(r.Places-1, at+chance.Intn(r.Places))
			r.Posts = append(r.Posts, post(max(0, at-chance.Intn(3)), to, int64(chance.Intn(cost+1))))
			at = to + 1
		}
	}
	chance.Shuffle(len(r.Posts), func(i, j int) { r.Posts[i], r.Posts[j] = r.Posts[j], r.Posts[i] })
	return r
}

// someRoads returns streets of all sizes.
func someRoads(seed int64, n int) []api.StreetRoad {
	chance := rand.New(rand.NewSource(seed))
	l := []api.StreetRoad{roadS(0, 0), roadS(1, 0), roadS(2, 0), roadS(0, 1), roadT(1), road(1, 0, 0)}
	for len(l) < n {
		cost := []int{1, 9, mostCost}[chance.Intn(3)]
		l = append(l, someRoad(chance, mostPlaces, mostPosts, mostDirt, cost),
			litRoad(chance, mostPlaces, mostPosts, cost), litRoad(chance, 8, mostPosts, cost))
	}
	return l
}

// seeLeast sees to it that the cheapest choice costs so much, or that there is
// none, for -1.
func seeLeast(t *testing.T, r api.StreetRoad, least int64) {
	t.Helper()
	choice, n, e := cheapest(t, r)
	l, pe := prices(t, r)
	if e != pe || (e == api.OK) != (least >= 0) || e != api.OK && e != api.ErrDark {
		t.Error(r, least, e, pe)
	}
	if e != api.OK {
		return
	}
	if n != least {
		t.Error(r, choice, n, least)
	}
	seeCheapest(t, r, choice, n, l)
}

// smallRoads yields all streets with up to 3 places and so many posts, with costs
// up to 1, none of which comes before the one before it in some order.
func smallRoads(posts int) iter.Seq[api.StreetRoad] {
	return func(yield func(api.StreetRoad) bool) {
		for places := 1; places <= 3; places++ {
			var kinds []api.StreetPost
			for from := range places {
				for to := from; to < places; to++ {
					kinds = append(kinds, post(from, to, 0), post(from, to, 1))
				}
			}
			for l := range rising(len(kinds), posts) {
				var some []api.StreetPost
				for _, kind := range l {
					some = append(some, kinds[kind])
				}
				for dead := range mostDead + 1 {
					for dirt := range 2 {
						if !yield(road(places, dead, dirt, some...)) {
							return
						}
					}
				}
			}
		}
	}
}

// rising yields all lists of so many numbers below another one, none of them
// less than the one before it.
func rising(below, length int) iter.Seq[[]int] {
	return func(yield func([]int) bool) {
		if length == 0 {
			yield(nil)
			return
		}
		for l := range rising(below, length-1) {
			first := 0
			if len(l) > 0 {
				first = l[len(l)-1]
			}
			for n := first; n < below; n++ {
				if !yield(append(slices.Clone(l), n)) {
					return
				}
			}
		}
	}
}

// P7.4, P7.5: all small streets.
func TestAllSmallRoads(t *testing.T) {
	for posts := range 5 {
		for r := range smallRoads(posts) {
			seeLeast(t, r, leastOf(r))
		}
	}
}

// P7.4, P7.5: streets of which all choices can be tried.
func TestAllChoices(t *testing.T) {
	chance := rand.New(rand.NewSource(1))
	lit := 0
	for i := range 3000 {
		r := someRoad(chance, 6, 9, 1, 1+i%7)
		if i%2 == 0 {
			r = litRoad(chance, 7, 10, 1+i%9)
		}
		least := leastOf(r)
		if least != leastBySweep(r) {
			t.Fatal(r, least, leastBySweep(r))
		}
		if least >= 0 {
			lit++
		}
		seeLeast(t, r, least)
	}
	if lit < 800 {
		t.Error(lit)
	}
}

// P7.4, P7.5: streets of all sizes.
func TestAllSizes(t *testing.T) {
	lit := 0
	for _, r := range someRoads(2, 1500) {
		least := leastBySweep(r)
		if least >= 0 {
			lit++
		}
		seeLeast(t, r, least)
	}
	if lit < 500 {
		t.Error(lit)
	}
}

// P7.2, P7.3: all choices of small streets.
func TestEachChoice(t *testing.T) {
	chance := rand.New(rand.NewSource(3))
	for range 400 {
		r := someRoad(chance, 5, 5, 1, 9)
		if chance.Intn(2) == 0 {
			r = litRoad(chance, 5, 6, 9)
		}
		for choice := range choices(len(r.Posts)) {
			seeChoice(t, r, choice)
			for place := range r.Places {
				for dead := range choices(len(r.Posts)) {
					seeDead(t, r, choice, place, dead)
				}
			}
		}
	}
}

// seeChoice sees to it that what is told of a choice is so.
func seeChoice(t *testing.T, r api.StreetRoad, choice []int) {
	t.Helper()
	want := make([]int, r.Places)
	for place := range want {
		want[place] = litBy(r, choice, place)
	}
	if l, e := lit(t, r, choice); !slices.Equal(l, want) || e != api.OK {
		t.Error(r, choice, l, e)
	}
	n, e := check(t, r, choice)
	place, dead, de := dark(t, r, choice)
	if holds(r, choice) {
		if n != costOf(r, choice) || e != api.OK || de != api.ErrNone {
			t.Error(r, choice, n, e, place, dead, de)
		}
		return
	}
	if e != api.ErrDark || de != api.OK || !isDark(r, choice, place, dead) {
		t.Error(r, choice, n, e, place, dead, de)
	}
}

// seeDead sees to it that it is told whether a place is dark.
func seeDead(t *testing.T, r api.StreetRoad, choice []int, place int, dead []int) {
	t.Helper()
	want := api.ErrSum
	if len(dead) > r.Dead || slices.ContainsFunc(dead, func(n int) bool { return !slices.Contains(choice, n) }) {
		want = api.ErrRange
	} else if isDark(r, choice, place, dead) {
		want = api.OK
	}
	if e := street.CheckDark(r, choice, place, dead); e != want {
		t.Error(r, choice, place, dead, e, want)
	}
}

// P7.2, P7.3: streets and choices of all sizes.
func TestSomeChoices(t *testing.T) {
	chance := rand.New(rand.NewSource(4))
	kept := 0
	for _, r := range someRoads(5, 900) {
		for range 4 {
			often := 1 + chance.Intn(9)
			choice := slices.DeleteFunc(numbers(len(r.Posts)), func(int) bool { return chance.Intn(often) == 0 })
			if often == 1 {
				choice = numbers(len(r.Posts))
			}
			seeChoice(t, r, choice)
			if holds(r, choice) {
				kept++
			}
			dead := slices.DeleteFunc(slices.Clone(choice), func(int) bool { return chance.Intn(20) > 0 })
			seeDead(t, r, choice, chance.Intn(r.Places), dead)
		}
	}
	if kept < 300 {
		t.Error(kept)
	}
}

// somePrices returns prices of all sizes, many of them 0.
func somePrices(chance *rand.Rand, places int) []int64 {
	l := make([]int64, places)
	most := []int64{1, 9, mostCost, mostPrice}[chance.Intn(4)]
	for place := range l {
		if chance.Intn(3) > 0 {
			l[place] = chance.Int63n(most + 1)
		}
	}
	return l
}

// P7.5
func TestSomePrices(t *testing.T) {
	chance := rand.New(rand.NewSource(6))
	for _, r := range someRoads(7, 900) {
		for range 10 {
			l := somePrices(chance, r.Places)
			if n, e := checkPrices(t, r, l); n != boundOf(r, l) || e != api.OK {
				t.Error(r, l, n, e)
			}
		}
	}
}
