package street_test

import (
	"math"
	"slices"
	"testing"

	"lampblack/api"
	"lampblack/street"
)

func copied(r api.StreetRoad) api.StreetRoad {
	r.Posts = slices.Clone(r.Posts)
	return r
}

// full returns a list with room behind it, in which something would be seen
// that is written there.
func full[T any](l []T, rest T) (part, room []T) {
	room = append(slices.Clone(l), rest, rest, rest)
	return room[:len(l)], room
}

// spoil writes to a list, and behind it.
func spoil[T any](l []T, rest T) {
	l = l[:cap(l)]
	for i := range l {
		l[i] = rest
	}
}

// callAll calls all functions.
func callAll(r api.StreetRoad, choice []int, place int, dead []int, l []int64) {
	street.CheckRoad(r)
	street.Lit(r, choice)
	street.Check(r, choice)
	street.Dark(r, choice)
	street.CheckDark(r, choice, place, dead)
	street.Cheapest(r)
	street.Prices(r)
	street.CheckPrices(r, l)
}

// R5: no argument is changed, nor what lies behind it.
func TestArgumentsAreKept(t *testing.T) {
	for _, r := range someRoads(31, 90) {
		posts, roomOfPosts := full(r.Posts, post(77, 77, 77))
		wantPosts := slices.Clone(roomOfPosts)
		r.Posts = posts
		for _, list := range [][]int{nil, numbers(len(posts)), numbers(len(posts) / 2)} {
			choice, room := full(list, 77)
			dead, roomOfDead := full(list[:min(len(list), r.Dead)], 77)
			l, roomOfPrices := full(make([]int64, r.Places), 77)
			want, wantDead, wantPrices := slices.Clone(room), slices.Clone(roomOfDead), slices.Clone(roomOfPrices)
			callAll(r, choice, 0, dead, l)
			if !slices.Equal(room, want) || !slices.Equal(roomOfDead, wantDead) || !slices.Equal(roomOfPrices, wantPrices) {
				t.Error(room, roomOfDead, roomOfPrices)
			}
		}
		if !slices.Equal(roomOfPosts, wantPosts) {
			t.Error(roomOfPosts)
		}
	}
}

// R4, R5: lists that are returned share no memory with an argument or with those
// of an equal call, and nothing of them is kept.
func TestResultsAreNew(t *testing.T) {
	for _, r := range someRoads(32, 300) {
		all := numbers(len(r.Posts))
		seeNew(t, 77, func() ([]int, bool) {
			l, e := street.Lit(r, all)
			return l, e == api.OK
		}, func(l []int) bool { return !slices.Contains(l, 77) })
		seeNew(t, 77, func() ([]int, bool) {
			_, dead, e := street.Dark(r, all)
			return dead, e == api.OK
		}, func(dead []int) bool { return isChoice(r, dead) })
		seeNew(t, 77, func() ([]int, bool) {
			choice, _, e := street.Cheapest(r)
			return choice, e == api.OK
		}, func(choice []int) bool { return isChoice(r, choice) && holds(r, choice) })
		seeNew(t, -77, func() ([]int64, bool) {
			l, e := street.Prices(r)
			return l, e == api.OK
		}, func(l []int64) bool { return arePrices(r, l) })
		if !slices.Equal(all, numbers(len(r.Posts))) {
			t.Error(r, all)
		}
	}
}

// seeNew sees to it that lists go on to be as they should if another one that
// was returned is spoiled.
func seeNew[T comparable](t *testing.T, rest T, call func() ([]T, bool), isAsShould func([]T) bool) {
	t.Helper()
	one, is := call()
	if !is {
		return
	}
	two, _ := call()
	was := slices.Clone(two)
	spoil(one, rest)
	three, _ := call()
	if !slices.Equal(two, was) || !isAsShould(two) || !isAsShould(three) {
		t.Error(one, two, three)
	}
}

// result is what is said of all that functions return.
type result struct {
	lit   []int
	cost  int64
	least int64
	bound int64
	e     [8]api.Errno
}

func results(r api.StreetRoad, choice, dead []int, l []int64) (x result) {
	x.e[0] = street.CheckRoad(r)
	x.lit, x.e[1] = street.Lit(r, choice)
	x.cost, x.e[2] = street.Check(r, choice)
	_, _, x.e[3] = street.Dark(r, choice)
	x.e[4] = street.CheckDark(r, choice, 0, dead)
	_, x.least, x.e[5] = street.Cheapest(r)
	_, x.e[6] = street.Prices(r)
	x.bound, x.e[7] = street.CheckPrices(r, l)
	return x
}

func (x result) equals(y result) bool {
	return slices.Equal(x.lit, y.lit) && x.cost == y.cost && x.least == y.least && x.bound == y.bound && x.e == y.e
}

// R4, R10: equal calls return equal results, whatever is called in between.
func TestEqualCalls(t *testing.T) {
	var again []func() bool
	for i, r := range someRoads(33, 600) {
		choice, dead := numbers(len(r.Posts)), numbers(i%3)
		l := slices.Repeat([]int64{int64(i)}, r.Places)
		first := results(r, choice, dead, l)
		again = append(again, func() bool { return results(copied(r), choice, dead, l).equals(first) })
	}
	slices.Reverse(again)
	for i, equal := range again {
		if !equal() {
			t.Error(i)
		}
	}
}

// R3: nil and empty lists are the same.
func TestNilAndEmpty(t *testing.T) {
	for _, posts := range [][]api.StreetPost{nil, {}} {
		for _, list := range [][]int{nil, {}} {
			for _, l := range [][]int64{nil, {}} {
				e := errorsOf(t, road(2, 1, 1, posts...), list, 1, list, l)
				want := [8]api.Errno{api.OK, api.OK, api.ErrDark, api.OK, api.OK, api.ErrDark, api.ErrDark, api.ErrEqual}
				if e != want {
					t.Error(e)
				}
				if counts, _ := lit(t, api.StreetRoad{Places: 2, Posts: posts}, list); !slices.Equal(counts, []int{0, 0}) {
					t.Error(counts)
				}
			}
		}
	}
	for _, dead := range [][]int{nil, {}} {
		if e := street.CheckDark(roadS(1, 0), []int{0, 2}, 0, dead); e != api.ErrSum {
			t.Error(e)
		}
	}
}

// P1: all functions end, and do not panic, for all arguments.
func TestAnyNumber(t *testing.T) {
	ints := []int{math.MinInt, math.MinInt + 1, -1 << 32, -1, 0, 1, 2, 3, 5, 6, 24, 39, 40, 41, 1 << 32, math.MaxInt - 1, math.MaxInt}
	prices := []int64{math.MinInt64, -1, 0, 1, mostPrice, mostPrice + 1, math.MaxInt64}
	for _, a := range ints {
		for _, b := range ints {
			for _, c := range ints {
				callAll(road(a, b, c, post(0, 0, 1), post(a, b, int64(c))), []int{a, b}, c, []int{b, c}, nil)
			}
			for _, n := range prices {
				callAll(road(2, 2, 0, post(0, 1, 1), post(a, b, n)), []int{a, b}, a, []int{b}, []int64{n, int64(a)})
				callAll(roadS(2, 0), []int{0, a}, b, []int{a, b}, []int64{n, n, 0, int64(b)})
			}
		}
	}
}

// P1: lists of all lengths.
func TestAnyLength(t *testing.T) {
	lengths := []int{0, 1, 2, 3, 4, 23, 24, 25, 39, 40, 41, 1 << 16}
	for _, n := range lengths {
		for _, m := range lengths {
			for _, r := range []api.StreetRoad{roadS(2, 0), road(mostPlaces, 2, 0, manyPosts(min(n, mostPosts), 1)...), road(1, 2, 0, manyPosts(m, 1)...)} {
				callAll(r, numbers(n), 0, numbers(m), make([]int64, n))
				callAll(r, make([]int, n), 0, make([]int, m), make([]int64, m))
				callAll(r, numbers(min(n, len(r.Posts))), 0, numbers(m), make([]int64, r.Places))
			}
		}
	}
}
