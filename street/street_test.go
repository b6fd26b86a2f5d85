package street_test

import (
	"math"
	"slices"
	"testing"

	"lampblack/api"
	"lampblack/street"
)

const (
	mostPlaces = 40
	mostPosts  = 24
	mostDead   = 2
	mostDirt   = 5
	mostCost   = 1_000_000
	mostPrice  = 1 << 40
)

func post(from, to int, cost int64) api.StreetPost {
	return api.StreetPost{From: from, To: to, Cost: cost}
}

func road(places, dead, dirt int, posts ...api.StreetPost) api.StreetRoad {
	return api.StreetRoad{Places: places, Dead: dead, Dirt: dirt, Posts: posts}
}

// roadS returns the street of the chapter's examples.
func roadS(dead, dirt int) api.StreetRoad {
	return road(4, dead, dirt, post(0, 1, 5), post(1, 3, 6), post(2, 3, 4), post(0, 3, 10), post(0, 2, 7))
}

// manyPosts returns so many posts that light the first place.
func manyPosts(n int, cost int64) []api.StreetPost {
	return slices.Repeat([]api.StreetPost{post(0, 0, cost)}, n)
}

// numbers returns the numbers from 0 on, so many of them.
func numbers(n int) []int {
	l := make([]int, n)
	for i := range l {
		l[i] = i
	}
	return l
}

// The functions below call those of the package, and see to it that with an
// error every other result is its zero value (R2).

func lit(t *testing.T, r api.StreetRoad, choice []int) ([]int, api.Errno) {
	t.Helper()
	l, e := street.Lit(r, choice)
	if e != api.OK && len(l) != 0 {
		t.Error(r, choice, l, e)
	}
	return l, e
}

func check(t *testing.T, r api.StreetRoad, choice []int) (int64, api.Errno) {
	t.Helper()
	n, e := street.Check(r, choice)
	if e != api.OK && n != 0 {
		t.Error(r, choice, n, e)
	}
	return n, e
}

func dark(t *testing.T, r api.StreetRoad, choice []int) (int, []int, api.Errno) {
	t.Helper()
	place, dead, e := street.Dark(r, choice)
	if e != api.OK && (place != 0 || len(dead) != 0) {
		t.Error(r, choice, place, dead, e)
	}
	return place, dead, e
}

func cheapest(t *testing.T, r api.StreetRoad) ([]int, int64, api.Errno) {
	t.Helper()
	choice, n, e := street.Cheapest(r)
	if e != api.OK && (len(choice) != 0 || n != 0) {
		t.Error(r, choice, n, e)
	}
	return choice, n, e
}

func prices(t *testing.T, r api.StreetRoad) ([]int64, api.Errno) {
	t.Helper()
	l, e := street.Prices(r)
	if e != api.OK && len(l) != 0 {
		t.Error(r, l, e)
	}
	return l, e
}

func checkPrices(t *testing.T, r api.StreetRoad, l []int64) (int64, api.Errno) {
	t.Helper()
	n, e := street.CheckPrices(r, l)
	if e != api.OK && n != 0 {
		t.Error(r, l, n, e)
	}
	return n, e
}

// errorsOf returns the errors of all functions.
func errorsOf(t *testing.T, r api.StreetRoad, choice []int, place int, dead []int, l []int64) [8]api.Errno {
	t.Helper()
	var e [8]api.Errno
	e[0] = street.CheckRoad(r)
	_, e[1] = lit(t, r, choice)
	_, e[2] = check(t, r, choice)
	_, _, e[3] = dark(t, r, choice)
	e[4] = street.CheckDark(r, choice, place, dead)
	_, _, e[5] = cheapest(t, r)
	_, e[6] = prices(t, r)
	_, e[7] = checkPrices(t, r, l)
	return e
}

// each returns an error eight times.
func each(e api.Errno) [8]api.Errno {
	var l [8]api.Errno
	for i := range l {
		l[i] = e
	}
	return l
}

// P7.1, and that of all errors that of the street comes first.
func TestCheckRoad(t *testing.T) {
	last := mostPlaces - 1
	for i, x := range []struct {
		r api.StreetRoad
		e api.Errno
	}{
		{roadS(0, 0), api.OK},
		{road(1, 0, 0), api.OK},
		{road(mostPlaces, mostDead, mostDirt), api.OK},
		{road(0, 0, 0), api.ErrArg},
		{road(-1, 0, 0), api.ErrArg},
		{road(mostPlaces+1, 0, 0), api.ErrArg},
		{road(math.MinInt, 0, 0), api.ErrArg},
		{road(math.MaxInt, 0, 0), api.ErrArg},
		{road(1, -1, 0), api.ErrArg},
		{road(1, mostDead+1, 0), api.ErrArg},
		{road(1, math.MinInt, 0), api.ErrArg},
		{road(1, math.MaxInt, 0), api.ErrArg},
		{road(1, 0, -1), api.ErrArg},
		{road(1, 0, mostDirt+1), api.ErrArg},
		{road(1, 0, math.MinInt), api.ErrArg},
		{road(1, 0, math.MaxInt), api.ErrArg},
		{road(mostPlaces, 0, 0, post(0, last, 0), post(0, 0, mostCost), post(last, last, 1)), api.OK},
		{road(4, 0, 0, post(-1, 3, 1)), api.ErrArg},
		{road(4, 0, 0, post(math.MinInt, 3, 1)), api.ErrArg},
		{road(4, 0, 0, post(0, 4, 1)), api.ErrArg},
		{road(4, 0, 0, post(4, 4, 1)), api.ErrArg},
		{road(4, 0, 0, post(-1, -1, 1)), api.ErrArg},
		{road(4, 0, 0, post(0, -1, 1)), api.ErrArg},
		{road(4, 0, 0, post(4, 3, 1)), api.ErrArg},
		{road(4, 0, 0, post(3, 2, 1)), api.ErrArg},
		{road(4, 0, 0, post(0, math.MaxInt, 1)), api.ErrArg},
		{road(4, 0, 0, post(3, 3, 1), post(2, 3, 1)), api.OK},
		{road(4, 0, 0, post(0, 3, -1)), api.ErrArg},
		{road(4, 0, 0, post(0, 3, mostCost+1)), api.ErrArg},
		{road(4, 0, 0, post(0, 3, math.MinInt64)), api.ErrArg},
		{road(4, 0, 0, post(0, 3, math.MaxInt64)), api.ErrArg},
		{road(4, 0, 0, post(0, 3, 1), post(0, 3, 1), post(0, 4, 1)), api.ErrArg},
		{road(4, 0, 0, append(manyPosts(mostPosts-1, 1), post(1, 0, 1))...), api.ErrArg},
		{road(4, 0, 0, manyPosts(mostPosts, mostCost)...), api.OK},
		{road(4, 0, 0, manyPosts(mostPosts+1, 1)...), api.ErrMany},
		{road(4, 0, 0, manyPosts(1000, 1)...), api.ErrMany},
		{road(0, -1, -1, manyPosts(mostPosts+1, -1)...), api.ErrMany},
		{road(4, 0, 0, slices.Repeat([]api.StreetPost{post(3, 2, -1)}, mostPosts+1)...), api.ErrMany},
	} {
		if e := street.CheckRoad(x.r); e != x.e {
			t.Error(i, e)
		}
		// All other arguments are not valid, either.
		e := errorsOf(t, x.r, []int{-1}, -1, []int{-1}, []int64{-1})
		if x.e != api.OK && e != each(x.e) {
			t.Error(i, e)
		}
		if x.e == api.OK && (e[1] != api.ErrRange || e[2] != api.ErrRange || e[3] != api.ErrRange || e[4] != api.ErrRange) {
			t.Error(i, e)
		}
	}
}

// The error of the choice comes after that of the street, and before all others.
func TestChoice(t *testing.T) {
	s := roadS(2, 5)
	for i, x := range []struct {
		choice []int
		is     bool
	}{
		{nil, true},
		{numbers(5), true},
		{[]int{0}, true},
		{[]int{4}, true},
		{[]int{0, 4}, true},
		{[]int{1, 2, 4}, true},
		{[]int{-1}, false},
		{[]int{5}, false},
		{[]int{0, 5}, false},
		{[]int{-1, 0}, false},
		{[]int{0, 0}, false},
		{[]int{1, 0}, false},
		{[]int{0, 2, 1}, false},
		{[]int{0, 1, 2, 3, 4, 4}, false},
		{[]int{4, 3, 2, 1, 0}, false},
		{numbers(6), false},
		{[]int{math.MinInt}, false},
		{[]int{math.MaxInt}, false},
		{[]int{math.MinInt, math.MaxInt}, false},
	} {
		want := [4]api.Errno{api.OK, api.ErrDark, api.OK, api.OK}
		if !x.is {
			want = [4]api.Errno{api.ErrRange, api.ErrRange, api.ErrRange, api.ErrRange}
		}
		if e := errorsOf(t, s, x.choice, 0, nil, nil); [4]api.Errno(e[1:5]) != want {
			t.Error(i, e)
		}
	}
	// Streets without posts have just one choice.
	if e := errorsOf(t, road(3, 0, 0), []int{0}, 0, nil, nil); [4]api.Errno(e[1:5]) != [4]api.Errno{api.ErrRange, api.ErrRange, api.ErrRange, api.ErrRange} {
		t.Error(e)
	}
}

// P7.2
func TestLit(t *testing.T) {
	far := road(12, 0, 5, post(0, 11, 1), post(0, 10, 1), post(0, 9, 1), post(1, 11, 1), post(6, 11, 1))
	all := slices.Repeat([]api.StreetPost{post(0, mostPlaces-1, 1)}, mostPosts)
	for i, x := range []struct {
		r      api.StreetRoad
		choice []int
		want   []int
	}{
		{roadS(0, 0), []int{0, 1}, []int{1, 2, 1, 1}},
		{roadS(2, 0), []int{0, 1}, []int{1, 2, 1, 1}},
		{roadS(0, 0), nil, []int{0, 0, 0, 0}},
		{roadS(0, 0), []int{3}, []int{1, 1, 1, 1}},
		{roadS(0, 0), numbers(5), []int{3, 4, 4, 3}},
		{roadS(0, 1), numbers(5), []int{0, 2, 2, 0}},
		{roadS(0, 1), []int{0, 2}, []int{0, 0, 0, 0}},
		{roadS(0, 1), []int{1, 3}, []int{0, 1, 2, 0}},
		{roadS(0, 2), numbers(5), []int{0, 0, 0, 0}},
		{far, []int{0}, []int{0, 0, 0, 0, 0, 1, 1, 0, 0, 0, 0, 0}},
		{far, []int{1}, []int{0, 0, 0, 0, 0, 1, 0, 0, 0, 0, 0, 0}},
		{far, []int{2}, make([]int, 12)},
		{far, []int{3}, []int{0, 0, 0, 0, 0, 0, 1, 0, 0, 0, 0, 0}},
		{far, []int{4}, make([]int, 12)},
		{far, numbers(5), []int{0, 0, 0, 0, 0, 2, 2, 0, 0, 0, 0, 0}},
		{road(1, 2, 0), nil, []int{0}},
		{road(1, 0, 0, post(0, 0, 0)), []int{0}, []int{1}},
		{road(2, 0, 0, post(0, 0, 0), post(1, 1, 0)), []int{0}, []int{1, 0}},
		{road(2, 0, 0, post(0, 0, 0), post(1, 1, 0)), []int{1}, []int{0, 1}},
		{road(mostPlaces, 2, 0, all...), numbers(mostPosts), slices.Repeat([]int{mostPosts}, mostPlaces)},
	} {
		if l, e := lit(t, x.r, x.choice); !slices.Equal(l, x.want) || e != api.OK {
			t.Error(i, l, e)
		}
	}
}

// P7.2
func TestCheck(t *testing.T) {
	for i, x := range []struct {
		r      api.StreetRoad
		choice []int
		cost   int64
		e      api.Errno
	}{
		{roadS(0, 0), []int{0, 2}, 9, api.OK},
		{roadS(0, 0), []int{0, 1}, 11, api.OK},
		{roadS(0, 0), []int{1, 2}, 0, api.ErrDark},
		{roadS(0, 0), []int{3}, 10, api.OK},
		{roadS(0, 0), []int{0}, 0, api.ErrDark},
		{roadS(0, 0), []int{4}, 0, api.ErrDark},
		{roadS(0, 0), nil, 0, api.ErrDark},
		{roadS(0, 0), numbers(5), 32, api.OK},
		{roadS(1, 0), []int{0, 2}, 0, api.ErrDark},
		{roadS(1, 0), []int{0, 2, 3}, 19, api.OK},
		{roadS(1, 0), numbers(5), 32, api.OK},
		{roadS(2, 0), numbers(5), 32, api.OK},
		{roadS(2, 0), []int{0, 1, 2, 3}, 0, api.ErrDark},
		{roadS(0, 1), numbers(5), 0, api.ErrDark},
		{road(1, 0, 0), nil, 0, api.ErrDark},
		{road(1, 0, 0, post(0, 0, 0)), []int{0}, 0, api.OK},
		{road(1, 0, 0, post(0, 0, 0)), nil, 0, api.ErrDark},
		{road(1, 1, 0, post(0, 0, 7)), []int{0}, 0, api.ErrDark},
		{road(1, 1, 0, manyPosts(2, 7)...), []int{0, 1}, 14, api.OK},
		{road(1, 2, 0, manyPosts(2, 7)...), []int{0, 1}, 0, api.ErrDark},
		{road(1, 2, 0, manyPosts(3, 7)...), []int{0, 1, 2}, 21, api.OK},
		{road(1, 0, 1, post(0, 0, 7)), []int{0}, 0, api.ErrDark},
		// With dirt the ends of a street are always dark.
		{road(3, 0, 1, post(0, 2, 7), post(0, 2, 7)), []int{0, 1}, 0, api.ErrDark},
		{road(1, 0, 0, manyPosts(mostPosts, mostCost)...), numbers(mostPosts), mostPosts * mostCost, api.OK},
	} {
		if n, e := check(t, x.r, x.choice); n != x.cost || e != x.e {
			t.Error(i, n, e)
		}
	}
}

// P7.3
func TestCheckDark(t *testing.T) {
	for i, x := range []struct {
		r      api.StreetRoad
		choice []int
		place  int
		dead   []int
		e      api.Errno
	}{
		{roadS(1, 0), []int{0, 1, 2}, 0, []int{0}, api.OK},
		{roadS(1, 0), []int{0, 1, 2}, 3, []int{1}, api.ErrSum},
		{roadS(1, 0), []int{0, 1, 2}, 3, []int{2}, api.ErrSum},
		{roadS(1, 0), []int{0, 1, 2}, 0, nil, api.ErrSum},
		{roadS(1, 0), []int{0, 1, 2}, 1, []int{0}, api.ErrSum},
		{roadS(1, 0), []int{1, 2}, 0, nil, api.OK},
		// A dead post need not light the place.
		{roadS(1, 0), []int{1, 2}, 0, []int{2}, api.OK},
		{roadS(2, 0), []int{1, 2}, 0, []int{1, 2}, api.OK},
		{roadS(2, 0), []int{0, 1, 2}, 0, []int{0, 2}, api.OK},
		{roadS(2, 0), []int{0, 1, 2}, 0, []int{1, 2}, api.ErrSum},
		{roadS(2, 0), []int{0, 1, 2}, 3, []int{1, 2}, api.OK},
		{roadS(2, 0), []int{0, 1, 2}, 3, []int{0, 2}, api.ErrSum},
		{roadS(0, 0), []int{1, 2}, 0, nil, api.OK},
		{roadS(0, 0), []int{0, 2}, 0, nil, api.ErrSum},
		{roadS(0, 0), nil, 3, nil, api.OK},
		{roadS(0, 1), numbers(5), 3, nil, api.OK},
		{roadS(0, 1), numbers(5), 2, nil, api.ErrSum},
		{roadS(1, 1), []int{1, 2}, 2, []int{1}, api.OK},
		{roadS(1, 1), []int{1, 2}, 2, []int{2}, api.ErrSum},

		{roadS(1, 0), []int{1, 2}, -1, nil, api.ErrRange},
		{roadS(1, 0), []int{1, 2}, 4, nil, api.ErrRange},
		{roadS(1, 0), []int{1, 2}, mostPlaces - 1, nil, api.ErrRange},
		{roadS(1, 0), []int{1, 2}, math.MinInt, nil, api.ErrRange},
		{roadS(1, 0), []int{1, 2}, math.MaxInt, nil, api.ErrRange},
		{roadS(0, 0), []int{1, 2}, 0, []int{1}, api.ErrRange},
		{roadS(1, 0), []int{1, 2}, 0, []int{1, 2}, api.ErrRange},
		{roadS(2, 0), []int{1, 2, 3}, 0, []int{1, 2, 3}, api.ErrRange},
		{roadS(2, 0), []int{1, 2}, 0, []int{2, 1}, api.ErrRange},
		{roadS(2, 0), []int{1, 2}, 0, []int{1, 1}, api.ErrRange},
		{roadS(1, 0), []int{1, 2}, 0, []int{0}, api.ErrRange},
		{roadS(1, 0), []int{1, 3}, 0, []int{2}, api.ErrRange},
		{roadS(1, 0), []int{1, 2}, 0, []int{3}, api.ErrRange},
		{roadS(2, 0), []int{1, 2}, 0, []int{1, 3}, api.ErrRange},
		{roadS(2, 0), []int{1, 2}, 0, []int{0, 2}, api.ErrRange},
		{roadS(1, 0), nil, 0, []int{0}, api.ErrRange},
		{roadS(1, 0), []int{1, 2}, 0, []int{-1}, api.ErrRange},
		{roadS(1, 0), []int{1, 2}, 0, []int{5}, api.ErrRange},
		{roadS(1, 0), []int{1, 2}, 0, []int{math.MaxInt}, api.ErrRange},
		{roadS(2, 0), []int{1, 2}, 0, []int{math.MinInt, 1}, api.ErrRange},
		// What is no dark place is looked at only after all of that.
		{roadS(2, 0), []int{0, 1, 2}, 0, []int{1, 3}, api.ErrRange},
		{roadS(0, 0), []int{0, 1, 2}, 0, []int{1}, api.ErrRange},
		{roadS(2, 0), []int{1, 0}, 0, nil, api.ErrRange},
	} {
		if e := street.CheckDark(x.r, x.choice, x.place, x.dead); e != x.e {
			t.Error(i, e)
		}
	}
}

// P7.3: it is not said which dark place is returned.
func TestDark(t *testing.T) {
	for i, x := range []struct {
		r      api.StreetRoad
		choice []int
		e      api.Errno
	}{
		{roadS(0, 0), []int{0, 2}, api.ErrNone},
		{roadS(0, 0), []int{3}, api.ErrNone},
		{roadS(1, 0), []int{0, 2, 3}, api.ErrNone},
		{roadS(2, 0), numbers(5), api.ErrNone},
		{roadS(0, 0), nil, api.OK},
		{roadS(2, 0), nil, api.OK},
		{roadS(0, 0), []int{1, 2}, api.OK},
		{roadS(0, 0), []int{0}, api.OK},
		{roadS(1, 0), []int{0, 2}, api.OK},
		{roadS(1, 0), []int{0, 1, 2}, api.OK},
		{roadS(2, 0), []int{0, 1, 2, 3}, api.OK},
		{roadS(2, 0), []int{0, 1, 3, 4}, api.OK},
		{roadS(0, 1), numbers(5), api.OK},
		{roadS(2, 5), numbers(5), api.OK},
		{road(1, 2, 0, manyPosts(3, 1)...), numbers(3), api.ErrNone},
		{road(1, 2, 0, manyPosts(4, 1)...), []int{1, 3}, api.OK},
		{road(1, 1, 0, manyPosts(4, 1)...), []int{1, 3}, api.ErrNone},
		{road(mostPlaces, 2, 5), nil, api.OK},
	} {
		place, dead, e := dark(t, x.r, x.choice)
		if e != x.e {
			t.Error(i, place, dead, e)
		}
		if e == api.OK && (!isDark(x.r, x.choice, place, dead) || street.CheckDark(x.r, x.choice, place, dead) != api.OK) {
			t.Error(i, place, dead)
		}
	}
}

// roadT returns a street whose cheapest choice has the post 1, but that for one
// post more at each place has all the other ones.
func roadT(dead int) api.StreetRoad {
	return road(3, dead, 0, post(0, 0, 1), post(1, 1, 1), post(2, 2, 1), post(0, 1, 5), post(1, 2, 5))
}

// P7.4, P7.5
func TestCheapest(t *testing.T) {
	for i, x := range []struct {
		r    api.StreetRoad
		cost int64
		e    api.Errno
	}{
		{roadS(0, 0), 9, api.OK},
		{roadS(1, 0), 19, api.OK},
		{roadS(2, 0), 32, api.OK},
		{roadS(0, 1), 0, api.ErrDark},
		{road(1, 0, 0), 0, api.ErrDark},
		{road(40, 2, 5), 0, api.ErrDark},
		{road(1, 0, 0, post(0, 0, 0)), 0, api.OK},
		{road(1, 0, 0, post(0, 0, 3)), 3, api.OK},
		{road(1, 0, 1, post(0, 0, 3)), 0, api.ErrDark},
		{road(1, 1, 0, post(0, 0, 3)), 0, api.ErrDark},
		{road(1, 1, 0, post(0, 0, 3), post(0, 0, 5)), 8, api.OK},
		{road(1, 1, 0, post(0, 0, 3), post(0, 0, 5), post(0, 0, 4)), 7, api.OK},
		{road(1, 2, 0, manyPosts(2, 1)...), 0, api.ErrDark},
		{road(1, 2, 0, manyPosts(24, 2)...), 6, api.OK},
		{road(1, 2, 0, manyPosts(24, mostCost)...), 3 * mostCost, api.OK},
		{road(2, 0, 0, post(0, 0, 1)), 0, api.ErrDark},
		{road(2, 0, 0, post(1, 1, 1)), 0, api.ErrDark},
		{road(2, 0, 0, post(0, 0, 1), post(1, 1, 2)), 3, api.OK},
		{road(2, 0, 0, post(0, 0, 1), post(1, 1, 2), post(0, 1, 2)), 2, api.OK},
		{roadT(0), 3, api.OK},
		{roadT(1), 12, api.OK},
		{roadT(2), 0, api.ErrDark},
		{road(3, 0, 0, post(0, 1, 5), post(1, 2, 5), post(0, 0, 1), post(2, 2, 1), post(1, 1, 9)), 6, api.OK},
		{road(mostPlaces, 0, 0, slices.Repeat([]api.StreetPost{post(0, 39, mostCost)}, mostPosts)...), mostCost, api.OK},
	} {
		choice, n, e := cheapest(t, x.r)
		if n != x.cost || e != x.e {
			t.Error(i, choice, n, e)
		}
		l, pe := prices(t, x.r)
		if pe != x.e {
			t.Error(i, l, pe)
		}
		if e == api.OK {
			seeCheapest(t, x.r, choice, n, l)
		}
	}
}

// seeCheapest sees to it that a choice holds and costs so much, and that this is
// the bound of prices.
func seeCheapest(t *testing.T, r api.StreetRoad, choice []int, n int64, l []int64) {
	t.Helper()
	if !isChoice(r, choice) || !holds(r, choice) || costOf(r, choice) != n {
		t.Error(r, choice, n)
	}
	if cost, e := check(t, r, choice); cost != n || e != api.OK {
		t.Error(r, choice, cost, e)
	}
	if !arePrices(r, l) || boundOf(r, l) != n {
		t.Error(r, l, n)
	}
	if bound, e := checkPrices(t, r, l); bound != n || e != api.OK {
		t.Error(r, l, bound, e)
	}
}

// P7.5
func TestCheckPrices(t *testing.T) {
	most := slices.Repeat([]int64{mostPrice}, mostPlaces)
	long := slices.Repeat([]api.StreetPost{post(0, mostPlaces-1, 1)}, mostPosts)
	const all = int64(mostPlaces) * mostPrice
	for i, x := range []struct {
		r     api.StreetRoad
		l     []int64
		bound int64
		e     api.Errno
	}{
		{roadS(0, 0), []int64{5, 0, 0, 4}, 9, api.OK},
		{roadS(0, 0), []int64{0, 0, 0, 9}, 1, api.OK},
		{roadS(0, 0), []int64{0, 0, 0, 0}, 0, api.OK},
		{roadS(1, 0), []int64{5, 0, 0, 4}, 18, api.OK},
		{roadS(1, 0), []int64{0, 0, 0, 9}, 10, api.OK},
		{roadS(2, 0), []int64{0, 0, 0, 9}, 19, api.OK},
		// With dirt no post lights the last place.
		{roadS(0, 1), []int64{0, 0, 0, 9}, 9, api.OK},
		{roadS(0, 1), []int64{0, 0, 8, 9}, 15, api.OK},
		{roadS(0, 1), []int64{0, 8, 8, 9}, 16, api.OK},
		{roadS(0, 0), []int64{100, 100, 100, 100}, 400 - 195 - 294 - 196 - 390 - 293, api.OK},
		{road(1, 2, 0), []int64{mostPrice}, 3 * mostPrice, api.OK},
		{road(mostPlaces, 2, 0), most, 3 * all, api.OK},
		{road(mostPlaces, 2, 5), most, 3 * all, api.OK},
		{road(mostPlaces, 2, 0, long...), most, 3*all - mostPosts*(all-1), api.OK},

		{roadS(0, 0), nil, 0, api.ErrEqual},
		{roadS(0, 0), []int64{5, 0, 0}, 0, api.ErrEqual},
		{roadS(0, 0), []int64{5, 0, 0, 4, 0}, 0, api.ErrEqual},
		{roadS(0, 0), []int64{-1, 0, 0}, 0, api.ErrEqual},
		{roadS(0, 0), []int64{-1, 0, 0, 4, 0}, 0, api.ErrEqual},
		{roadS(0, 0), make([]int64, mostPlaces), 0, api.ErrEqual},
		{roadS(0, 0), []int64{-1, 0, 0, 4}, 0, api.ErrRange},
		{roadS(0, 0), []int64{5, 0, 0, -1}, 0, api.ErrRange},
		{roadS(0, 0), []int64{5, 0, 0, mostPrice + 1}, 0, api.ErrRange},
		{roadS(0, 0), []int64{mostPrice + 1, 0, 0, 0}, 0, api.ErrRange},
		{roadS(0, 0), []int64{0, math.MinInt64, 0, 0}, 0, api.ErrRange},
		{roadS(0, 0), []int64{0, 0, math.MaxInt64, 0}, 0, api.ErrRange},
		{road(2, 0, 0), []int64{0, mostPrice}, mostPrice, api.OK},
	} {
		if n, e := checkPrices(t, x.r, x.l); n != x.bound || e != x.e {
			t.Error(i, n, e)
		}
	}
}
