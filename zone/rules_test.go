package zone_test

import (
	"math"
	"math/rand"
	"slices"
	"testing"

	"lampblack/api"
	"lampblack/zone"
)

// full returns a list with room behind it, in which something would be seen
// that is written there.
func full[T any](l []T, rest T) (part, room []T) {
	room = append(slices.Clone(l), rest, rest, rest)
	return room[:len(l)], room
}

// callAll calls all functions with a lamp.
func callAll(l api.ZoneLamp, lantern []int64, a, b int64) {
	zone.CheckLamp(l)
	zone.CheckTrue(l, lantern)
	zone.Flux(l, lantern)
	zone.Doubt(l)
	zone.CheckDoubt(l, int(a), int(b))
	zone.Span(l)
	zone.End(l, false)
	zone.End(l, true)
	zone.At(l, a)
	zone.Coated(l, rg(a, b))
	zone.Next(l, a)
}

// R5: no argument is changed, nor what lies behind it.
func TestArgumentsAreKept(t *testing.T) {
	for _, before := range []api.ZoneLamp{lampL(), lampC(), stripes(7), {}} {
		var l, room api.ZoneLamp
		l.Angles, room.Angles = full(before.Angles, 77)
		l.Lights, room.Lights = full(before.Lights, rg(7, 9))
		l.Falls, room.Falls = full(before.Falls, true)
		l.Weights, room.Weights = full(before.Weights, 77)
		lantern, lanternRoom := full(list(11, 9, 9, 5, 5, 6), 77)
		whole, wholeLantern := copied(room), slices.Clone(lanternRoom)
		callAll(l, lantern, 0, 1)
		callAll(l, lantern, 2, 900)
		if !areEqual(room, whole) || !slices.Equal(lanternRoom, wholeLantern) {
			t.Error(room, whole, lanternRoom)
		}
	}
}

func areEqual(a, b api.ZoneLamp) bool {
	return slices.Equal(a.Angles, b.Angles) && slices.Equal(a.Lights, b.Lights) &&
		slices.Equal(a.Falls, b.Falls) && slices.Equal(a.Weights, b.Weights)
}

// R4, R5: lanterns share no memory with each other or with an argument, and
// nothing of them is kept.
func TestLanternsAreNew(t *testing.T) {
	for _, high := range falls(false, true) {
		l := lampL()
		one, _ := zone.End(l, high)
		two, _ := zone.End(l, high)
		want := slices.Clone(two)
		room := one[:cap(one)]
		for i := range room {
			room[i] = 77
		}
		three, e := zone.End(l, high)
		if len(want) != 6 || !slices.Equal(two, want) || !slices.Equal(three, want) || e != api.OK || !areEqual(l, lampL()) {
			t.Error(high, one, two, three, e)
		}
	}
}

// result is what all functions with a lamp alone, or with one number, return.
type result struct {
	low, high        []int64
	span, at, coated api.Range
	i, k             int
	degree, width    int64
	e                [7]api.Errno
}

func results(l api.ZoneLamp, n int64) (r result) {
	r.low, r.e[0] = zone.End(l, false)
	r.high, r.e[1] = zone.End(l, true)
	r.span, r.e[2] = zone.Span(l)
	r.at, r.e[3] = zone.At(l, n)
	r.coated, r.e[4] = zone.Coated(l, rg(n, 1000))
	r.i, r.k, r.e[5] = zone.Doubt(l)
	r.degree, r.width, r.e[6] = zone.Next(l, n)
	return r
}

func (r result) equals(other result) bool {
	return slices.Equal(r.low, other.low) && slices.Equal(r.high, other.high) && r.span == other.span &&
		r.at == other.at && r.coated == other.coated && r.i == other.i && r.k == other.k &&
		r.degree == other.degree && r.width == other.width && r.e == other.e
}

// R4, R10: equal calls return equal results, whatever is called in between.
func TestEqualCalls(t *testing.T) {
	chance := rand.New(rand.NewSource(51))
	lamps := []api.ZoneLamp{lampL(), lampC(), {}, stripes(3)}
	for range 30 {
		l, _ := someTrueLamp(chance, 10, 60, 60)
		lamps = append(lamps, l, someLamp(chance, 4, 20, mostLight))
	}
	var first []result
	for i, l := range lamps {
		first = append(first, results(l, int64(i%7)))
	}
	for i := len(lamps) - 1; i >= 0; i-- {
		if again := results(copied(lamps[i]), int64(i%7)); !again.equals(first[i]) {
			t.Error(lamps[i], first[i], again)
		}
	}
}

// R3: nil and empty lists are the same.
func TestNilAndEmpty(t *testing.T) {
	empty := api.ZoneLamp{Angles: []int64{}, Lights: []api.Range{}, Falls: []bool{}, Weights: []int64{}}
	if e, f := zone.CheckLamp(api.ZoneLamp{}), zone.CheckLamp(empty); e != api.ErrMany || f != api.ErrMany {
		t.Error(e, f)
	}
	for _, change := range []func(l *api.ZoneLamp){
		func(l *api.ZoneLamp) { l.Lights = nil },
		func(l *api.ZoneLamp) { l.Lights = []api.Range{} },
		func(l *api.ZoneLamp) { l.Falls = nil },
		func(l *api.ZoneLamp) { l.Falls = []bool{} },
		func(l *api.ZoneLamp) { l.Weights = nil },
		func(l *api.ZoneLamp) { l.Weights = []int64{} },
	} {
		l := lampL()
		change(&l)
		if e := zone.CheckLamp(l); e != api.ErrEqual {
			t.Error(l, e)
		}
	}
	for _, lantern := range [][]int64{nil, {}} {
		if e := zone.CheckTrue(lampL(), lantern); e != api.ErrEqual {
			t.Error(e)
		}
	}
}

// P1: all functions end, and do not panic, for all arguments.
func TestAnyNumber(t *testing.T) {
	numbers := list(math.MinInt64, math.MinInt64+1, -1<<32, -1, 0, 1, 90, 91, 200, 1000, 1001, 1<<32, 1<<62, math.MaxInt64)
	for _, a := range numbers {
		for _, b := range numbers {
			for _, l := range []api.ZoneLamp{lampL(), lampC(), {}} {
				callAll(l, list(a, b, a, b, a, b), a, b)
			}
			for _, change := range []func(l *api.ZoneLamp){
				func(l *api.ZoneLamp) { l.Angles[0], l.Angles[2] = a, b },
				func(l *api.ZoneLamp) { l.Angles = list(a, b) },
				func(l *api.ZoneLamp) { l.Lights[1] = rg(a, b) },
				func(l *api.ZoneLamp) { l.Weights[0], l.Weights[5] = a, b },
			} {
				l := lampL()
				change(&l)
				callAll(l, list(11, 9, 9, 5, 5, 6), b, a)
			}
		}
	}
	for n := range 13 {
		l := api.ZoneLamp{
			Angles:  make([]int64, n),
			Lights:  make([]api.Range, (n+1)%13),
			Falls:   make([]bool, (n+5)%13),
			Weights: make([]int64, n*n),
		}
		callAll(l, make([]int64, n), 0, 1)
	}
	huge := api.ZoneLamp{
		Angles:  make([]int64, 1<<20),
		Lights:  make([]api.Range, 1<<20),
		Falls:   make([]bool, 1<<20),
		Weights: make([]int64, 1<<20),
	}
	callAll(huge, huge.Angles, 0, 1)
	callAll(lampL(), huge.Angles, 0, 1)
}
