package zone_test

import (
	"math"
	"slices"
	"testing"

	"lampblack/api"
	"lampblack/zone"
)

const (
	mostTurn   = api.MaxZoneTurn
	mostLight  = api.MaxZoneLight
	mostWeight = api.MaxZoneWeight
)

func list(n ...int64) []int64 { return n }

func falls(l ...bool) []bool { return l }

func rg(lo, hi int64) api.Range { return api.Range{Lo: lo, Hi: hi} }

func ranges(ends ...int64) []api.Range {
	var l []api.Range
	for i := 0; i < len(ends); i += 2 {
		l = append(l, rg(ends[i], ends[i+1]))
	}
	return l
}

func same(n int, weight int64) []int64 { return slices.Repeat(list(weight), n) }

// lampL returns the lamp L of the chapter.
func lampL() api.ZoneLamp {
	return api.ZoneLamp{
		Angles:  list(0, 3, 5),
		Lights:  ranges(10, 12, 4, 6, 5, 9),
		Falls:   falls(true, false),
		Weights: same(6, 1),
	}
}

// lampC returns the lamp L with a light that contradicts it.
func lampC() api.ZoneLamp {
	l := lampL()
	l.Lights[1] = rg(13, 14)
	return l
}

// copied returns a lamp that shares no memory with another one.
func copied(l api.ZoneLamp) api.ZoneLamp {
	return api.ZoneLamp{
		Angles:  slices.Clone(l.Angles),
		Lights:  slices.Clone(l.Lights),
		Falls:   slices.Clone(l.Falls),
		Weights: slices.Clone(l.Weights),
	}
}

// stripes returns a lamp with as many angles and degrees as can be.
func stripes(weight int64) api.ZoneLamp {
	l := api.ZoneLamp{Weights: same(mostTurn+1, weight)}
	for i := range int64(api.MaxZoneAngles) {
		l.Angles = append(l.Angles, 10*i)
		l.Lights = append(l.Lights, rg(0, mostLight))
		if i > 0 {
			l.Falls = append(l.Falls, i%2 == 0)
		}
	}
	return l
}

// lampCase is a lamp, by a change of the lamp L, and the error of CheckLamp.
type lampCase struct {
	change func(l *api.ZoneLamp)
	e      api.Errno
}

func rightLamps() []lampCase {
	return []lampCase{
		{func(l *api.ZoneLamp) {}, api.OK},
		{func(l *api.ZoneLamp) { *l = stripes(mostWeight) }, api.OK},
		{func(l *api.ZoneLamp) { *l = stripes(0) }, api.OK},
		{func(l *api.ZoneLamp) { *l = lampC() }, api.OK},
		{func(l *api.ZoneLamp) { l.Lights = ranges(0, 0, 0, mostLight, mostLight, mostLight) }, api.OK},
		{func(l *api.ZoneLamp) { l.Weights = list(0, mostWeight, 1, 0, 0, 7) }, api.OK},
		{func(l *api.ZoneLamp) { l.Angles = list(85, 88, 90) }, api.OK},
		{func(l *api.ZoneLamp) { l.Angles = list(3, 4, 8) }, api.OK},
		{func(l *api.ZoneLamp) {
			*l = api.ZoneLamp{Angles: list(89, 90), Lights: ranges(1, 2, 3, 4), Falls: falls(false), Weights: list(1, 1)}
		}, api.OK},
		{func(l *api.ZoneLamp) {
			*l = api.ZoneLamp{Angles: list(0, 90), Lights: ranges(1, 2, 3, 4), Falls: falls(true), Weights: same(91, 5)}
		}, api.OK},
	}
}

// wrongLamps returns lamps that are not valid; many are so for a second reason,
// whose error comes later.
func wrongLamps() []lampCase {
	return []lampCase{
		{func(l *api.ZoneLamp) { *l = api.ZoneLamp{} }, api.ErrMany},
		{func(l *api.ZoneLamp) { l.Angles = nil }, api.ErrMany},
		{func(l *api.ZoneLamp) { l.Angles = list(0) }, api.ErrMany},
		{func(l *api.ZoneLamp) { l.Angles = list(-1) }, api.ErrMany},
		{func(l *api.ZoneLamp) { l.Angles = list(0, 1, 2, 3, 4, 5, 6, 7, 8, 9, 10) }, api.ErrMany},
		{func(l *api.ZoneLamp) {
			*l = stripes(1)
			l.Angles, l.Lights, l.Falls = append(l.Angles, 91), append(l.Lights, rg(0, 1)), append(l.Falls, true)
		}, api.ErrMany},
		{func(l *api.ZoneLamp) { l.Angles = make([]int64, 1<<20) }, api.ErrMany},
		{func(l *api.ZoneLamp) { l.Angles[0] = -1 }, api.ErrArg},
		{func(l *api.ZoneLamp) { l.Angles[0] = math.MinInt64 }, api.ErrArg},
		{func(l *api.ZoneLamp) { l.Angles[2] = math.MaxInt64 }, api.ErrArg},
		{func(l *api.ZoneLamp) { l.Angles = list(86, 89, 91) }, api.ErrArg},
		{func(l *api.ZoneLamp) { l.Angles = list(0, 5, 5) }, api.ErrArg},
		{func(l *api.ZoneLamp) { l.Angles = list(0, 0, 5) }, api.ErrArg},
		{func(l *api.ZoneLamp) { l.Angles = list(0, 5, 3) }, api.ErrArg},
		{func(l *api.ZoneLamp) { l.Angles = list(5, 3, 0) }, api.ErrArg},
		{func(l *api.ZoneLamp) { l.Angles[1], l.Falls = 5, nil }, api.ErrArg},
		{func(l *api.ZoneLamp) { l.Angles[2], l.Weights = 91, same(92, 1) }, api.ErrArg},
		{func(l *api.ZoneLamp) { l.Angles = list(0, 3) }, api.ErrEqual},
		{func(l *api.ZoneLamp) { l.Lights = l.Lights[:2] }, api.ErrEqual},
		{func(l *api.ZoneLamp) { l.Lights = append(l.Lights, rg(5, 9)) }, api.ErrEqual},
		{func(l *api.ZoneLamp) { l.Lights = nil }, api.ErrEqual},
		{func(l *api.ZoneLamp) { l.Falls = l.Falls[:1] }, api.ErrEqual},
		{func(l *api.ZoneLamp) { l.Falls = append(l.Falls, true) }, api.ErrEqual},
		{func(l *api.ZoneLamp) { l.Falls = nil }, api.ErrEqual},
		{func(l *api.ZoneLamp) { l.Weights = l.Weights[:5] }, api.ErrEqual},
		{func(l *api.ZoneLamp) { l.Weights = append(l.Weights, 1) }, api.ErrEqual},
		{func(l *api.ZoneLamp) { l.Weights = nil }, api.ErrEqual},
		{func(l *api.ZoneLamp) { l.Angles[2] = 6 }, api.ErrEqual},
		{func(l *api.ZoneLamp) { l.Angles[0] = 1 }, api.ErrEqual},
		{func(l *api.ZoneLamp) { l.Weights = make([]int64, 1<<20) }, api.ErrEqual},
		{func(l *api.ZoneLamp) { l.Lights[0], l.Weights = rg(12, 10), l.Weights[:5] }, api.ErrEqual},
		{func(l *api.ZoneLamp) { l.Weights[0], l.Falls = -1, l.Falls[:1] }, api.ErrEqual},
		{func(l *api.ZoneLamp) { l.Lights[0] = rg(12, 11) }, api.ErrArg},
		{func(l *api.ZoneLamp) { l.Lights[0] = rg(-1, 11) }, api.ErrArg},
		{func(l *api.ZoneLamp) { l.Lights[2] = rg(0, mostLight+1) }, api.ErrArg},
		{func(l *api.ZoneLamp) { l.Lights[1] = rg(math.MinInt64, math.MaxInt64) }, api.ErrArg},
		{func(l *api.ZoneLamp) { l.Lights[1] = rg(mostLight+1, mostLight+1) }, api.ErrArg},
		{func(l *api.ZoneLamp) { l.Weights[0] = -1 }, api.ErrArg},
		{func(l *api.ZoneLamp) { l.Weights[5] = mostWeight + 1 }, api.ErrArg},
		{func(l *api.ZoneLamp) { l.Weights[3] = math.MinInt64 }, api.ErrArg},
		{func(l *api.ZoneLamp) { l.Weights[3] = math.MaxInt64 }, api.ErrArg},
		{func(l *api.ZoneLamp) { *l = lampC(); l.Weights[3] = -1 }, api.ErrArg},
	}
}

func (x lampCase) lamp() api.ZoneLamp {
	l := lampL()
	x.change(&l)
	return l
}

// P3.1
func TestCheckLamp(t *testing.T) {
	for i, x := range append(rightLamps(), wrongLamps()...) {
		if e := zone.CheckLamp(x.lamp()); e != x.e {
			t.Error(i, x.lamp(), e, x.e)
		}
	}
}

// Functions with a lamp return the error of CheckLamp before all others.
func TestLampFirst(t *testing.T) {
	for i, x := range wrongLamps() {
		l := x.lamp()
		for _, lantern := range [][]int64{nil, list(11, 9, 9, 5, 5, 6), list(0, 1, 9, 5, 5, 6), same(6, -1)} {
			if e := zone.CheckTrue(l, lantern); e != x.e {
				t.Error(i, lantern, e)
			}
			if n, e := zone.Flux(l, lantern); n != 0 || e != x.e {
				t.Error(i, lantern, n, e)
			}
		}
		if j, k, e := zone.Doubt(l); j != 0 || k != 0 || e != x.e {
			t.Error(i, j, k, e)
		}
		for _, pair := range [][2]int{{0, 1}, {-1, 1}, {1, 0}, {0, 99}} {
			if e := zone.CheckDoubt(l, pair[0], pair[1]); e != x.e {
				t.Error(i, pair, e)
			}
		}
		for _, n := range list(0, -1, 3, 500, 1001) {
			checkNumbers(t, l, n, x.e)
		}
		checkSpans(t, l, x.e)
	}
}

// checkNumbers checks that functions with a lamp and a number return an error
// and nothing else.
func checkNumbers(t *testing.T, l api.ZoneLamp, n int64, want api.Errno) {
	t.Helper()
	if r, e := zone.At(l, n); r != rg(0, 0) || e != want {
		t.Error(l, n, r, e)
	}
	if r, e := zone.Coated(l, rg(n, 1000)); r != rg(0, 0) || e != want {
		t.Error(l, n, r, e)
	}
	if d, w, e := zone.Next(l, n); d != 0 || w != 0 || e != want {
		t.Error(l, n, d, w, e)
	}
}

// checkSpans checks that functions with a lamp alone return an error and
// nothing else.
func checkSpans(t *testing.T, l api.ZoneLamp, want api.Errno) {
	t.Helper()
	if r, e := zone.Span(l); r != rg(0, 0) || e != want {
		t.Error(l, r, e)
	}
	for _, high := range falls(false, true) {
		if lantern, e := zone.End(l, high); len(lantern) != 0 || e != want {
			t.Error(l, lantern, e)
		}
	}
}

// P3.2
func TestCheckTrue(t *testing.T) {
	for i, x := range []struct {
		lantern []int64
		flux    int64
		e       api.Errno
	}{
		{list(11, 9, 9, 5, 5, 6), 45, api.OK},
		{list(10, 4, 4, 4, 4, 5), 31, api.OK},
		{list(12, 12, 12, 6, 9, 9), 60, api.OK},
		{list(12, 12, 12, 6, 6, 6), 54, api.OK},
		{nil, 0, api.ErrEqual},
		{list(11, 9, 9, 5, 5), 0, api.ErrEqual},
		{list(11, 9, 9, 5, 5, 6, 6), 0, api.ErrEqual},
		{list(13, 9, 9, 5, 5), 0, api.ErrEqual},
		{make([]int64, 1<<20), 0, api.ErrEqual},
		{list(13, 9, 9, 5, 5, 6), 0, api.ErrRange},
		{list(9, 9, 9, 5, 5, 6), 0, api.ErrRange},
		{list(11, 9, 9, 3, 5, 6), 0, api.ErrRange},
		{list(11, 9, 9, 7, 7, 7), 0, api.ErrRange},
		{list(11, 9, 9, 4, 4, 4), 0, api.ErrRange},
		{list(11, 9, 9, 5, 5, 10), 0, api.ErrRange},
		{same(6, math.MinInt64), 0, api.ErrRange},
		{same(6, math.MaxInt64), 0, api.ErrRange},
		// What is out of its range comes before what breaks a rule earlier.
		{list(11, 12, 9, 5, 5, 10), 0, api.ErrRange},
		{list(11, 12, 9, 5, 5, 6), 0, api.ErrRule},
		{list(11, 9, 10, 5, 5, 6), 0, api.ErrRule},
		{list(11, 4, 4, 5, 5, 6), 0, api.ErrRule},
		{list(11, 9, 9, 5, 4, 6), 0, api.ErrRule},
		{list(11, 9, 9, 5, 7, 6), 0, api.ErrRule},
		{list(11, 9, math.MaxInt64, 5, 5, 6), 0, api.ErrRule},
		{list(11, math.MinInt64, 9, 5, 5, 6), 0, api.ErrRule},
	} {
		if e := zone.CheckTrue(lampL(), x.lantern); e != x.e {
			t.Error(i, e)
		}
		if n, e := zone.Flux(lampL(), x.lantern); n != x.flux || e != x.e {
			t.Error(i, n, e)
		}
	}
	if n, e := zone.Flux(stripes(mostWeight), same(91, mostLight)); n != 91*mostWeight*mostLight || e != api.OK {
		t.Error(n, e)
	}
	weighted := lampL()
	weighted.Weights = list(1, 10, 100, 0, 1000, 3)
	if n, e := zone.Flux(weighted, list(11, 9, 8, 5, 5, 6)); n != 11+90+800+5000+18 || e != api.OK {
		t.Error(n, e)
	}
	for _, x := range rightLamps() {
		if l := x.lamp(); zone.CheckTrue(l, same(len(l.Weights)+1, 1)) != api.ErrEqual {
			t.Error(l)
		}
	}
}

// lampsInDoubt returns lamps with six angles and with all their contradictions.
func lampsInDoubt() map[string]struct {
	falls  []bool
	lights []api.Range
	doubts [][2]int
} {
	return map[string]struct {
		falls  []bool
		lights []api.Range
		doubts [][2]int
	}{
		"falling": {falls(true, true, true, true, true), ranges(9, 9, 8, 8, 7, 7, 7, 8, 9, 9, 0, 0), [][2]int{{1, 4}, {2, 4}, {3, 4}}},
		"rising":  {falls(false, false, false, false, false), ranges(1, 1, 5, 5, 2, 6, 4, 4, 4, 9, 3, 3), [][2]int{{1, 3}, {1, 5}, {3, 5}, {4, 5}}},
		"equal":   {falls(true, true, true, true, true), ranges(5, 5, 5, 5, 5, 5, 5, 5, 5, 5, 5, 5), nil},
		"valley":  {falls(true, true, true, false, false), ranges(3, 4, 3, 3, 1, 1, 0, 1, 9, 9, 9, 9), nil},
		"top":     {falls(false, false, true, true, true), ranges(9, 9, 8, 8, 7, 9, 6, 7, 8, 8, 1, 1), [][2]int{{0, 1}, {3, 4}}},
		"turns":   {falls(true, false, true, false, true), ranges(5, 5, 9, 9, 5, 5, 9, 9, 5, 5, 9, 9), [][2]int{{0, 1}, {1, 2}, {2, 3}, {3, 4}, {4, 5}}},
	}
}

// P3.3
func TestCheckDoubt(t *testing.T) {
	for name, x := range lampsInDoubt() {
		l := api.ZoneLamp{Angles: list(1, 2, 4, 6, 7, 9), Lights: x.lights, Falls: x.falls, Weights: same(9, 1)}
		for i := -2; i < 9; i++ {
			for k := -2; k < 9; k++ {
				want := api.ErrSum
				if i < 0 || k > 5 || i >= k {
					want = api.ErrRange
				} else if slices.Contains(x.doubts, [2]int{i, k}) {
					want = api.OK
				}
				if e := zone.CheckDoubt(l, i, k); e != want {
					t.Error(name, i, k, e, want)
				}
			}
		}
		i, k, e := zone.Doubt(l)
		if len(x.doubts) == 0 && (i != 0 || k != 0 || e != api.ErrNone) {
			t.Error(name, i, k, e)
		}
		if len(x.doubts) > 0 && (e != api.OK || !slices.Contains(x.doubts, [2]int{i, k})) {
			t.Error(name, i, k, e)
		}
	}
}

// P3.3, the chapter's examples and numbers that are no indexes.
func TestDoubtOfL(t *testing.T) {
	if i, k, e := zone.Doubt(lampL()); i != 0 || k != 0 || e != api.ErrNone {
		t.Error(i, k, e)
	}
	// 13 to 14 is above the 12 from which the light falls, and above the 9 to
	// which it rises then.
	if i, k, e := zone.Doubt(lampC()); k != i+1 || zone.CheckDoubt(lampC(), i, k) != api.OK || e != api.OK {
		t.Error(i, k, e)
	}
	for _, x := range []struct {
		l    api.ZoneLamp
		i, k int
		e    api.Errno
	}{
		{lampL(), 0, 1, api.ErrSum},
		{lampC(), 0, 1, api.OK},
		{lampC(), 1, 2, api.OK},
		{lampC(), 0, 2, api.ErrSum},
		{lampC(), 1, 1, api.ErrRange},
		{lampC(), 1, 0, api.ErrRange},
		{lampC(), 0, 3, api.ErrRange},
		{lampC(), -1, 1, api.ErrRange},
		{lampC(), math.MinInt, math.MaxInt, api.ErrRange},
		{lampC(), math.MaxInt, math.MinInt, api.ErrRange},
		{lampC(), 0, math.MaxInt, api.ErrRange},
	} {
		if e := zone.CheckDoubt(x.l, x.i, x.k); e != x.e {
			t.Error(x, e)
		}
	}
}

// P3.4
func TestSpan(t *testing.T) {
	weighted := lampL()
	weighted.Weights = list(0, 1000, 0, 7, 0, 1)
	flat := lampL()
	flat.Lights = ranges(7, 7, 7, 7, 7, 7)
	for i, x := range []struct {
		l         api.ZoneLamp
		want      api.Range
		low, high []int64
	}{
		{lampL(), rg(31, 60), list(10, 4, 4, 4, 4, 5), list(12, 12, 12, 6, 9, 9)},
		{weighted, rg(4033, 12051), nil, nil},
		{flat, rg(42, 42), same(6, 7), same(6, 7)},
		{stripes(mostWeight), rg(0, 91*mostLight*mostWeight), same(91, 0), same(91, mostLight)},
		{stripes(0), rg(0, 0), nil, nil},
	} {
		if r, e := zone.Span(x.l); r != x.want || e != api.OK {
			t.Error(i, r, e)
		}
		for _, high := range falls(false, true) {
			end, want := x.want.Lo, x.low
			if high {
				end, want = x.want.Hi, x.high
			}
			lantern, e := zone.End(x.l, high)
			if n, f := zone.Flux(x.l, lantern); n != end || e != api.OK || f != api.OK {
				t.Error(i, high, lantern, e, f)
			}
			if want != nil && !slices.Equal(lantern, want) {
				t.Error(i, high, lantern)
			}
		}
	}
	checkSpans(t, lampC(), api.ErrClash)
}

// P3.5
func TestAt(t *testing.T) {
	for i, want := range ranges(10, 12, 4, 12, 4, 12, 4, 6, 4, 9, 5, 9) {
		if r, e := zone.At(lampL(), int64(i)); r != want || e != api.OK {
			t.Error(i, r, e)
		}
	}
	late := lampL()
	late.Angles = list(85, 88, 90)
	clash := lampC()
	clash.Angles = list(85, 88, 90)
	for i, x := range []struct {
		l      api.ZoneLamp
		degree int64
		want   api.Range
		e      api.Errno
	}{
		{late, 85, rg(10, 12), api.OK},
		{late, 89, rg(4, 9), api.OK},
		{late, 90, rg(5, 9), api.OK},
		{late, 84, rg(0, 0), api.ErrRange},
		{late, 91, rg(0, 0), api.ErrRange},
		{late, 0, rg(0, 0), api.ErrRange},
		{late, math.MinInt64, rg(0, 0), api.ErrRange},
		{late, math.MaxInt64, rg(0, 0), api.ErrRange},
		{clash, 84, rg(0, 0), api.ErrRange},
		{clash, 91, rg(0, 0), api.ErrRange},
		{clash, 85, rg(0, 0), api.ErrClash},
		{clash, 90, rg(0, 0), api.ErrClash},
	} {
		if r, e := zone.At(x.l, x.degree); r != x.want || e != x.e {
			t.Error(i, r, e)
		}
	}
}

// P3.6
func TestCoated(t *testing.T) {
	for i, x := range []struct {
		l    api.ZoneLamp
		keep api.Range
		want api.Range
		e    api.Errno
	}{
		{lampL(), rg(500, 1000), rg(15, 60), api.OK},
		{lampL(), rg(1000, 1000), rg(31, 60), api.OK},
		{lampL(), rg(999, 999), rg(25, 54), api.OK},
		{lampL(), rg(0, 0), rg(0, 0), api.OK},
		{lampL(), rg(0, 1000), rg(0, 60), api.OK},
		{lampL(), rg(250, 250), rg(7, 14), api.OK},
		{stripes(mostWeight), rg(0, 999), rg(0, 91*199*mostWeight), api.OK},
		{lampL(), rg(501, 500), rg(0, 0), api.ErrRange},
		{lampL(), rg(-1, 500), rg(0, 0), api.ErrRange},
		{lampL(), rg(500, 1001), rg(0, 0), api.ErrRange},
		{lampL(), rg(math.MinInt64, math.MaxInt64), rg(0, 0), api.ErrRange},
		{lampL(), rg(math.MaxInt64, math.MinInt64), rg(0, 0), api.ErrRange},
		{lampC(), rg(501, 500), rg(0, 0), api.ErrRange},
		{lampC(), rg(0, 1001), rg(0, 0), api.ErrRange},
		{lampC(), rg(0, 1000), rg(0, 0), api.ErrClash},
	} {
		if r, e := zone.Coated(x.l, x.keep); r != x.want || e != x.e {
			t.Error(i, r, e)
		}
	}
}

// P3.7
func TestNext(t *testing.T) {
	flat := lampL()
	flat.Lights = ranges(7, 7, 7, 7, 7, 7)
	dark := lampL()
	dark.Weights = same(6, 0)
	late := lampL()
	late.Angles = list(85, 88, 90)
	for i, x := range []struct {
		l             api.ZoneLamp
		off           int64
		degree, width int64
		e             api.Errno
	}{
		{lampL(), 0, 1, 19, api.OK},
		{late, 0, 86, 19, api.OK},
		// At 1 the light is 4 to 12: that it is 6 to 12 is the worst to be told.
		{lampL(), 6, 1, 27, api.OK},
		{lampL(), 7, 1, 28, api.OK},
		// No test tells anything now, so the first degree is meant.
		{lampL(), 8, 0, 29, api.OK},
		{lampL(), mostLight, 0, 29, api.OK},
		{flat, 0, 0, 0, api.OK},
		{dark, 0, 0, 0, api.OK},
		{stripes(mostWeight), mostLight, 0, 91 * mostLight * mostWeight, api.OK},
		{lampL(), -1, 0, 0, api.ErrRange},
		{lampL(), mostLight + 1, 0, 0, api.ErrRange},
		{lampL(), math.MinInt64, 0, 0, api.ErrRange},
		{lampL(), math.MaxInt64, 0, 0, api.ErrRange},
		{lampC(), -1, 0, 0, api.ErrRange},
		{lampC(), mostLight + 1, 0, 0, api.ErrRange},
		{lampC(), 0, 0, 0, api.ErrClash},
	} {
		if d, w, e := zone.Next(x.l, x.off); d != x.degree || w != x.width || e != x.e {
			t.Error(i, d, w, e)
		}
	}
}
