package signal_test

import (
	"math"
	"slices"
	"testing"

	"lampblack/api"
	"lampblack/signal"
)

const (
	mostPoints = api.MaxSignalPoints
	mostHazes  = api.MaxSignalHazes
	mostPlace  = api.MaxSignalPlace
	mostCode   = api.MaxSignalList
	mostRule   = 10_000
)

func at(x, y int64) api.SignalPoint { return api.SignalPoint{X: x, Y: y} }

// points returns points from their coordinates, two for each of them.
func points(n ...int64) []api.SignalPoint {
	var l []api.SignalPoint
	for i := 0; i < len(n); i += 2 {
		l = append(l, at(n[i], n[i+1]))
	}
	return l
}

// glass returns a glass of points and hazes.
func glass(l []api.SignalPoint, hazes ...[]api.SignalPoint) api.SignalGlass {
	return api.SignalGlass{Points: l, Hazes: hazes}
}

// The glasses of the chapter.
func glassG() api.SignalGlass { return glass(points(0, 0, 4, 0, 0, 4), points(0, 0, 1, 0)) }
func glassH() api.SignalGlass { return glass(points(6, 0)) }
func glassI() api.SignalGlass { return glass(points(4, 2)) }
func glassJ() api.SignalGlass { return glass(points(3, 2)) }

func line(a, b, c int64) api.SignalLine { return api.SignalLine{A: a, B: b, C: c} }

func both(x, y, den int64) api.SignalBoth { return api.SignalBoth{X: x, Y: y, Den: den} }

func code(l ...api.SignalGlass) []api.SignalGlass { return l }

// many returns as many points as wanted.
func many(n int) []api.SignalPoint { return make([]api.SignalPoint, n) }

// manyHazes returns as many hazes as wanted, of one point each.
func manyHazes(n int) [][]api.SignalPoint {
	return slices.Repeat([][]api.SignalPoint{many(1)}, n)
}

// farthest returns a glass whose area has corners as far away as can be.
func farthest() api.SignalGlass {
	way := points(-mostPlace, -mostPlace, mostPlace, -mostPlace, mostPlace, mostPlace, -mostPlace, mostPlace)
	return glass(points(0, 0, mostPlace, 0, mostPlace, mostPlace, 0, mostPlace), way, way, way, way)
}

func rightGlasses() []api.SignalGlass {
	return []api.SignalGlass{
		glassG(), glassH(), glassI(), glassJ(), farthest(),
		glass(many(1)),
		glass(many(mostPoints)),
		glass(many(mostPoints), manyHazes(mostHazes)...),
		glass(many(1), many(mostPoints), many(mostPoints), many(1), many(mostPoints)),
		glass(points(0, mostPlace, mostPlace, 0)),
		glass(points(0, 0), points(mostPlace, -mostPlace), points(-mostPlace, mostPlace)),
	}
}

// wrongGlass is a glass that is not valid, and the error of CheckGlass.
type wrongGlass struct {
	g api.SignalGlass
	e api.Errno
}

// wrongGlasses returns glasses that are not valid; many are so for a second
// reason, whose error comes later.
func wrongGlasses() []wrongGlass {
	far := at(mostPlace+1, 0)
	l := []wrongGlass{
		{glass(nil), api.ErrMany},
		{glass([]api.SignalPoint{}), api.ErrMany},
		{glass(nil, many(1)), api.ErrMany},
		{glass(nil, points(5000, 0)), api.ErrMany},
		{glass(many(mostPoints + 1)), api.ErrMany},
		{glass(append(many(mostPoints), far)), api.ErrMany},
		{glass(many(1 << 20)), api.ErrMany},
		{glass(many(1), manyHazes(mostHazes+1)...), api.ErrMany},
		{glass(points(-1, 0), manyHazes(mostHazes+1)...), api.ErrMany},
		{glass(many(1), make([][]api.SignalPoint, 1<<20)...), api.ErrMany},
		{glass(many(1), nil), api.ErrMany},
		{glass(many(1), []api.SignalPoint{}), api.ErrMany},
		{glass(many(1), many(1), many(1), many(1), nil), api.ErrMany},
		{glass(many(1), many(mostPoints+1)), api.ErrMany},
		{glass(many(1), many(1), many(mostPoints+1)), api.ErrMany},
		{glass(points(-1, 0), nil), api.ErrMany},
		{glass(points(0, 1001), many(mostPoints+1)), api.ErrMany},
		{glass(many(1), points(1001, 0), nil), api.ErrMany},
		{glass(many(1), points(1001, 0), many(1), many(mostPoints+1)), api.ErrMany},
		{glass(points(0, 0), points(0, 0, mostPlace+1, 0)), api.ErrRange},
		{glass(points(0, 0), points(0, 0), points(0, mostPlace+1)), api.ErrRange},
		{glass(points(0, 0), points(-mostPlace-1, 0)), api.ErrRange},
		{glass(points(0, 0), many(1), many(1), many(1), points(0, -mostPlace-1)), api.ErrRange},
		{glass(points(0, 0), points(math.MinInt64, 0)), api.ErrRange},
		{glass(points(0, 0), points(0, math.MaxInt64)), api.ErrRange},
	}
	for _, n := range []int64{-1, -mostPlace, mostPlace + 1, math.MinInt64, math.MaxInt64} {
		l = append(l,
			wrongGlass{glass(points(n, 0)), api.ErrRange},
			wrongGlass{glass(points(0, n)), api.ErrRange},
			wrongGlass{glass(append(many(mostPoints-1), at(n, 0))), api.ErrRange},
			wrongGlass{glass(append(many(mostPoints-1), at(0, n)), many(1)), api.ErrRange})
	}
	return l
}

// P6.1
func TestCheckGlass(t *testing.T) {
	for i, g := range rightGlasses() {
		if e := signal.CheckGlass(g); e != api.OK {
			t.Error(i, e)
		}
	}
	for i, x := range wrongGlasses() {
		if e := signal.CheckGlass(x.g); e != x.e {
			t.Error(i, e, x.e)
		}
	}
}

// Functions with g return the error of CheckGlass for it before all others.
func TestGlassFirst(t *testing.T) {
	for i, x := range wrongGlasses() {
		if l, e := signal.Area(x.g); len(l) != 0 || e != x.e {
			t.Error(i, l, e)
		}
		for _, p := range points(0, 0, 1<<41, 0) {
			if is, e := signal.Holds(x.g, p); is || e != x.e {
				t.Error(i, p, is, e)
			}
		}
		for _, rule := range [][]api.SignalPoint{nil, many(1), many(13), points(10_001, 0)} {
			if p, e := signal.Outside(x.g, rule); p != at(0, 0) || e != x.e {
				t.Error(i, rule, p, e)
			}
		}
		for _, other := range code(glassG(), glass(nil), glass(points(-1, 0))) {
			checkPairError(t, x.g, other, x.e)
		}
		for _, first := range rightGlasses() {
			checkPairError(t, first, x.g, x.e)
		}
	}
}

// checkPairError checks that the functions of two glasses return an error.
func checkPairError(t *testing.T, g, h api.SignalGlass, want api.Errno) {
	t.Helper()
	for _, l := range []api.SignalLine{line(1, 0, 0), line(0, 0, 0), line(-1, 0, -1e6)} {
		if e := signal.CheckLine(g, h, l); e != want {
			t.Error(g, h, l, e, want)
		}
	}
	for _, x := range []api.SignalBoth{both(0, 0, 1), both(0, 0, 0), both(9999, 0, 1)} {
		if e := signal.CheckBoth(g, h, x); e != want {
			t.Error(g, h, x, e, want)
		}
	}
	if l, e := signal.Part(g, h); l != line(0, 0, 0) || e != want {
		t.Error(g, h, l, e, want)
	}
	if x, e := signal.Both(g, h); x != both(0, 0, 0) || e != want {
		t.Error(g, h, x, e, want)
	}
	if r, e := signal.Gap(g, h); r != (api.Ratio{}) || e != want {
		t.Error(g, h, r, e, want)
	}
}

// P6.2
func TestArea(t *testing.T) {
	for i, x := range []struct {
		g    api.SignalGlass
		want []api.SignalPoint
	}{
		{glassG(), points(0, 0, 5, 0, 1, 4, 0, 4)},
		{glassH(), points(6, 0)},
		{glass(many(12)), points(0, 0)},
		{glass(points(7, 8, 7, 8, 7, 8), points(-9, 1), points(1, 1)), points(-1, 10)},
		// Straight pieces have two corners.
		{glass(points(3, 3, 1, 1, 2, 2)), points(1, 1, 3, 3)},
		{glass(points(3, 1, 2, 2, 1, 3)), points(1, 3, 3, 1)},
		{glass(points(5, 9, 5, 2, 5, 4)), points(5, 2, 5, 9)},
		{glass(points(9, 5, 2, 5, 4, 5)), points(2, 5, 9, 5)},
		{glass(points(0, 0, 2, 1), points(0, 0, 4, 2), points(-2, -1, 0, 0)), points(-2, -1, 6, 3)},
		// Of several with the least X the one with the least Y is first.
		{glass(points(0, 2, 0, 1, 0, 0, 3, 0)), points(0, 0, 3, 0, 0, 2)},
		{glass(points(0, 3, 3, 3, 0, 1)), points(0, 1, 3, 3, 0, 3)},
		// Points on a side are no corners, nor are those within.
		{glass(points(0, 0, 1, 0, 2, 0, 2, 1, 2, 2, 1, 2, 0, 2, 0, 1, 1, 1)), points(0, 0, 2, 0, 2, 2, 0, 2)},
		// Two pieces across each other make a square.
		{glass(points(5, 5), points(-1, 0, 1, 0), points(0, -1, 0, 1)), points(4, 4, 6, 4, 6, 6, 4, 6)},
		{glass(points(5, 5), points(-1, -1, 1, 1), points(-1, 1, 1, -1)), points(3, 5, 5, 3, 7, 5, 5, 7)},
		{glass(points(0, 0, 2, 1, 1, 3), points(0, 0, -1, -2)), points(-1, -2, 1, -1, 2, 1, 1, 3, 0, 1)},
		{farthest(), points(-4000, -4000, 5000, -4000, 5000, 5000, -4000, 5000)},
	} {
		if l, e := signal.Area(x.g); !slices.Equal(l, x.want) || e != api.OK {
			t.Error(i, l, e, x.want)
		}
	}
}

// P6.2: each of 12 points and of 48 points of hazes is at a corner.
func TestMostCorners(t *testing.T) {
	g := glass(round(500, 500, 400, 0))
	for i := range mostHazes {
		g.Hazes = append(g.Hazes, round(0, 0, 900, float64(i+1)/10))
	}
	if l, e := signal.Area(g); len(l) != mostPoints*(mostHazes+1) || e != api.OK {
		t.Error(len(l), l, e)
	}
}

// round returns 12 points on a circle, turned by part of the way between two.
func round(x, y, radius, turn float64) []api.SignalPoint {
	var l []api.SignalPoint
	for i := range 12 {
		sin, cos := math.Sincos((float64(i) + turn) * math.Pi / 6)
		l = append(l, at(int64(x+radius*cos), int64(y+radius*sin)))
	}
	return l
}

// P6.3
func TestHolds(t *testing.T) {
	for i, x := range []struct {
		g    api.SignalGlass
		p    api.SignalPoint
		want bool
	}{
		{glassG(), at(3, 2), true},
		{glassG(), at(3, 3), false},
		{glassG(), at(0, 0), true},
		{glassG(), at(5, 0), true},
		{glassG(), at(1, 4), true},
		{glassG(), at(2, 0), true},
		{glassG(), at(2, -1), false},
		{glassG(), at(-1, 2), false},
		{glassG(), at(0, 5), false},
		{glassG(), at(6, 0), false},
		{glassH(), at(6, 0), true},
		{glassH(), at(6, 1), false},
		{glassH(), at(5, 0), false},
		{glassH(), at(7, 0), false},
		{glassH(), at(0, 0), false},
		// On a straight piece, straight before and behind it, and beside it.
		{glass(points(1, 1, 3, 3)), at(2, 2), true},
		{glass(points(1, 1, 3, 3)), at(3, 3), true},
		{glass(points(1, 1, 3, 3)), at(0, 0), false},
		{glass(points(1, 1, 3, 3)), at(4, 4), false},
		{glass(points(1, 1, 3, 3)), at(2, 1), false},
		{glass(points(1, 1, 3, 3)), at(1, 2), false},
		{glass(points(1, 1, 4, 3)), at(2, 2), false},
		{glass(points(2, 1, 2, 5)), at(2, 3), true},
		{glass(points(2, 1, 2, 5)), at(2, 6), false},
		{glass(points(2, 1, 2, 5)), at(2, 0), false},
		{glass(points(1, 2, 5, 2)), at(6, 2), false},
		{farthest(), at(-4000, 5000), true},
		{farthest(), at(-4001, 5000), false},
		{farthest(), at(5000, 5001), false},
		{farthest(), at(api.MaxNumber, api.MaxNumber), false},
		{farthest(), at(-api.MaxNumber, api.MaxNumber), false},
		{glassG(), at(-api.MaxNumber, -api.MaxNumber), false},
	} {
		if is, e := signal.Holds(x.g, x.p); is != x.want || e != api.OK {
			t.Error(i, is, e)
		}
	}
	for _, n := range []int64{api.MaxNumber + 1, -api.MaxNumber - 1, math.MinInt64, math.MaxInt64} {
		for _, p := range points(n, 0, 0, n, n, n) {
			if is, e := signal.Holds(glassG(), p); is || e != api.ErrRange {
				t.Error(p, is, e)
			}
		}
	}
}

// P6.4
func TestOutside(t *testing.T) {
	for i, x := range []struct {
		g    api.SignalGlass
		rule []api.SignalPoint
		p    api.SignalPoint
		e    api.Errno
	}{
		{glassG(), points(0, 0, 5, 0, 5, 4, 0, 4), at(0, 0), api.ErrNone},
		{glassG(), points(0, 0, 4, 0, 4, 4, 0, 4), at(5, 0), api.OK},
		{glassG(), points(0, 0, 5, 0, 1, 4, 0, 4), at(0, 0), api.ErrNone},
		{glassG(), points(0, 4, 1, 4, 5, 0, 0, 0, 2, 2), at(0, 0), api.ErrNone},
		// The first corner can be 0 0, which is a point as others are.
		{glassG(), points(1, 0, 5, 0, 5, 4, 0, 4), at(0, 0), api.OK},
		{glassG(), points(9, 9), at(0, 0), api.OK},
		{glassG(), points(0, 0, 5, 0), at(1, 4), api.OK},
		{glassG(), points(0, 0, 5, 0, 1, 4), at(0, 4), api.OK},
		{glassH(), points(6, 0), at(0, 0), api.ErrNone},
		{glassH(), points(6, 1), at(6, 0), api.OK},
		{glassH(), points(5, 0, 7, 0), at(0, 0), api.ErrNone},
		{glassH(), points(4, 0, 5, 0), at(6, 0), api.OK},
		{glass(points(1, 1, 3, 3)), points(0, 0, 4, 4), at(0, 0), api.ErrNone},
		{glass(points(1, 1, 3, 3)), points(0, 0, 2, 2), at(3, 3), api.OK},
		{farthest(), points(-10_000, 0, 0, -10_000, 10_000, 0, 0, 10_000), at(0, 0), api.ErrNone},
		{farthest(), points(-9_000, 0, 0, -9_000, 9_000, 0, 0, 9_000), at(5000, 5000), api.OK},
		{farthest(), points(-10_000, -10_000, 10_000, -10_000, 10_000, 10_000, -10_000, 10_000), at(0, 0), api.ErrNone},
		{glassG(), append(many(11), at(mostRule, -mostRule)), at(5, 0), api.OK},
		{glassG(), append(many(11), at(-mostRule, mostRule)), at(5, 0), api.OK},
		{glassG(), nil, at(0, 0), api.ErrMany},
		{glassG(), []api.SignalPoint{}, at(0, 0), api.ErrMany},
		{glassG(), many(13), at(0, 0), api.ErrMany},
		{glassG(), many(1 << 20), at(0, 0), api.ErrMany},
		{glassG(), append(many(12), at(mostRule+1, 0)), at(0, 0), api.ErrMany},
		{glassG(), points(0, 0, mostRule+1, 0), at(0, 0), api.ErrRange},
		{glassG(), points(0, 0, 0, mostRule+1), at(0, 0), api.ErrRange},
		{glassG(), append(many(11), at(-mostRule-1, 0)), at(0, 0), api.ErrRange},
		{glassG(), points(0, -mostRule-1), at(0, 0), api.ErrRange},
		{glassG(), points(math.MinInt64, 0), at(0, 0), api.ErrRange},
		{glassG(), points(0, math.MaxInt64), at(0, 0), api.ErrRange},
	} {
		if p, e := signal.Outside(x.g, x.rule); p != x.p || e != x.e {
			t.Error(i, p, e)
		}
	}
}

// P6.5
func TestCheckLine(t *testing.T) {
	const most = api.MaxSignalLine
	for i, x := range []struct {
		h api.SignalGlass
		l api.SignalLine
		e api.Errno
	}{
		{glassH(), line(1, 0, 5), api.OK},
		{glassH(), line(1, 0, 6), api.ErrSum},
		{glassH(), line(0, 1, 0), api.ErrSum},
		{glassH(), line(1, 0, 4), api.ErrSum},
		{glassH(), line(-1, 0, -6), api.ErrSum},
		{glassH(), line(2, 1, 10), api.OK},
		{glassH(), line(2, 1, 11), api.OK},
		{glassH(), line(2, 1, 12), api.ErrSum},
		{glassH(), line(2, 1, 9), api.ErrSum},
		{glassI(), line(1, 1, 5), api.OK},
		{glassJ(), line(1, 1, 5), api.ErrSum},
		{glassH(), line(0, 0, 0), api.ErrArg},
		{glassH(), line(0, 0, 5), api.ErrArg},
		{glassH(), line(most, 0, 5*most), api.OK},
		{glassH(), line(most, most, 5*most), api.OK},
		{glassH(), line(most, -most, 5*most), api.OK},
		{glassH(), line(most+1, 0, 5*most+5), api.ErrArg},
		{glassH(), line(0, most+1, 0), api.ErrArg},
		{glassH(), line(most, most+1, 0), api.ErrArg},
		{glassH(), line(-most, -most, 0), api.ErrSum},
		{glassH(), line(-most-1, 0, 0), api.ErrArg},
		{glassH(), line(0, -most-1, 0), api.ErrArg},
		{glassH(), line(1, 0, api.MaxNumber), api.ErrSum},
		{glassH(), line(1, 0, -api.MaxNumber), api.ErrSum},
		{glassH(), line(1, 0, api.MaxNumber+1), api.ErrArg},
		{glassH(), line(1, 0, -api.MaxNumber-1), api.ErrArg},
		{glassH(), line(math.MinInt64, 0, 0), api.ErrArg},
		{glassH(), line(0, math.MinInt64, 0), api.ErrArg},
		{glassH(), line(1, 0, math.MinInt64), api.ErrArg},
		{glassH(), line(math.MaxInt64, math.MaxInt64, math.MaxInt64), api.ErrArg},
	} {
		if e := signal.CheckLine(glassG(), x.h, x.l); e != x.e {
			t.Error(i, e, x.e)
		}
	}
	// The order of the glasses matters.
	if e := signal.CheckLine(glassH(), glassG(), line(-1, 0, -6)); e != api.OK {
		t.Error(e)
	}
	if e := signal.CheckLine(glassH(), glassG(), line(1, 0, 5)); e != api.ErrSum {
		t.Error(e)
	}
}

// P6.5
func TestCheckBoth(t *testing.T) {
	const most = api.MaxSignalDen
	wide := glass(points(0, 0, 4, 0, 0, 4))
	for i, x := range []struct {
		h api.SignalGlass
		x api.SignalBoth
		e api.Errno
	}{
		{glassJ(), both(3, 2, 1), api.OK},
		{glassJ(), both(9, 6, 3), api.OK},
		{glassJ(), both(3*most, 2*most, most), api.OK},
		{glassJ(), both(3, 2, 2), api.ErrSum},
		{glassJ(), both(2, 2, 1), api.ErrSum},
		{glassI(), both(4, 2, 1), api.ErrSum},
		{glassI(), both(3, 2, 1), api.ErrSum},
		{glassH(), both(6, 0, 1), api.ErrSum},
		{wide, both(1, 1, 1), api.OK},
		{wide, both(1, 1, 2), api.OK},
		{wide, both(7, 1, 2), api.OK},
		{wide, both(7, 2, 2), api.ErrSum},
		{wide, both(-1, 1, 2), api.ErrSum},
		{wide, both(-1, 1, most), api.ErrSum},
		{wide, both(1, -1, most), api.ErrSum},
		{wide, both(0, 0, most), api.OK},
		{wide, both(2*most+1, 2*most, most), api.ErrSum},
		{wide, both(2*most+1, 2*most-1, most), api.OK},
		{wide, both(0, 0, 0), api.ErrArg},
		{wide, both(0, 0, -1), api.ErrArg},
		{wide, both(1, 1, -1), api.ErrArg},
		{wide, both(-1, -1, -1), api.ErrArg},
		{wide, both(0, 0, most+1), api.ErrArg},
		{wide, both(1, 1, math.MinInt64), api.ErrArg},
		{wide, both(1, 1, math.MaxInt64), api.ErrArg},
		{wide, both(api.MaxNumber, 0, 1), api.ErrSum},
		{wide, both(0, -api.MaxNumber, 1), api.ErrSum},
		{wide, both(-api.MaxNumber, api.MaxNumber, most), api.ErrSum},
		{wide, both(api.MaxNumber+1, 0, 1), api.ErrArg},
		{wide, both(-api.MaxNumber-1, 0, 1), api.ErrArg},
		{wide, both(0, api.MaxNumber+1, 1), api.ErrArg},
		{wide, both(0, -api.MaxNumber-1, 1), api.ErrArg},
		{wide, both(math.MinInt64, 0, 1), api.ErrArg},
		{wide, both(0, math.MinInt64, 1), api.ErrArg},
	} {
		if e := signal.CheckBoth(glassG(), x.h, x.x); e != x.e {
			t.Error(i, e, x.e)
		}
		if e := signal.CheckBoth(x.h, glassG(), x.x); e != x.e {
			t.Error(i, e, x.e)
		}
	}
}

// P6.7, and P6.6 for the same glasses
func TestGap(t *testing.T) {
	for i, x := range []struct {
		g, h     api.SignalGlass
		num, den int64
	}{
		{glassG(), glassH(), 1, 1},
		{glassG(), glassI(), 1, 2},
		{glassG(), glassJ(), 0, 1},
		{glassG(), glassG(), 0, 1},
		{glassH(), glassI(), 8, 1},
		{glassH(), glassH(), 0, 1},
		// Pieces that lie straight one behind the other.
		{glass(points(0, 0, 2, 1)), glass(points(6, 3, 8, 4)), 20, 1},
		{glass(points(0, 0, 2, 1)), glass(points(2, 1, 8, 4)), 0, 1},
		{glass(points(0, 0, 5, 5)), glass(points(2, 2, 3, 3)), 0, 1},
		// Pieces beside each other, and across each other.
		{glass(points(0, 0, 3, 3)), glass(points(1, 0, 4, 3)), 1, 2},
		{glass(points(0, 0, 3, 2)), glass(points(0, 2, 3, 0)), 0, 1},
		{glass(points(0, 0, 3, 2)), glass(points(1, 1, 3, 6)), 1, 13},
		{glass(points(0, 0)), glass(points(0, 5, 5, 0)), 25, 2},
		{glass(points(0, 0)), glass(points(1000, 999, 1000, 1000)), 1998001, 1},
		// One within the other.
		{glass(points(0, 0, 9, 0, 0, 9)), glass(points(2, 2, 3, 2, 2, 3)), 0, 1},
		// Sides that touch, and sides 3 / 5 apart.
		{glass(points(0, 0, 4, 3, 0, 3)), glass(points(4, 3, 8, 6, 9, 0)), 0, 1},
		{glass(points(0, 0, 4, 3, 0, 3)), glass(points(1, 0, 5, 3, 9, 0)), 9, 25},
		{farthest(), farthest(), 0, 1},
		{glass(points(0, 0), points(-1000, -1000), points(-1000, -1000), points(-1000, -1000), points(-1000, -1000)),
			glass(points(1000, 1000), points(1000, 1000), points(1000, 1000), points(1000, 1000), points(1000, 1000)), 162_000_000, 1},
	} {
		for _, l := range [][]api.SignalGlass{code(x.g, x.h), code(x.h, x.g)} {
			if r, e := signal.Gap(l[0], l[1]); r != (api.Ratio{Num: x.num, Den: x.den}) || e != api.OK {
				t.Error(i, r, e)
			}
			checkProof(t, l[0], l[1], x.num == 0)
		}
	}
}

// checkProof checks that a line or a light is found, whichever there is.
func checkProof(t *testing.T, g, h api.SignalGlass, clash bool) {
	t.Helper()
	l, le := signal.Part(g, h)
	x, xe := signal.Both(g, h)
	if clash {
		if l != line(0, 0, 0) || le != api.ErrClash {
			t.Error(g, h, l, le)
		}
		if e := signal.CheckBoth(g, h, x); xe != api.OK || e != api.OK {
			t.Error(g, h, x, xe, e)
		}
		return
	}
	if x != both(0, 0, 0) || xe != api.ErrNone {
		t.Error(g, h, x, xe)
	}
	if e := signal.CheckLine(g, h, l); le != api.OK || e != api.OK {
		t.Error(g, h, l, le, e)
	}
}

// P6.6: the chapter's example.
func TestPart(t *testing.T) {
	if l, e := signal.Part(glassG(), glassJ()); l != line(0, 0, 0) || e != api.ErrClash {
		t.Error(l, e)
	}
	checkProof(t, glassG(), glassJ(), true)
	checkProof(t, glassG(), glassH(), false)
	checkProof(t, glassG(), glassI(), false)
}

// P6.8
func TestClash(t *testing.T) {
	g, h, i, j := glassG(), glassH(), glassI(), glassJ()
	k, l := glass(points(50, 50)), glass(points(60, 60))
	for n, x := range []struct {
		code []api.SignalGlass
		a, b int
		e    api.Errno
	}{
		{code(g, i, j), 0, 2, api.OK},
		{nil, 0, 0, api.ErrNone},
		{code(), 0, 0, api.ErrNone},
		{code(g), 0, 0, api.ErrNone},
		{code(g, g), 0, 1, api.OK},
		{code(h, i, j, k, l), 0, 0, api.ErrNone},
		{code(h, i, j, j, i, h), 0, 5, api.OK},
		{code(k, i, l, j, j, i, j), 1, 5, api.OK},
		{code(k, j, g, i, j, l, j, g), 1, 2, api.OK},
		{code(k, i, l, j, h, h, j, g), 3, 6, api.OK},
		{code(k, l, h, i, glass(points(70, 0)), glass(points(80, 0)), g, g), 6, 7, api.OK},
		{slices.Repeat(code(g), mostCode), 0, 1, api.OK},
		{slices.Repeat(code(g), mostCode+1), 0, 0, api.ErrMany},
		{slices.Repeat(code(glass(nil)), mostCode+1), 0, 0, api.ErrMany},
		{slices.Repeat(code(g), 1<<16), 0, 0, api.ErrMany},
		{code(glass(nil)), 0, 0, api.ErrMany},
		{code(g, g, glass(nil)), 0, 0, api.ErrMany},
		{code(g, g, glass(points(-1, 0))), 0, 0, api.ErrRange},
		{code(g, glass(points(-1, 0)), glass(nil)), 0, 0, api.ErrRange},
		{code(g, glass(nil), glass(points(-1, 0))), 0, 0, api.ErrMany},
		{append(slices.Repeat(code(g), mostCode-1), glass(points(0, 1001))), 0, 0, api.ErrRange},
	} {
		if a, b, e := signal.Clash(x.code); a != x.a || b != x.b || e != x.e {
			t.Error(n, a, b, e)
		}
	}
}
