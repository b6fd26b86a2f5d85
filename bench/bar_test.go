package bench_test

import (
	"math"
	"testing"

	"lampblack/api"
	"lampblack/bench"
)

// bar returns a bar of which its numbers are told in the order of their fields.
func bar(n ...int64) api.BenchBar {
	r := ranges(n[2:]...)
	return api.BenchBar{Long: n[0], Near: n[1], Power: r[0], Screen: r[1], Stray: r[2]}
}

func truth(power, screen, stray int64) api.BenchTrue {
	return api.BenchTrue{Power: power, Screen: screen, Stray: stray}
}

const (
	mostPower = api.MaxBenchPower
	mostLong  = api.MaxBenchLong
	mostStray = api.MaxBenchStray
)

// rightBars returns bars on which the law of squares holds, many only just.
func rightBars() []api.BenchBar {
	return []api.BenchBar{
		bar(300, 50, 100, 100, 100, 150, 0, 0),
		bar(300, 50, 100, 100, 100, 150, 0, 1000),
		bar(300, 50, 100, 100, 50, 250, 0, 1000),
		bar(2, 1, 1, 1, 1, 1, 0, 0),
		bar(3, 1, 1, 1, 1, 2, 0, 0),
		bar(4, 2, 1, 7, 2, 2, 3, 9),
		bar(mostLong, 1, 1, mostPower, 1, mostLong-1, 0, mostStray),
		bar(mostLong, 1, 1, 1, mostLong-1, mostLong-1, mostStray, mostStray),
		bar(mostLong, mostLong/2, mostPower, mostPower, mostLong/2, mostLong/2, 0, 0),
	}
}

// wrongBars returns bars that are not valid, each for one reason, and most of
// them against the law of squares, too.
func wrongBars() []api.BenchBar {
	return []api.BenchBar{
		{},
		bar(1, 1, 100, 100, 1, 1, 0, 0),
		bar(0, 1, 100, 100, 1, 1, 0, 0),
		bar(-300, 50, 100, 100, 100, 150, 0, 0),
		bar(math.MinInt64, 1, 100, 100, 1, 1, 0, 0),
		bar(mostLong+1, 50, 100, 100, 100, 150, 0, 0),
		bar(math.MaxInt64, 50, 100, 100, 100, 150, 0, 0),
		bar(300, 0, 100, 100, 100, 150, 0, 0),
		bar(300, -1, 100, 100, 100, 150, 0, 0),
		bar(300, math.MinInt64, 100, 100, 100, 150, 0, 0),
		bar(300, 301, 100, 100, 100, 150, 0, 0),
		bar(300, math.MaxInt64, 100, 100, 100, 150, 0, 0),
		bar(300, 50, 101, 100, 100, 150, 0, 0),
		bar(300, 50, 0, 100, 100, 150, 0, 0),
		bar(300, 50, 100, mostPower+1, 100, 150, 0, 0),
		bar(300, 50, math.MinInt64, math.MaxInt64, 100, 150, 0, 0),
		bar(300, 50, 100, 100, 150, 100, 0, 0),
		bar(300, 50, 100, 100, 0, 150, 0, 0),
		bar(300, 50, 100, 100, 100, 300, 0, 0),
		bar(300, 50, 100, 100, 300, 300, 0, 0),
		bar(300, 50, 100, 100, math.MinInt64, math.MaxInt64, 0, 0),
		bar(300, 50, 100, 100, 100, math.MinInt64, 0, 0),
		bar(300, 50, 100, 100, 100, 150, 1, 0),
		bar(300, 50, 100, 100, 100, 150, -1, 0),
		bar(300, 50, 100, 100, 100, 150, 0, mostStray+1),
		bar(300, 50, 100, 100, 100, 150, math.MinInt64, math.MaxInt64),
		// What is not valid comes before what breaks the law.
		bar(300, 101, 100, 100, 100, 150, 1, 0),
		bar(300, 300, 101, 100, 100, 150, 0, 0),
	}
}

// lawlessBars returns valid bars on which the law of squares does not hold.
func lawlessBars() []api.BenchBar {
	return []api.BenchBar{
		bar(300, 101, 100, 100, 100, 150, 0, 0),
		bar(300, 50, 100, 100, 49, 150, 0, 0),
		bar(300, 151, 100, 100, 151, 151, 0, 0),
		bar(300, 50, 100, 100, 100, 251, 0, 0),
		bar(300, 300, 100, 100, 100, 150, 0, 0),
		bar(300, 2, 1, 1, 1, 2, 0, 0),
		bar(2, 2, 1, 1, 1, 1, 0, 0),
		bar(300, 2, 1, 1, 298, 299, 0, 0),
		bar(mostLong, mostLong/2+1, 1, 1, mostLong/2, mostLong/2, 0, 0),
	}
}

// P2.9
func TestCheckBar(t *testing.T) {
	for _, b := range rightBars() {
		if e := bench.CheckBar(b); e != api.OK {
			t.Error(b, e)
		}
	}
	for _, b := range wrongBars() {
		if e := bench.CheckBar(b); e != api.ErrArg {
			t.Error(b, e)
		}
	}
	for _, b := range lawlessBars() {
		if e := bench.CheckBar(b); e != api.ErrRule {
			t.Error(b, e)
		}
	}
}

// Functions with a bar return the error of CheckBar before all others.
func TestBarFirst(t *testing.T) {
	for _, b := range append(wrongBars(), lawlessBars()...) {
		want := bench.CheckBar(b)
		for _, x := range []api.BenchTrue{{}, truth(100, 100, 0), truth(-1, 5, 1001), truth(b.Power.Lo, b.Screen.Lo, b.Stray.Lo)} {
			if r, e := bench.Value(b, x); r != (api.Ratio{}) || e != want {
				t.Error(b, x, r, e)
			}
		}
		if s, e := bench.Span(b); s != (api.BenchSpan{}) || e != want {
			t.Error(b, s, e)
		}
	}
}

// P2.10
func TestValue(t *testing.T) {
	wide := bar(300, 50, 90, 110, 100, 150, 2, 1000)
	for _, x := range []struct {
		b    api.BenchBar
		x    api.BenchTrue
		want api.Ratio
		e    api.Errno
	}{
		{bar(300, 50, 100, 100, 100, 150, 0, 0), truth(100, 100, 0), of(400, 1), api.OK},
		{bar(300, 50, 100, 100, 100, 150, 0, 0), truth(100, 150, 0), of(100, 1), api.OK},
		{bar(300, 50, 100, 100, 100, 150, 0, 1000), truth(100, 150, 1000), of(155, 2), api.OK},
		{bar(300, 50, 100, 100, 100, 150, 0, 1000), truth(100, 120, 0), of(225, 1), api.OK},
		{bar(300, 50, 100, 100, 100, 150, 0, 1000), truth(100, 110, 7), of(999153*19*19, 121*10000), api.OK},
		{bar(2, 1, 1, 1, 1, 1, 0, 1), truth(1, 1, 0), of(1, 1), api.OK},
		{bar(2, 1, 1, 1, 1, 1, 0, 1), truth(1, 1, 1), of(999999, 1000000), api.OK},
		{bar(3, 1, 1, 1, 1, 2, 0, 1), truth(1, 2, 0), of(1, 4), api.OK},
		{bar(3, 1, 1, 1, 1, 2, 0, 1), truth(1, 1, 0), of(4, 1), api.OK},
		// The stray light is just all of it, or more.
		{bar(200, 50, 1, 50, 50, 100, 0, 1000), truth(10, 100, 1000), of(0, 1), api.OK},
		{bar(200, 50, 1, 50, 50, 100, 0, 1000), truth(9, 100, 1000), of(0, 1), api.OK},
		{bar(200, 50, 1, 50, 50, 100, 0, 1000), truth(11, 100, 1000), of(1, 1), api.OK},
		{bar(200, 50, 1, 50, 50, 100, 0, 1000), truth(10, 100, 999), of(1, 100), api.OK},
		// Only one part of BenchPart of the light is left.
		{bar(1000, 1, 1, 200, 1, 999, 0, 1000), truth(190, 567, 591), of(433*433, 567*567*1000000), api.OK},
		{bar(mostLong, 1, 1, mostPower, 1, mostLong-1, 0, mostStray), truth(mostPower, 1, 0), of(mostPower*4999*4999, 1), api.OK},
		{bar(mostLong, 1, 1, mostPower, 1, mostLong-1, 0, mostStray), truth(mostPower, 1, 1), of(99999999999*4999*4999, 1000000), api.OK},
		{bar(mostLong, 1, 1, mostPower, 1, mostLong-1, 0, mostStray), truth(1, mostLong-1, mostStray), of(0, 1), api.OK},
		{bar(mostLong, 1, 1, mostPower, 1, mostLong-1, 0, mostStray), truth(1, mostLong-1, 0), of(1, 4999*4999), api.OK},
		{bar(mostLong, 1, 1, mostPower, 1, mostLong-1, 0, mostStray), truth(mostPower, mostLong-1, 1), of(100000*1000000-4999*4999, 4999*4999*1000000), api.OK},
		{wide, truth(89, 100, 2), of(0, 0), api.ErrRange},
		{wide, truth(111, 100, 2), of(0, 0), api.ErrRange},
		{wide, truth(100, 99, 2), of(0, 0), api.ErrRange},
		{wide, truth(100, 151, 2), of(0, 0), api.ErrRange},
		{wide, truth(100, 100, 1), of(0, 0), api.ErrRange},
		{wide, truth(100, 100, 1001), of(0, 0), api.ErrRange},
		{wide, api.BenchTrue{}, of(0, 0), api.ErrRange},
		{wide, truth(math.MinInt64, 100, 2), of(0, 0), api.ErrRange},
		{wide, truth(100, math.MaxInt64, 2), of(0, 0), api.ErrRange},
		{wide, truth(100, 100, math.MaxInt64), of(0, 0), api.ErrRange},
	} {
		if r, e := bench.Value(x.b, x.x); r != x.want || e != x.e {
			t.Error(x, r, e)
		}
	}
	for _, x := range []api.BenchTrue{truth(90, 100, 2), truth(110, 150, 1000), truth(90, 150, 2), truth(110, 100, 1000)} {
		if r, e := bench.Value(wide, x); rat(r).Cmp(powerOf(wide, x)) != 0 || e != api.OK {
			t.Error(x, r, e)
		}
	}
}

// P2.10
func TestSpan(t *testing.T) {
	for _, x := range []struct {
		b      api.BenchBar
		lo, hi api.Ratio
	}{
		{bar(300, 50, 100, 100, 100, 150, 0, 0), of(100, 1), of(400, 1)},
		{bar(300, 50, 100, 100, 100, 150, 0, 1000), of(155, 2), of(400, 1)},
		{bar(300, 50, 100, 100, 100, 150, 1000, 1000), of(155, 2), of(360, 1)},
		{bar(300, 50, 90, 110, 100, 150, 0, 1000), of(135, 2), of(440, 1)},
		{bar(200, 50, 10, 10, 100, 100, 1000, 1000), of(0, 1), of(0, 1)},
		{bar(200, 50, 9, 9, 100, 100, 1000, 1000), of(0, 1), of(0, 1)},
		{bar(200, 50, 1, 11, 100, 100, 0, 1000), of(0, 1), of(11, 1)},
		{bar(2, 1, 1, 1, 1, 1, 0, 0), of(1, 1), of(1, 1)},
		{bar(mostLong, 1, 1, mostPower, 1, mostLong-1, 0, mostStray), of(0, 1), of(mostPower*4999*4999, 1)},
		{bar(mostLong, 1, 1, mostPower, 1, mostLong-1, 0, 0), of(1, 4999*4999), of(mostPower*4999*4999, 1)},
	} {
		if s, e := bench.Span(x.b); s != (api.BenchSpan{Lo: x.lo, Hi: x.hi}) || e != api.OK {
			t.Error(x, s, e)
		}
	}
}
