package bench_test

import (
	"math"
	"slices"
	"testing"

	"lampblack/api"
	"lampblack/bench"
)

// programme returns the pairs of which two numbers each are told.
func programme(places ...int) []api.BenchPair {
	var p []api.BenchPair
	for i := 0; i < len(places); i += 2 {
		p = append(p, api.BenchPair{Left: places[i], Right: places[i+1]})
	}
	return p
}

// The programmes of the chapter.
func pp() []api.BenchPair { return programme(0, 1, 1, 2, 0, 1) }
func qq() []api.BenchPair { return programme(0, 1, 1, 2) }
func rr() []api.BenchPair { return programme(1, 2, 0, 1) }

// same returns a programme of so many times the pair 0 1.
func same(n int) []api.BenchPair { return slices.Repeat(programme(0, 1), n) }

// bubbles returns a programme of lamps (lamps - 1) / 2 neighbours that puts all rows in order.
func bubbles(lamps int) []api.BenchPair {
	var p []api.BenchPair
	for end := lamps - 1; end > 0; end-- {
		for i := range end {
			p = append(p, api.BenchPair{Left: i, Right: i + 1})
		}
	}
	return p
}

func row(powers ...int64) []int64 { return powers }

func ranges(ends ...int64) []api.Range {
	var l []api.Range
	for i := 0; i < len(ends); i += 2 {
		l = append(l, api.Range{Lo: ends[i], Hi: ends[i+1]})
	}
	return l
}

func of(num, den int64) api.Ratio { return api.Ratio{Num: num, Den: den} }

// wrongProgramme is what is no programme for a number of lamps.
type wrongProgramme struct {
	lamps int
	p     []api.BenchPair
	e     api.Errno
}

func wrongProgrammes() []wrongProgramme {
	l := []wrongProgramme{
		{3, same(81), api.ErrMany},
		{12, same(4096), api.ErrMany},
		{3, slices.Repeat(programme(1, 0), 81), api.ErrMany},
		{3, slices.Repeat(programme(1, 0), 80), api.ErrRange},
		{3, append(same(79), programme(2, 3)...), api.ErrRange},
		{3, append(programme(-1, 1), same(2)...), api.ErrRange},
	}
	for _, lamps := range []int{math.MinInt, -1, 0, 1, 13, 64, math.MaxInt} {
		for _, p := range [][]api.BenchPair{nil, {}, same(1), same(81), programme(1, 0), programme(0, math.MaxInt)} {
			l = append(l, wrongProgramme{lamps, p, api.ErrArg})
		}
	}
	for _, lamps := range []int{2, 3, 7, 12} {
		for _, p := range [][]api.BenchPair{
			programme(0, 0), programme(1, 1), programme(1, 0), programme(-1, 0), programme(-1, 1), programme(-2, -1),
			programme(0, -1), programme(0, lamps), programme(lamps-1, lamps), programme(lamps, lamps+1),
			programme(lamps-1, lamps-1), programme(lamps-1, 0), programme(math.MinInt, 1), programme(0, math.MaxInt),
			programme(math.MinInt, math.MaxInt), programme(math.MaxInt, math.MinInt), programme(0, math.MinInt),
			programme(0, 1, 1, 0), programme(0, 1, 0, 1, 0, lamps, 0, 1),
		} {
			l = append(l, wrongProgramme{lamps, p, api.ErrRange})
		}
	}
	return l
}

// P2.1
func TestCheckProgramme(t *testing.T) {
	for lamps := 2; lamps <= 12; lamps++ {
		for _, p := range [][]api.BenchPair{nil, {}, same(1), same(80), programme(0, lamps-1), programme(lamps-2, lamps-1), bubbles(lamps)} {
			if e := bench.CheckProgramme(lamps, p); e != api.OK {
				t.Error(lamps, p, e)
			}
		}
	}
	for _, x := range wrongProgrammes() {
		if e := bench.CheckProgramme(x.lamps, x.p); e != x.e {
			t.Error(x, e)
		}
	}
}

// Functions with lamps and p return the error of CheckProgramme before all others.
func TestProgrammeFirst(t *testing.T) {
	for _, x := range wrongProgrammes() {
		if n, e := bench.Depth(x.lamps, x.p); n != 0 || e != x.e {
			t.Error(x, n, e)
		}
		for _, places := range []int{math.MinInt, -1, 0, 1, x.lamps - 1, x.lamps, x.lamps + 1, math.MaxInt} {
			if r, e := bench.Test(x.lamps, x.p, places); len(r) != 0 || e != x.e {
				t.Error(x, places, r, e)
			}
			if r, e := bench.Merge(x.lamps, x.p, places); len(r) != 0 || e != x.e {
				t.Error(x, places, r, e)
			}
		}
		if l, e := bench.Useless(x.lamps, x.p); len(l) != 0 || e != x.e {
			t.Error(x, l, e)
		}
		if p, e := bench.Trim(x.lamps, x.p); len(p) != 0 || e != x.e {
			t.Error(x, p, e)
		}
	}
}

// P2.2
func TestRun(t *testing.T) {
	const most = api.MaxBenchPower
	for _, x := range []struct {
		p            []api.BenchPair
		powers, want []int64
	}{
		{pp(), row(3, 9, 5), row(9, 5, 3)},
		{qq(), row(3, 5, 9), row(5, 9, 3)},
		{rr(), row(3, 5, 9), row(9, 3, 5)},
		{pp(), row(3, 5, 9), row(9, 5, 3)},
		{qq(), row(9, 5, 3), row(9, 5, 3)},
		{qq(), row(5, 5, 5), row(5, 5, 5)},
		{nil, row(1, 2), row(1, 2)},
		{programme(), row(0, 0), row(0, 0)},
		{programme(0, 1), row(0, 1), row(1, 0)},
		{programme(0, 1), row(0, most), row(most, 0)},
		{programme(0, 1), row(most, most), row(most, most)},
		{programme(0, 2), row(1, 2, 3), row(3, 2, 1)},
		{same(80), row(1, 2, 3), row(2, 1, 3)},
		{programme(0, 11), row(1, 2, 3, 4, 5, 6, 7, 8, 9, 10, 11, 12), row(12, 2, 3, 4, 5, 6, 7, 8, 9, 10, 11, 1)},
		{bubbles(12), row(1, 2, 3, 4, 5, 6, 7, 8, 9, 10, 11, 12), row(12, 11, 10, 9, 8, 7, 6, 5, 4, 3, 2, 1)},
		{bubbles(12), row(0, 7, 0, 7, 7, 0, most, most, 1, 0, 1, 7), row(most, most, 7, 7, 7, 7, 1, 1, 0, 0, 0, 0)},
	} {
		if r, e := bench.Run(x.p, x.powers); !slices.Equal(r, x.want) || e != api.OK {
			t.Error(x, r, e)
		}
	}
}

// P2.2, R1: the number of powers comes first, then the powers, then the programme.
func TestRunErrors(t *testing.T) {
	const over = api.MaxBenchPower + 1
	for _, x := range []struct {
		p      []api.BenchPair
		powers []int64
		e      api.Errno
	}{
		{nil, nil, api.ErrMany},
		{nil, row(), api.ErrMany},
		{nil, row(5), api.ErrMany},
		{nil, row(-1), api.ErrMany},
		{same(81), row(over), api.ErrMany},
		{same(1), make([]int64, 13), api.ErrMany},
		{same(1), slices.Repeat(row(over), 13), api.ErrMany},
		{same(1), row(-1, 0), api.ErrArg},
		{same(1), row(0, -1), api.ErrArg},
		{same(1), row(over, 0), api.ErrArg},
		{same(1), row(3, 4, over), api.ErrArg},
		{same(1), row(math.MinInt64, 1), api.ErrArg},
		{same(1), row(1, math.MaxInt64), api.ErrArg},
		{same(81), row(1, -1), api.ErrArg},
		{programme(0, 2), row(1, over), api.ErrArg},
		{programme(0, 0), row(-1, 1), api.ErrArg},
		{same(81), row(1, 2), api.ErrMany},
		{slices.Repeat(programme(0, 2), 81), row(1, 2), api.ErrMany},
		{programme(0, 2), row(1, 2), api.ErrRange},
		{programme(0, 3), row(1, 2, 3), api.ErrRange},
		{programme(0, 12), make([]int64, 12), api.ErrRange},
		{programme(0, 1, 1, 1), row(1, 2), api.ErrRange},
		{programme(1, 0), row(1, 2), api.ErrRange},
		{programme(-1, 0), row(1, 2), api.ErrRange},
	} {
		if r, e := bench.Run(x.p, x.powers); len(r) != 0 || e != x.e {
			t.Error(x, r, e)
		}
	}
	for _, x := range wrongProgrammes() {
		if x.e == api.ErrArg {
			continue // no row has so many lamps
		}
		if r, e := bench.Run(x.p, make([]int64, x.lamps)); len(r) != 0 || e != x.e {
			t.Error(x, r, e)
		}
	}
}

// P2.3
func TestDepth(t *testing.T) {
	for _, x := range []struct {
		lamps int
		p     []api.BenchPair
		depth int
	}{
		{3, pp(), 3},
		{4, programme(0, 1, 2, 3), 1},
		{4, programme(0, 1, 2, 3, 1, 2), 2},
		{4, programme(0, 1, 1, 2, 2, 3), 3},
		{4, programme(2, 3, 1, 2, 0, 1), 3},
		{4, programme(0, 1, 1, 2, 2, 3, 0, 1), 3},
		{4, programme(0, 1, 0, 1, 2, 3, 2, 3, 2, 3, 0, 3), 4},
		{6, programme(0, 1, 1, 2, 4, 5, 3, 4, 2, 3), 3},
		{2, nil, 0},
		{12, programme(), 0},
		{12, programme(0, 11), 1},
		{12, programme(0, 1, 2, 3, 4, 5, 6, 7, 8, 9, 10, 11), 1},
		{12, programme(0, 1, 2, 3, 4, 5, 6, 7, 8, 9, 10, 11, 0, 11), 2},
		{2, same(80), 80},
		{12, same(80), 80},
		{12, bubbles(12), 21},
	} {
		if n, e := bench.Depth(x.lamps, x.p); n != x.depth || e != api.OK {
			t.Error(x, n, e)
		}
	}
}

// checkRow checks a row that is returned; if there is none, ErrNone has to be.
func checkRow(t *testing.T, r []int64, e api.Errno, want []int64) {
	t.Helper()
	f := api.OK
	if want == nil {
		f = api.ErrNone
	}
	if !slices.Equal(r, want) || e != f {
		t.Error(r, e, "want", want, f)
	}
}

// P2.4
func TestTest(t *testing.T) {
	for _, x := range []struct {
		lamps int
		p     []api.BenchPair
		best  int
		want  []int64
	}{
		{3, pp(), 3, nil},
		{3, qq(), 3, row(0, 0, 1)},
		{3, rr(), 1, nil},
		{3, qq(), 1, row(0, 0, 1)},
		{3, rr(), 2, row(0, 1, 1)},
		{3, rr(), 3, row(0, 1, 1)},
		{3, qq(), 2, nil},
		{3, pp(), 1, nil},
		{3, pp(), 2, nil},
		{2, nil, 1, row(0, 1)},
		{2, nil, 2, row(0, 1)},
		{2, same(1), 1, nil},
		{2, same(1), 2, nil},
		{4, programme(0, 2, 1, 3, 1, 2), 2, row(0, 1, 0, 1)},
		{4, programme(0, 2, 1, 3, 0, 1, 2, 3, 1, 2), 4, nil},
		{4, programme(0, 2, 1, 3, 0, 1, 1, 2), 4, row(0, 1, 0, 1)},
		{4, programme(0, 2, 1, 3, 0, 1, 1, 2), 1, nil},
		{4, programme(0, 2, 1, 3, 0, 1, 1, 2), 2, row(0, 1, 0, 1)},
		{4, programme(0, 2, 1, 3, 0, 1, 1, 2), 3, row(0, 1, 0, 1)},
		{4, programme(0, 2, 1, 3, 0, 1, 2, 3), 2, row(0, 1, 0, 1)},
		{4, programme(0, 2, 1, 3, 0, 1, 2, 3), 3, nil},
		{12, nil, 12, row(0, 0, 0, 0, 0, 0, 0, 0, 0, 0, 0, 1)},
		{12, nil, 1, row(0, 0, 0, 0, 0, 0, 0, 0, 0, 0, 0, 1)},
		{12, nil, 11, row(0, 0, 0, 0, 0, 0, 0, 0, 0, 0, 0, 1)},
		{12, bubbles(12), 12, nil},
		{12, bubbles(12), 6, nil},
		{12, bubbles(12)[:65], 12, row(0, 0, 0, 0, 0, 0, 0, 0, 0, 0, 0, 1)},
		{12, bubbles(12)[1:], 12, row(0, 1, 1, 1, 1, 1, 1, 1, 1, 1, 1, 1)},
		{12, bubbles(12)[:11], 11, nil},
		{12, bubbles(12)[:11], 12, row(0, 0, 0, 0, 0, 0, 0, 0, 0, 0, 0, 1)},
		{7, bubbles(7)[:20], 7, row(0, 0, 0, 0, 0, 0, 1)},
		{6, bubbles(6)[:14], 6, row(0, 0, 0, 0, 0, 1)},
	} {
		r, e := bench.Test(x.lamps, x.p, x.best)
		checkRow(t, r, e, x.want)
	}
	for _, best := range []int{math.MinInt, -1, 0, 4, 5, 12, math.MaxInt} {
		if r, e := bench.Test(3, pp(), best); len(r) != 0 || e != api.ErrRange {
			t.Error(best, r, e)
		}
	}
	for _, best := range []int{0, 13} {
		if r, e := bench.Test(12, nil, best); len(r) != 0 || e != api.ErrRange {
			t.Error(best, r, e)
		}
	}
}

// P2.5
func TestMerge(t *testing.T) {
	batcher := programme(0, 4, 1, 5, 2, 6, 3, 7, 2, 4, 3, 5, 1, 2, 3, 4, 5, 6)
	for _, x := range []struct {
		lamps int
		p     []api.BenchPair
		first int
		want  []int64
	}{
		{4, programme(0, 2, 1, 3, 1, 2), 2, nil},
		{4, programme(0, 2, 1, 3), 2, row(1, 0, 1, 0)},
		{4, programme(0, 2, 1, 3, 1, 2), 1, row(0, 1, 0, 0)},
		{4, programme(0, 2, 1, 3, 1, 2), 3, row(0, 0, 0, 1)},
		{2, nil, 1, row(0, 1)},
		{2, same(1), 1, nil},
		{3, pp(), 1, nil},
		{3, pp(), 2, nil},
		{3, qq(), 1, nil},
		{3, qq(), 2, row(0, 0, 1)},
		{3, rr(), 2, nil},
		{3, rr(), 1, row(0, 1, 1)},
		{8, batcher, 4, nil},
		{8, batcher[:8], 4, row(1, 1, 1, 0, 1, 1, 1, 0)},
		{8, batcher, 3, row(0, 0, 0, 1, 0, 0, 0, 0)},
		{12, bubbles(12)[55:], 11, row(0, 0, 0, 0, 0, 0, 0, 0, 0, 0, 0, 1)},
		{12, bubbles(12)[:11], 1, nil},
		{12, bubbles(12)[:11], 2, row(0, 0, 1, 0, 0, 0, 0, 0, 0, 0, 0, 0)},
		{12, bubbles(12), 7, nil},
		{12, nil, 1, row(0, 1, 0, 0, 0, 0, 0, 0, 0, 0, 0, 0)},
		{12, nil, 11, row(0, 0, 0, 0, 0, 0, 0, 0, 0, 0, 0, 1)},
	} {
		r, e := bench.Merge(x.lamps, x.p, x.first)
		checkRow(t, r, e, x.want)
	}
	for _, first := range []int{math.MinInt, -1, 0, 3, 4, 12, math.MaxInt} {
		if r, e := bench.Merge(3, pp(), first); len(r) != 0 || e != api.ErrRange {
			t.Error(first, r, e)
		}
	}
	for _, first := range []int{0, 2} {
		if r, e := bench.Merge(2, nil, first); len(r) != 0 || e != api.ErrRange {
			t.Error(first, r, e)
		}
	}
}

// P2.6
func TestUselessAndTrim(t *testing.T) {
	for _, x := range []struct {
		lamps   int
		p       []api.BenchPair
		useless []int
		trimmed []api.BenchPair
	}{
		{3, programme(0, 1, 0, 1, 1, 2), []int{1}, qq()},
		{3, pp(), nil, pp()},
		{3, append(pp(), pp()...), []int{3, 4, 5}, pp()},
		{3, append(pp(), programme(0, 2)...), []int{3}, pp()},
		{3, programme(0, 1, 1, 2, 0, 2), []int{2}, qq()},
		{3, programme(0, 2, 0, 1, 1, 2), nil, programme(0, 2, 0, 1, 1, 2)},
		{2, nil, nil, nil},
		{2, programme(), nil, nil},
		{2, same(1), nil, same(1)},
		{2, same(3), []int{1, 2}, same(1)},
		{4, programme(0, 1, 2, 3, 0, 1, 2, 3, 1, 2), []int{2, 3}, programme(0, 1, 2, 3, 1, 2)},
		{4, programme(0, 1, 1, 2, 0, 1, 0, 2, 2, 3, 1, 2), []int{3}, programme(0, 1, 1, 2, 0, 1, 2, 3, 1, 2)},
		{12, bubbles(12), nil, bubbles(12)},
		{12, append(bubbles(12), programme(0, 11, 3, 7, 10, 11)...), []int{66, 67, 68}, bubbles(12)},
	} {
		if l, e := bench.Useless(x.lamps, x.p); !slices.Equal(l, x.useless) || e != api.OK {
			t.Error(x, l, e)
		}
		if p, e := bench.Trim(x.lamps, x.p); !slices.Equal(p, x.trimmed) || e != api.OK {
			t.Error(x, p, e)
		}
	}
	if l, e := bench.Useless(12, same(80)); len(l) != 79 || l[0] != 1 || l[78] != 79 || e != api.OK {
		t.Error(l, e)
	}
	if p, e := bench.Trim(12, same(80)); !slices.Equal(p, same(1)) || e != api.OK {
		t.Error(p, e)
	}
}

// P2.7
func TestBuild(t *testing.T) {
	for lamps := 2; lamps <= 12; lamps++ {
		p, e := bench.Build(lamps)
		if e != api.OK || len(p) > lamps*(lamps-1)/2 || bench.CheckProgramme(lamps, p) != api.OK {
			t.Error(lamps, p, e)
			continue
		}
		if r, ok := wrongRow(lamps, p, lamps); ok {
			t.Error(lamps, p, r)
		}
		if r, e := bench.Test(lamps, p, lamps); len(r) != 0 || e != api.ErrNone {
			t.Error(lamps, p, r, e)
		}
	}
	for _, lamps := range []int{math.MinInt, -1, 0, 1, 13, 16, math.MaxInt} {
		if p, e := bench.Build(lamps); len(p) != 0 || e != api.ErrArg {
			t.Error(lamps, p, e)
		}
	}
}

// The second example of the document.
func TestBuildFour(t *testing.T) {
	p, e := bench.Build(4)
	if len(p) != 5 || e != api.OK {
		t.Error(p, e)
	}
	if n, e := bench.Depth(4, p); n != 3 || e != api.OK {
		t.Error(p, n, e)
	}
}

// P2.8
func TestPlaces(t *testing.T) {
	const most = api.MaxBenchPower
	for _, x := range []struct{ l, want []api.Range }{
		{ranges(10, 12, 11, 15, 20, 20), ranges(1, 2, 1, 2, 0, 0)},
		{ranges(5, 5), ranges(0, 0)},
		{ranges(0, most), ranges(0, 0)},
		{ranges(0, most, 0, most), ranges(0, 1, 0, 1)},
		{ranges(0, 0, 0, 0), ranges(0, 0, 0, 0)},
		{ranges(most, most, most, most), ranges(0, 0, 0, 0)},
		{ranges(0, 0, most, most), ranges(1, 1, 0, 0)},
		{ranges(3, 5, 5, 7), ranges(0, 1, 0, 0)},
		{ranges(3, 5, 6, 7), ranges(1, 1, 0, 0)},
		{ranges(3, 5, 4, 4), ranges(0, 1, 0, 1)},
		{ranges(3, 4, 4, 4), ranges(0, 1, 0, 0)},
		{ranges(1, 9, 4, 5, 6, 6), ranges(0, 2, 1, 2, 0, 1)},
		{slices.Repeat(ranges(1, 2), 12), slices.Repeat(ranges(0, 11), 12)},
		{slices.Repeat(ranges(7, 7), 12), slices.Repeat(ranges(0, 0), 12)},
	} {
		if l, e := bench.Places(x.l); !slices.Equal(l, x.want) || e != api.OK {
			t.Error(x, l, e)
		}
	}
	for _, x := range []struct {
		l []api.Range
		e api.Errno
	}{
		{nil, api.ErrMany},
		{ranges(), api.ErrMany},
		{slices.Repeat(ranges(1, 1), 13), api.ErrMany},
		{slices.Repeat(ranges(2, 1), 13), api.ErrMany},
		{ranges(2, 1), api.ErrArg},
		{ranges(-1, 1), api.ErrArg},
		{ranges(-2, -1), api.ErrArg},
		{ranges(0, most+1), api.ErrArg},
		{ranges(most+1, most+1), api.ErrArg},
		{ranges(0, -1), api.ErrArg},
		{ranges(most+1, most), api.ErrArg},
		{ranges(1, 2, 3, 4, 6, 5), api.ErrArg},
		{ranges(1, 2, 3, 4, 5, most+1), api.ErrArg},
		{ranges(math.MinInt64, math.MaxInt64), api.ErrArg},
		{ranges(math.MaxInt64, math.MinInt64), api.ErrArg},
		{append(slices.Repeat(ranges(1, 2), 11), ranges(1, 0)...), api.ErrArg},
	} {
		if l, e := bench.Places(x.l); len(l) != 0 || e != x.e {
			t.Error(x, l, e)
		}
	}
}
