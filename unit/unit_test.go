package unit_test

import (
	"slices"
	"testing"

	"lampblack/api"
	"lampblack/unit"
)

// most is the greatest number of a fraction.
const most = api.MaxUnit

// none is what comes with an error.
var none = api.Ratio{}

func of(num, den int64) api.Ratio { return api.Ratio{Num: num, Den: den} }

func span(a, b, c, d int64) api.UnitSpan { return api.UnitSpan{Lo: of(a, b), Hi: of(c, d)} }

func exactly(num, den int64) api.UnitSpan { return span(num, den, num, den) }

func spans(l ...api.UnitSpan) []api.UnitSpan { return l }

func proof(a, b, c, d int64) api.UnitProof { return api.UnitProof{Left: of(a, b), Right: of(c, d)} }

// wrongSpans returns spans that are not valid, each for one reason.
func wrongSpans() []api.UnitSpan {
	return spans(
		api.UnitSpan{},
		span(3, 4, 1, 2),
		span(999999, 999998, 1000000, 999999),
		span(most, most-1, most-1, most),
		span(2, 4, 3, 4), span(1, 4, 2, 4), span(2, 2, 3, 1), span(1, 2, 6, 3),
		span(0, 1, 3, 4), span(1, 0, 3, 4), span(1, 2, 0, 1), span(1, 2, 3, 0), span(1, 2, 1, 0),
		span(-1, 2, 3, 4), span(1, -2, 3, 4), span(-1, -2, 3, 4),
		span(1, 2, -3, 4), span(1, 2, 3, -4), span(1, 2, -3, -4),
		span(1, most+1, 1, 1), span(most+1, 1, most+1, 1), span(1, 1, most+1, 1),
		span(1, most+2, 1, most+2), span(1, 2, most+1, most), span(1, 2, most, most+1),
	)
}

// P1.1
func TestCheckSpan(t *testing.T) {
	for _, s := range spans(
		span(1, 2, 3, 4), span(2, 3, 3, 4), span(999999, 1000000, 1000000, 999999),
		exactly(1, 1), exactly(5, 7), exactly(1, most), exactly(most, 1), exactly(most, most-1),
		span(1, most, most, 1), span(most-2, most-1, most-1, most), span(1, 3, 1, 2),
	) {
		if e := unit.CheckSpan(s); e != api.OK {
			t.Error(s, e)
		}
	}
	for _, s := range wrongSpans() {
		if e := unit.CheckSpan(s); e != api.ErrArg {
			t.Error(s, e)
		}
	}
	if e := unit.CheckSpan(span(most-1, most, most-2, most-1)); e != api.ErrArg {
		t.Error(e)
	}
}

// Functions with a span return the error of CheckSpan before all others.
func TestSpanFirst(t *testing.T) {
	decrees := [][]api.UnitSpan{nil, spans(exactly(1, 2)), spans(exactly(2, 4)), slices.Repeat(spans(exactly(1, 1)), 9)}
	proofs := []api.UnitProof{proof(0, 1, 1, 0), proof(0, 0, 0, 0), proof(1, 2, 1, 2)}
	for _, s := range wrongSpans() {
		for _, d := range decrees {
			if c, e := unit.Carry(s, d); c != (api.UnitSpan{}) || e != api.ErrArg {
				t.Error(s, d, c, e)
			}
			if c, e := unit.Back(s, d); c != (api.UnitSpan{}) || e != api.ErrArg {
				t.Error(s, d, c, e)
			}
		}
		for _, p := range proofs {
			if n, e := unit.CheckProof(s, p); n != 0 || e != api.ErrArg {
				t.Error(s, p, n, e)
			}
		}
		if r, e := unit.Simplest(s); r != none || e != api.ErrArg {
			t.Error(s, r, e)
		}
		if p, e := unit.Proof(s); p != (api.UnitProof{}) || e != api.ErrArg {
			t.Error(s, p, e)
		}
	}
}

// P1.2
func TestCarryAndBack(t *testing.T) {
	chapter := spans(span(3, 4, 4, 5), exactly(10, 1))
	thousand := spans(exactly(1000, 1))
	for _, x := range []struct {
		s       api.UnitSpan
		decrees []api.UnitSpan
		over    api.UnitSpan
		back    api.UnitSpan
	}{
		{span(2, 1, 5, 2), chapter, span(15, 1, 20, 1), span(1, 4, 1, 3)},
		{span(15, 1, 20, 1), chapter, span(225, 2, 160, 1), span(15, 8, 8, 3)},
		{span(2, 3, 3, 4), nil, span(2, 3, 3, 4), span(2, 3, 3, 4)},
		{span(2, 3, 3, 4), spans(), span(2, 3, 3, 4), span(2, 3, 3, 4)},
		{exactly(2, 3), spans(exactly(3, 2)), exactly(1, 1), exactly(4, 9)},
		{exactly(1, 1), slices.Repeat(spans(exactly(2, 1)), 8), exactly(256, 1), exactly(1, 256)},
		{exactly(1, 1), slices.Repeat(thousand, 3), exactly(most, 1), exactly(1, most)},
		{exactly(1, most), spans(exactly(most, 1)), exactly(1, 1), api.UnitSpan{}},
		{exactly(most, 1), spans(exactly(most, 1)), api.UnitSpan{}, exactly(1, 1)},
		{exactly(most, most-1), spans(exactly(most-1, most)), exactly(1, 1), api.UnitSpan{}},
		{span(1, 2, most, 1), spans(exactly(1, most)), api.UnitSpan{}, api.UnitSpan{}},
		{span(1, 1, 2, 1), slices.Repeat(thousand, 3), api.UnitSpan{}, span(1, most, 1, most/2)},
		{span(1, 2, 1, 1), slices.Repeat(thousand, 3), span(most/2, 1, most, 1), api.UnitSpan{}},
		{exactly(1, 1), spans(exactly(most, 1), exactly(2, 1), exactly(1, 2)), api.UnitSpan{}, exactly(1, most)},
		{exactly(1, 1), spans(exactly(2, 1), exactly(1, 2), exactly(1, most)), exactly(1, most), api.UnitSpan{}},
		{exactly(1, 1), spans(span(1, 1, most, 1), span(1, 2, 2, 1)), api.UnitSpan{}, api.UnitSpan{}},
		{exactly(1, 1), spans(span(1, most, 1, 1), span(1, 2, 2, 1)), api.UnitSpan{}, api.UnitSpan{}},
	} {
		checkCarried(t, unit.Carry, x.s, x.decrees, x.over)
		checkCarried(t, unit.Back, x.s, x.decrees, x.back)
	}
}

// checkCarried checks a result; that of nothing is ErrOver.
func checkCarried(t *testing.T, carry func(api.UnitSpan, []api.UnitSpan) (api.UnitSpan, api.Errno), s api.UnitSpan, decrees []api.UnitSpan, want api.UnitSpan) {
	t.Helper()
	e := api.OK
	if want == (api.UnitSpan{}) {
		e = api.ErrOver
	}
	if got, f := carry(s, decrees); got != want || f != e {
		t.Error(s, decrees, got, f, "want", want, e)
	}
}

// P1.2, R1: too many decrees come before wrong ones, and these before great results.
func TestCarryErrors(t *testing.T) {
	great := spans(exactly(most, 1))
	small := spans(exactly(1, most))
	for _, x := range []struct {
		decrees []api.UnitSpan
		e       api.Errno
	}{
		{slices.Repeat(spans(exactly(1, 1)), 8), api.OK},
		{slices.Repeat(spans(exactly(1, 1)), 9), api.ErrMany},
		{slices.Repeat(great, 9), api.ErrMany},
		{slices.Repeat(spans(exactly(2, 2)), 9), api.ErrMany},
		{slices.Repeat(spans(exactly(2, 2)), 8), api.ErrArg},
		{slices.Concat(great, small, slices.Repeat(great, 3), spans(span(2, 1, 1, 1))), api.ErrArg},
		{slices.Concat(spans(span(0, 1, 1, 1)), great, great), api.ErrArg},
		{slices.Concat(great, great), api.ErrOver},
		{slices.Concat(small, small), api.ErrOver},
	} {
		want := api.UnitSpan{}
		if x.e == api.OK {
			want = exactly(1, 1)
		}
		if s, e := unit.Carry(exactly(1, 1), x.decrees); s != want || e != x.e {
			t.Error(x.decrees, s, e)
		}
		if s, e := unit.Back(exactly(1, 1), x.decrees); s != want || e != x.e {
			t.Error(x.decrees, s, e)
		}
	}
	for _, wrong := range wrongSpans() {
		for at := range 3 {
			decrees := slices.Repeat(spans(exactly(1, 1)), 3)
			decrees[at] = wrong
			if s, e := unit.Carry(exactly(1, 1), decrees); s != (api.UnitSpan{}) || e != api.ErrArg {
				t.Error(decrees, s, e)
			}
			if s, e := unit.Back(exactly(1, 1), decrees); s != (api.UnitSpan{}) || e != api.ErrArg {
				t.Error(decrees, s, e)
			}
		}
	}
}

// P1.3, P1.4
func TestSimplestAndProof(t *testing.T) {
	for _, x := range []struct {
		s    api.UnitSpan
		want api.Ratio
	}{
		{span(3, 10, 1, 3), of(1, 3)},
		{span(5, 7, 3, 4), of(3, 4)},
		{span(7, 2, 9, 2), of(4, 1)},
		{exactly(5, 7), of(5, 7)},
		{span(31, 100, 8, 25), of(5, 16)},
		{span(1, 3, 5, 1), of(1, 1)},
		{span(2, 1, 5, 1), of(2, 1)},
		{span(3, 2, 2, 1), of(2, 1)},
		{span(4, 3, 19, 10), of(3, 2)},
		{span(5, 2, 13, 5), of(5, 2)},
		{span(51, 20, 13, 5), of(13, 5)},
		{span(51, 20, 64, 25), of(23, 9)},
		{exactly(1, 1), of(1, 1)},
		{exactly(most, 1), of(most, 1)},
		{exactly(1, most), of(1, most)},
		{exactly(most-1, most), of(most-1, most)},
		{exactly(most, most-1), of(most, most-1)},
		{exactly(701408733, 433494437), of(701408733, 433494437)},
		{exactly(433494437, 701408733), of(433494437, 701408733)},
		{span(1, most, most, 1), of(1, 1)},
		{span(1, most, 1, 2), of(1, 2)},
		{span(1, most, 1, most-1), of(1, most-1)},
		{span(most-1, 1, most, 1), of(most-1, 1)},
		{span(most-1, most, 1, 1), of(1, 1)},
		{span(most-2, most-1, most-1, most), of(most-2, most-1)},
		{span(62831853, 20000000, 157079633, 50000000), of(102928, 32763)},
	} {
		if r, e := unit.Simplest(x.s); r != x.want || e != api.OK {
			t.Error(x.s, r, e)
		}
		p, e := unit.Proof(x.s)
		if e != api.OK || !isRight(x.s, p) || p.Left.Den+p.Right.Den != x.want.Den {
			t.Error(x.s, p, e)
		}
		if n, e := unit.CheckProof(x.s, p); n != x.want.Den || e != api.OK {
			t.Error(x.s, p, n, e)
		}
	}
}

// P1.4
func TestCheckProof(t *testing.T) {
	s := span(31, 100, 8, 25)
	for _, x := range []struct {
		s     api.UnitSpan
		p     api.UnitProof
		bound int64
		e     api.Errno
	}{
		{s, proof(3, 10, 1, 3), 13, api.OK},
		{s, proof(0, 1, 1, 3), 4, api.OK},
		{s, proof(1, 4, 1, 3), 7, api.OK},
		{s, proof(4, 13, 1, 3), 16, api.OK},
		{s, proof(0, 1, 1, 0), 1, api.OK},
		{s, proof(0, 1, 1, 1), 2, api.OK},
		{exactly(3, 1), proof(2, 1, 1, 0), 1, api.OK},
		{exactly(most, 1), proof(most-1, 1, 1, 0), 1, api.OK},
		{exactly(1, most), proof(0, 1, 1, most-1), most, api.OK},
		{exactly(1, 2), proof(0, 1, 1, 1), 2, api.OK},
		{span(most-1, most, most-1, most), proof(most-2, most-1, 1, 1), most, api.OK},
		// The numbers may go up to MaxUnit, and no further.
		{span(1, 1, 1, 1), proof(most-1, most, most, most-1), 0, api.ErrSum},
		{span(1, 1, 1, 1), proof(most-1, most, most, 0), 0, api.ErrSum},
		{exactly(1, 1), proof(most-1, most, 2, 1), 0, api.ErrSum},
		{exactly(1, 1), proof(0, 1, most, 0), 0, api.ErrSum},
		{exactly(1, 1), proof(most, 1, 1, most), 0, api.ErrSum},
		{exactly(1, 1), proof(0, most, 1, 0), 0, api.ErrSum},
		{exactly(1, 1), proof(most+1, 1, 1, 0), 0, api.ErrRange},
		{exactly(1, 1), proof(0, most+1, 1, 0), 0, api.ErrRange},
		{exactly(1, 1), proof(0, 1, most+1, 1), 0, api.ErrRange},
		{exactly(1, 1), proof(0, 1, 1, most+1), 0, api.ErrRange},
		{s, proof(-1, 1, 1, 0), 0, api.ErrRange},
		{s, proof(0, 0, 1, 0), 0, api.ErrRange},
		{s, proof(0, -1, 1, 0), 0, api.ErrRange},
		{s, proof(0, 1, 0, 1), 0, api.ErrRange},
		{s, proof(0, 1, -1, -3), 0, api.ErrRange},
		{s, proof(0, 1, 1, -1), 0, api.ErrRange},
		{s, api.UnitProof{}, 0, api.ErrRange},
		// Left is not less than Lo, or Right not greater than Hi.
		{s, proof(5, 16, 1, 3), 0, api.ErrSum},
		{s, proof(4, 13, 5, 16), 0, api.ErrSum},
		{s, proof(1, 3, 1, 2), 0, api.ErrSum},
		{s, proof(0, 1, 1, 4), 0, api.ErrSum},
		{span(1, 3, 2, 5), proof(1, 3, 1, 2), 0, api.ErrSum},
		{span(1, 3, 2, 5), proof(0, 1, 1, 2), 3, api.OK},
		{span(1, 3, 1, 2), proof(0, 1, 1, 2), 0, api.ErrSum},
		{span(1, 3, 1, 2), proof(0, 1, 1, 1), 2, api.OK},
		// They are not neighbours, or the wrong way round, or not in least terms.
		{s, proof(3, 10, 1, 2), 0, api.ErrSum},
		{s, proof(1, 3, 3, 10), 0, api.ErrSum},
		{s, proof(0, 2, 1, 3), 0, api.ErrSum},
		{s, proof(0, 1, 2, 6), 0, api.ErrSum},
		{s, proof(0, 1, 2, 0), 0, api.ErrSum},
	} {
		if n, e := unit.CheckProof(x.s, x.p); n != x.bound || e != x.e {
			t.Error(x.s, x.p, n, e)
		}
	}
}

// longPath returns a path of so many numbers 1, but for the last one.
func longPath(n int, last int64) []int64 {
	return append(slices.Repeat([]int64{1}, n-1), last)
}

// P1.5
func TestPath(t *testing.T) {
	for _, x := range []struct {
		r    api.Ratio
		path []int64
	}{
		{of(5, 16), []int64{0, 3, 5}},
		{of(16, 5), []int64{3, 5}},
		{of(7, 3), []int64{2, 3}},
		{of(4, 1), []int64{4}},
		{of(1, 1), []int64{1}},
		{of(2, 1), []int64{2}},
		{of(1, 2), []int64{0, 2}},
		{of(1, 4), []int64{0, 4}},
		{of(3, 2), []int64{1, 2}},
		{of(8, 5), []int64{1, 1, 1, 2}},
		{of(355, 113), []int64{3, 7, 16}},
		{of(most, 1), []int64{most}},
		{of(1, most), []int64{0, most}},
		{of(most, most-1), []int64{1, most - 1}},
		{of(most-1, most), []int64{0, 1, most - 1}},
		{of(701408733, 433494437), longPath(42, 2)},
		{of(433494437, 701408733), append([]int64{0}, longPath(42, 2)...)},
	} {
		if p, e := unit.Path(x.r); !slices.Equal(p, x.path) || e != api.OK {
			t.Error(x.r, p, e)
		}
		if r, e := unit.Follow(x.path); r != x.r || e != api.OK {
			t.Error(x.path, r, e)
		}
	}
}

// wrongRatios returns ratios that are no fractions.
func wrongRatios() []api.Ratio {
	return []api.Ratio{
		none, of(0, 1), of(1, 0), of(-1, 2), of(1, -2), of(-1, -2),
		of(2, 4), of(2, 2), of(most, most), of(6, 3), of(most, 2),
		of(most+1, 1), of(1, most+1), of(most+1, most), of(most, most+1),
	}
}

// Functions with a fraction return ErrArg before all others, if it is not one.
func TestFractionFirst(t *testing.T) {
	for _, r := range wrongRatios() {
		if p, e := unit.Path(r); len(p) != 0 || e != api.ErrArg {
			t.Error(r, p, e)
		}
		for _, den := range []int64{-1, 0, 1, 7, 1000, 1001} {
			if x, e := unit.Next(r, den); x != none || e != api.ErrArg {
				t.Error(r, den, x, e)
			}
		}
	}
}

// P1.5
func TestFollowErrors(t *testing.T) {
	const far = 1<<63 - 1
	for _, x := range []struct {
		path []int64
		e    api.Errno
	}{
		{nil, api.ErrMany},
		{[]int64{}, api.ErrMany},
		{make([]int64, 65), api.ErrMany},
		{longPath(65, 2), api.ErrMany},
		{longPath(65, 0), api.ErrMany},
		{longPath(64, 2), api.ErrOver},
		{longPath(64, 1), api.ErrArg},
		{longPath(43, 2), api.ErrOver},
		{[]int64{0}, api.ErrArg},
		{[]int64{-1}, api.ErrArg},
		{[]int64{-far - 1}, api.ErrArg},
		{[]int64{-1, 3}, api.ErrArg},
		{[]int64{2, -3}, api.ErrArg},
		{[]int64{0, 0}, api.ErrArg},
		{[]int64{0, 0, 2}, api.ErrArg},
		{[]int64{1, 1}, api.ErrArg},
		{[]int64{0, 1}, api.ErrArg},
		{[]int64{2, 0}, api.ErrArg},
		{[]int64{2, 3, 1}, api.ErrArg},
		{[]int64{1, 0, 3}, api.ErrArg},
		{[]int64{1, -2, 3}, api.ErrArg},
		// What is not a path comes before what is too great.
		{[]int64{1, most + 1, 1}, api.ErrArg},
		{[]int64{most + 1, 0}, api.ErrArg},
		{[]int64{far, far, far, 0, 2}, api.ErrArg},
		{[]int64{most + 1}, api.ErrOver},
		{[]int64{0, most + 1}, api.ErrOver},
		{[]int64{1, most}, api.ErrOver},
		{[]int64{0, 1, most}, api.ErrOver},
		{[]int64{most, 2}, api.ErrOver},
		{[]int64{0, most, 2}, api.ErrOver},
		{[]int64{far}, api.ErrOver},
		{[]int64{0, far}, api.ErrOver},
		{[]int64{2, far, 2}, api.ErrOver},
		{[]int64{1 << 32, 1 << 32}, api.ErrOver},
		{[]int64{0, 1 << 32, 1 << 32}, api.ErrOver},
		{[]int64{1 << 62, 1 << 62, 1 << 62}, api.ErrOver},
		{[]int64{31623, 31623, 1 << 33, 1 << 31, 1 << 32}, api.ErrOver},
	} {
		if r, e := unit.Follow(x.path); r != none || e != x.e {
			t.Error(x.path, r, e)
		}
	}
}

// P1.6
func TestNext(t *testing.T) {
	for _, x := range []struct {
		r    api.Ratio
		den  int64
		want api.Ratio
		e    api.Errno
	}{
		{of(1, 3), 5, of(2, 5), api.OK},
		{of(3, 10), 3, of(1, 3), api.OK},
		{of(1, 3), 1, of(1, 1), api.OK},
		{of(1, 1), 1, of(2, 1), api.OK},
		{of(4, 1), 1, of(5, 1), api.OK},
		{of(4, 1), 1000, of(4001, 1000), api.OK},
		{of(1, 2), 4, of(2, 3), api.OK},
		{of(2, 3), 4, of(3, 4), api.OK},
		{of(999, 1000), 1000, of(1, 1), api.OK},
		{of(1, 1000), 1000, of(1, 999), api.OK},
		{of(1, 1001), 1000, of(1, 1000), api.OK},
		{of(1, most), 7, of(1, 7), api.OK},
		{of(1, most), 1000, of(1, 1000), api.OK},
		{of(999999, 1), 1, of(1000000, 1), api.OK},
		{of(999999, 1), 2, of(1999999, 2), api.OK},
		{of(999999, 1), 1000, of(999999001, 1000), api.OK},
		{of(999999, 2), 1000, of(499499501, 999), api.OK},
		{of(999999, most), 1000, of(1, 1000), api.OK},
		{of(999999, 999998), 1000, of(1001, 1000), api.OK},
		{of(1000000, 1), 2, none, api.ErrRange},
		{of(1000000, 999999), 2, none, api.ErrRange},
		{of(most, 1), 1, none, api.ErrRange},
		{of(1, 3), 0, none, api.ErrRange},
		{of(1, 3), -1, none, api.ErrRange},
		{of(1, 3), 1001, none, api.ErrRange},
		{of(1, 3), 1<<63 - 1, none, api.ErrRange},
		{of(1, 3), -1 << 63, none, api.ErrRange},
	} {
		if r, e := unit.Next(x.r, x.den); r != x.want || e != x.e {
			t.Error(x.r, x.den, r, e)
		}
	}
}
