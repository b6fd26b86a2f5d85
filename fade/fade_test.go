package fade_test

import (
	"math"
	"slices"
	"testing"

	"lampblack/api"
	"lampblack/fade"
)

const (
	mostMarks  = 24
	mostHours  = 10_000
	mostGrade  = 100
	mostWeight = 20
	mostWools  = 8
	never      = 1 << 30
)

// card returns a card of marks, of which each three numbers are Hours, Grade and
// Weight.
func card(numbers ...int64) []api.FadeMark {
	var c []api.FadeMark
	for l := range slices.Chunk(numbers, 3) {
		c = append(c, api.FadeMark{Hours: l[0], Grade: l[1], Weight: l[2]})
	}
	return c
}

// proof returns blocks, of which each four numbers are From, To, Weight and Sum.
func proof(numbers ...int64) []api.FadeBlock {
	var l []api.FadeBlock
	for x := range slices.Chunk(numbers, 4) {
		l = append(l, api.FadeBlock{From: x[0], To: x[1], Weight: x[2], Sum: x[3]})
	}
	return l
}

func ratio(num, den int64) api.Ratio             { return api.Ratio{Num: num, Den: den} }
func time(after, by int64) api.FadeTime          { return api.FadeTime{After: after, By: by} }
func span(lo, hi int64) api.Range                { return api.Range{Lo: lo, Hi: hi} }
func sameMarks(n int, l ...int64) []api.FadeMark { return slices.Repeat(card(l...), n) }

// cardC returns the card of the chapter's examples.
func cardC() []api.FadeMark {
	return card(10, 1, 1, 20, 4, 1, 30, 2, 1, 40, 3, 2, 50, 9, 1)
}

// blocksC returns the blocks that prove it.
func blocksC() []api.FadeBlock {
	return proof(10, 10, 1, 1, 20, 40, 4, 12, 50, 50, 1, 9)
}

// woolsC returns the wools of the chapter's examples.
func woolsC() [][]api.FadeMark {
	return [][]api.FadeMark{card(10, 8, 1), card(10, 0, 1, 20, 8, 1), card(20, 0, 1, 60, 8, 1)}
}

// The functions below call those of the package, and see to it that with an
// error every other result is its zero value (R2).

func pool(t *testing.T, c []api.FadeMark) ([]api.FadeBlock, api.Errno) {
	t.Helper()
	l, e := fade.Pool(c)
	if e != api.OK && len(l) != 0 {
		t.Error(c, l, e)
	}
	return l, e
}

func value(t *testing.T, c []api.FadeMark, hours int64) (api.Ratio, api.Errno) {
	t.Helper()
	v, e := fade.Value(c, hours)
	if e != api.OK && v != (api.Ratio{}) {
		t.Error(c, hours, v, e)
	}
	return v, e
}

func reach(t *testing.T, c []api.FadeMark, limit int64) (api.FadeTime, api.Errno) {
	t.Helper()
	x, e := fade.Reach(c, limit)
	if e != api.OK && x != (api.FadeTime{}) {
		t.Error(c, limit, x, e)
	}
	return x, e
}

func label(t *testing.T, wools [][]api.FadeMark, c []api.FadeMark, limit int64) (api.Range, api.Errno) {
	t.Helper()
	x, e := fade.Label(wools, c, limit)
	if e != api.OK && x != (api.Range{}) {
		t.Error(wools, c, limit, x, e)
	}
	return x, e
}

// errorsOf returns the errors of all functions with a card as c.
func errorsOf(t *testing.T, c []api.FadeMark, l []api.FadeBlock, hours, limit int64) [6]api.Errno {
	t.Helper()
	var e [6]api.Errno
	e[0] = fade.CheckCard(c)
	_, e[1] = pool(t, c)
	e[2] = fade.CheckBlocks(c, l)
	_, e[3] = value(t, c, hours)
	_, e[4] = reach(t, c, limit)
	_, e[5] = label(t, nil, c, limit)
	return e
}

// each returns an error six times.
func each(e api.Errno) [6]api.Errno { return [6]api.Errno{e, e, e, e, e, e} }

// badCards returns cards that are not valid, with their errors.
func badCards() []struct {
	c []api.FadeMark
	e api.Errno
} {
	return []struct {
		c []api.FadeMark
		e api.Errno
	}{
		{nil, api.ErrMany},
		{[]api.FadeMark{}, api.ErrMany},
		{sameMarks(mostMarks+1, 1, 1, 1), api.ErrMany},
		{sameMarks(1<<16, 1, 1, 1), api.ErrMany},
		// How many marks there are comes before what they are.
		{sameMarks(mostMarks+1, 0, -1, 0), api.ErrMany},

		{card(0, 1, 1), api.ErrArg},
		{card(-1, 1, 1), api.ErrArg},
		{card(mostHours+1, 1, 1), api.ErrArg},
		{card(math.MinInt64, 1, 1), api.ErrArg},
		{card(math.MaxInt64, 1, 1), api.ErrArg},
		{card(1, -1, 1), api.ErrArg},
		{card(1, mostGrade+1, 1), api.ErrArg},
		{card(1, math.MinInt64, 1), api.ErrArg},
		{card(1, math.MaxInt64, 1), api.ErrArg},
		{card(1, 1, 0), api.ErrArg},
		{card(1, 1, -1), api.ErrArg},
		{card(1, 1, mostWeight+1), api.ErrArg},
		{card(1, 1, math.MinInt64), api.ErrArg},
		{card(1, 1, math.MaxInt64), api.ErrArg},
		{card(1, 1, 1, 2, 1, 0), api.ErrArg},
		{card(1, 1, 1, 0, 1, 1, 2, 1, 1), api.ErrArg},
		{append(sameMarks(mostMarks-1, 1, 1, 1), card(1, mostGrade+1, 1)...), api.ErrArg},
	}
}

// P8.1: what is not a card. All functions return its error before all others.
func TestBadCards(t *testing.T) {
	for i, x := range badCards() {
		for _, n := range []int64{1, 0, -1, mostHours + 1, math.MaxInt64} {
			for _, l := range [][]api.FadeBlock{nil, blocksC()} {
				if e := errorsOf(t, x.c, l, n, n); e != each(x.e) {
					t.Error(i, n, e)
				}
			}
		}
	}
}

// P8.1
func TestCheckCard(t *testing.T) {
	for i, c := range [][]api.FadeMark{
		cardC(),
		card(1, 0, 1),
		card(mostHours, mostGrade, mostWeight),
		card(1, 100, 20, 10_000, 0, 1),
		// In any order, and more than once.
		card(30, 1, 1, 20, 1, 1, 30, 2, 1, 10, 5, 5),
		sameMarks(mostMarks, 5, 5, 5),
		sameMarks(mostMarks, mostHours, mostGrade, mostWeight),
	} {
		if e := fade.CheckCard(c); e != api.OK {
			t.Error(i, e)
		}
	}
}

// poolCase is a card with the blocks that prove it.
type poolCase struct {
	c []api.FadeMark
	l []api.FadeBlock
}

func poolCases() []poolCase {
	return []poolCase{
		{cardC(), blocksC()},
		{card(50, 9, 1, 30, 2, 1, 10, 1, 1, 40, 3, 2, 20, 4, 1), blocksC()},
		{card(50, 9, 1, 30, 2, 1, 10, 1, 1, 40, 3, 1, 20, 4, 1, 40, 3, 1), blocksC()},
		{card(1, 0, 1), proof(1, 1, 1, 0)},
		{card(7, 5, 3), proof(7, 7, 3, 15)},
		{card(7, 5, 3, 7, 6, 1), proof(7, 7, 4, 21)},
		{card(1, 2, 1, 2, 3, 1), proof(1, 1, 1, 2, 2, 2, 1, 3)},
		// Blocks with equal means are one.
		{card(1, 2, 1, 2, 2, 1), proof(1, 2, 2, 4)},
		{card(1, 0, 1, 9, 0, 20), proof(1, 9, 21, 0)},
		{card(1, 2, 1, 2, 3, 1, 3, 3, 5, 4, 4, 1), proof(1, 1, 1, 2, 2, 3, 6, 18, 4, 4, 1, 4)},
		{card(1, 3, 1, 2, 2, 1), proof(1, 2, 2, 5)},
		// A low mark pools all those before it.
		{card(1, 1, 1, 2, 2, 1, 3, 3, 1, 4, 0, 9), proof(1, 4, 12, 6)},
		{card(1, 1, 1, 2, 3, 1, 3, 4, 1, 4, 2, 1), proof(1, 1, 1, 1, 2, 4, 3, 9)},
		// A block that was pooled has a mean equal to that of the one before it.
		{card(1, 2, 1, 2, 3, 1, 3, 1, 1), proof(1, 3, 3, 6)},
		{card(1, 100, 20, 10_000, 0, 20), proof(1, 10_000, 40, 2000)},
		{card(1, 0, 20, 10_000, 100, 20), proof(1, 1, 20, 0, 10_000, 10_000, 20, 2000)},
		// Means that are nearly the same: 1 / 3 and 7 / 20.
		{card(5, 1, 1, 5, 0, 2, 6, 1, 7, 6, 0, 13), proof(5, 5, 3, 1, 6, 6, 20, 7)},
		{card(6, 1, 1, 6, 0, 2, 5, 1, 7, 5, 0, 13), proof(5, 6, 23, 8)},
		{sameMarks(mostMarks, 10_000, 100, 20), proof(10_000, 10_000, 480, 48_000)},
	}
}

// P8.2, P8.3
func TestPool(t *testing.T) {
	for i, x := range poolCases() {
		if l, e := pool(t, x.c); !slices.Equal(l, x.l) || e != api.OK {
			t.Error(i, l, e)
		}
		if e := fade.CheckBlocks(x.c, x.l); e != api.OK {
			t.Error(i, e)
		}
	}
}

// P8.3
func TestBadBlocks(t *testing.T) {
	falling := card(10, 5, 1, 20, 3, 1, 30, 4, 1)
	for i, x := range []poolCase{
		{cardC(), proof(10, 50, 6, 22)},
		{cardC(), nil},
		{cardC(), proof(0, 0, 0, 0)},
		{cardC(), blocksC()[1:]},
		{cardC(), blocksC()[:2]},
		{cardC(), slices.Delete(blocksC(), 1, 2)},
		{cardC(), append(blocksC(), proof(0, 0, 0, 0)...)},
		{cardC(), append(blocksC(), proof(50, 50, 1, 9)...)},
		{cardC(), append(blocksC(), proof(60, 60, 1, 10)...)},
		{cardC(), append(proof(0, 0, 0, 0), blocksC()...)},
		{cardC(), append(proof(5, 5, 1, 0), blocksC()...)},
		{cardC(), slices.Insert(blocksC(), 1, proof(0, 0, 0, 0)...)},
		{cardC(), slices.Insert(blocksC(), 1, proof(15, 15, 0, 0)...)},
		{cardC(), slices.Insert(blocksC(), 1, proof(10, 10, 1, 1)...)},
		{cardC(), slices.Insert(blocksC(), 1, proof(10, 10, 0, 0)...)},
		// Ends that are not hours of the card.
		{cardC(), proof(10, 11, 1, 1, 20, 40, 4, 12, 50, 50, 1, 9)},
		{cardC(), proof(9, 10, 1, 1, 20, 40, 4, 12, 50, 50, 1, 9)},
		{cardC(), proof(10, 10, 1, 1, 20, 40, 4, 12, 50, math.MaxInt64, 1, 9)},
		{cardC(), proof(math.MinInt64, 10, 1, 1, 20, 40, 4, 12, 50, 50, 1, 9)},
		{cardC(), proof(10, 10, 1, 1, 11, 40, 4, 12, 50, 50, 1, 9)},
		// From after To.
		{cardC(), proof(10, 10, 1, 1, 40, 20, 4, 12, 50, 50, 1, 9)},
		// Wrong sums, also with the right mean.
		{cardC(), proof(10, 10, 1, 1, 20, 40, 1, 3, 50, 50, 1, 9)},
		{cardC(), proof(10, 10, 2, 2, 20, 40, 4, 12, 50, 50, 1, 9)},
		{cardC(), proof(10, 10, 1, 1, 20, 40, 4, 12, 50, 50, 1, 8)},
		// Blocks that could be parted, though their means are rising.
		{cardC(), proof(10, 40, 5, 13, 50, 50, 1, 9)},
		{cardC(), proof(10, 10, 1, 1, 20, 50, 5, 21)},
		// Blocks whose means are not rising.
		{cardC(), proof(10, 10, 1, 1, 20, 20, 1, 4, 30, 40, 3, 8, 50, 50, 1, 9)},
		{cardC(), proof(10, 10, 1, 1, 20, 30, 2, 6, 40, 40, 2, 6, 50, 50, 1, 9)},
		{card(1, 2, 1, 2, 2, 1), proof(1, 1, 1, 2, 2, 2, 1, 2)},
		// Out of order, with rising means.
		{falling, proof(30, 30, 1, 4, 10, 20, 2, 8)},
		{falling, proof(20, 20, 1, 3, 30, 30, 1, 4, 10, 10, 1, 5)},
		{card(10, 5, 1, 20, 3, 1), proof(20, 20, 1, 3, 10, 10, 1, 5)},
		// Only some of the marks with the same hours.
		{card(10, 5, 1, 10, 6, 1), proof(10, 10, 1, 5)},
		{card(10, 5, 1, 10, 6, 1), proof(10, 10, 1, 5, 10, 10, 1, 6)},
		{card(1, 0, 1), nil},
		{card(1, 0, 1), proof(0, 1, 1, 0)},
		{card(1, 0, 1), slices.Repeat(proof(0, 0, 0, 0), 1<<16)},
		{card(1, 0, 1), slices.Repeat(proof(1, 1, 1, 0), 1<<16)},
	} {
		if e := fade.CheckBlocks(x.c, x.l); e != api.ErrSum {
			t.Error(i, e)
		}
	}
	if e := fade.CheckBlocks(falling, proof(10, 30, 3, 12)); e != api.OK {
		t.Error(e)
	}
}

// P8.3: blocks are not proofs if any of their numbers is another one.
func TestBlocksWithOtherNumbers(t *testing.T) {
	for i, x := range poolCases() {
		for at := range x.l {
			for _, d := range []int64{1, -1, 10, -10, math.MinInt64, math.MaxInt64} {
				for field := range 4 {
					l := slices.Clone(x.l)
					*[]*int64{&l[at].From, &l[at].To, &l[at].Weight, &l[at].Sum}[field] += d
					if e := fade.CheckBlocks(x.c, l); e != api.ErrSum {
						t.Error(i, at, field, d, e)
					}
				}
			}
		}
	}
}

// P8.4
func TestValue(t *testing.T) {
	thirds := card(3, 1, 1, 3, 0, 2, 8, 6, 9, 8, 1, 12)
	for i, x := range []struct {
		c     []api.FadeMark
		hours int64
		v     api.Ratio
		e     api.Errno
	}{
		{cardC(), 25, ratio(3, 1), api.OK},
		{cardC(), 60, ratio(9, 1), api.OK},
		{cardC(), 9, ratio(0, 0), api.ErrNone},
		{cardC(), 0, ratio(0, 0), api.ErrNone},
		{cardC(), 10, ratio(1, 1), api.OK},
		{cardC(), 19, ratio(1, 1), api.OK},
		{cardC(), 20, ratio(3, 1), api.OK},
		{cardC(), 30, ratio(3, 1), api.OK},
		{cardC(), 49, ratio(3, 1), api.OK},
		{cardC(), 50, ratio(9, 1), api.OK},
		{cardC(), mostHours, ratio(9, 1), api.OK},
		{cardC(), -1, ratio(0, 0), api.ErrRange},
		{cardC(), mostHours + 1, ratio(0, 0), api.ErrRange},
		{cardC(), math.MinInt64, ratio(0, 0), api.ErrRange},
		{cardC(), math.MaxInt64, ratio(0, 0), api.ErrRange},
		{thirds, 2, ratio(0, 0), api.ErrNone},
		{thirds, 3, ratio(1, 3), api.OK},
		{thirds, 7, ratio(1, 3), api.OK},
		{thirds, 8, ratio(22, 7), api.OK},
		{card(1, 0, 20), 0, ratio(0, 0), api.ErrNone},
		{card(1, 0, 20), 1, ratio(0, 1), api.OK},
		{card(1, 0, 20), mostHours, ratio(0, 1), api.OK},
		{card(mostHours, 100, 20), mostHours - 1, ratio(0, 0), api.ErrNone},
		{card(mostHours, 100, 20), mostHours, ratio(100, 1), api.OK},
		{card(1, 2, 1, 2, 1, 1), 1, ratio(3, 2), api.OK},
		{card(1, 2, 1, 2, 1, 1), 2, ratio(3, 2), api.OK},
		{card(1, 50, 20, 1, 51, 19), 1, ratio(1969, 39), api.OK},
	} {
		if v, e := value(t, x.c, x.hours); v != x.v || e != x.e {
			t.Error(i, v, e)
		}
	}
}

// P8.5
func TestReach(t *testing.T) {
	half := card(10, 3, 1, 20, 2, 1, 30, 3, 1)
	for i, x := range []struct {
		c     []api.FadeMark
		limit int64
		want  api.FadeTime
		e     api.Errno
	}{
		{cardC(), 3, time(10, 20), api.OK},
		{cardC(), 5, time(40, 50), api.OK},
		{cardC(), 10, time(50, never), api.OK},
		{cardC(), 1, time(0, 10), api.OK},
		{cardC(), 2, time(10, 20), api.OK},
		{cardC(), 4, time(40, 50), api.OK},
		{cardC(), 9, time(40, 50), api.OK},
		{cardC(), mostGrade, time(50, never), api.OK},
		{cardC(), 0, time(0, 0), api.ErrRange},
		{cardC(), -1, time(0, 0), api.ErrRange},
		{cardC(), mostGrade + 1, time(0, 0), api.ErrRange},
		{cardC(), math.MinInt64, time(0, 0), api.ErrRange},
		{cardC(), math.MaxInt64, time(0, 0), api.ErrRange},
		{half, 1, time(0, 10), api.OK},
		{half, 2, time(0, 10), api.OK},
		{half, 3, time(20, 30), api.OK},
		{half, 4, time(30, never), api.OK},
		{card(1, 0, 1), 1, time(1, never), api.OK},
		{card(1, 1, 1), 1, time(0, 1), api.OK},
		{card(mostHours, mostGrade, 20), mostGrade, time(0, mostHours), api.OK},
		{card(mostHours, mostGrade-1, 20), mostGrade, time(mostHours, never), api.OK},
		// Nearly: 2399 / 24 is below 100.
		{append(sameMarks(23, 5, 100, 1), card(5, 99, 1)...), 100, time(5, never), api.OK},
		{append(sameMarks(23, 5, 100, 1), card(6, 99, 1)...), 100, time(6, never), api.OK},
		{append(sameMarks(23, 5, 100, 1), card(6, 99, 1)...), 99, time(0, 5), api.OK},
		{append(sameMarks(23, 6, 100, 1), card(5, 99, 1)...), 100, time(5, 6), api.OK},
	} {
		if got, e := reach(t, x.c, x.limit); got != x.want || e != x.e {
			t.Error(i, got, e)
		}
	}
}

// P8.6
func TestLabel(t *testing.T) {
	// With the limit 5 the shade reaches it after 20, by 30.
	shade := card(10, 0, 1, 20, 4, 1, 30, 5, 1, 40, 9, 1)
	// It is not reached after 40.
	slow := card(10, 0, 1, 40, 4, 1)
	wool := func(after, by int64) []api.FadeMark {
		if by == never {
			return card(after, 0, 1)
		}
		if after == 0 {
			return card(by, 5, 1)
		}
		return card(after, 0, 1, by, 5, 1)
	}
	for i, x := range []struct {
		wools [][]api.FadeMark
		c     []api.FadeMark
		limit int64
		want  api.Range
	}{
		{woolsC(), cardC(), 3, span(1, 2)},
		{woolsC(), cardC(), 9, span(0, 2)},
		{woolsC(), cardC(), 8, span(2, 3)},
		{woolsC(), cardC(), 1, span(0, 1)},
		{nil, cardC(), 3, span(0, 0)},
		{[][]api.FadeMark{}, cardC(), 3, span(0, 0)},
		{[][]api.FadeMark{wool(0, 20)}, shade, 5, span(1, 1)},
		{[][]api.FadeMark{wool(0, 21)}, shade, 5, span(0, 1)},
		{[][]api.FadeMark{wool(29, 30)}, shade, 5, span(0, 1)},
		{[][]api.FadeMark{wool(30, 31)}, shade, 5, span(0, 0)},
		{[][]api.FadeMark{wool(29, never)}, shade, 5, span(0, 1)},
		{[][]api.FadeMark{wool(30, never)}, shade, 5, span(0, 0)},
		{[][]api.FadeMark{wool(39, 40)}, slow, 5, span(1, 1)},
		{[][]api.FadeMark{wool(39, 41)}, slow, 5, span(0, 1)},
		{[][]api.FadeMark{wool(1, never)}, slow, 5, span(0, 1)},
		{[][]api.FadeMark{wool(mostHours, never)}, slow, 5, span(0, 1)},
		{[][]api.FadeMark{wool(40, never), wool(0, 1), wool(50, 60), wool(9, 40)}, slow, 5, span(2, 4)},
		{[][]api.FadeMark{wool(0, 1)}, card(1, 5, 1), 5, span(0, 1)},
		{slices.Repeat([][]api.FadeMark{wool(0, 20)}, mostWools), shade, 5, span(mostWools, mostWools)},
		{slices.Repeat([][]api.FadeMark{wool(0, 21)}, mostWools), shade, 5, span(0, mostWools)},
		{slices.Repeat([][]api.FadeMark{wool(30, 31)}, mostWools), shade, 5, span(0, 0)},
	} {
		if got, e := label(t, x.wools, x.c, x.limit); got != x.want || e != api.OK {
			t.Error(i, got, e)
		}
	}
}

// P8.6: the order of errors.
func TestBadLabels(t *testing.T) {
	good, many, arg := cardC(), sameMarks(mostMarks+1, 1, 1, 1), card(0, 1, 1)
	for i, x := range []struct {
		wools [][]api.FadeMark
		c     []api.FadeMark
		limit int64
		e     api.Errno
	}{
		{slices.Repeat([][]api.FadeMark{good}, mostWools+1), good, 3, api.ErrMany},
		{slices.Repeat([][]api.FadeMark{arg}, mostWools+1), arg, 0, api.ErrMany},
		{make([][]api.FadeMark, 1<<16), arg, 0, api.ErrMany},
		{[][]api.FadeMark{good, many, arg}, good, 3, api.ErrMany},
		{[][]api.FadeMark{good, arg, many}, good, 3, api.ErrArg},
		{[][]api.FadeMark{good, arg}, many, 0, api.ErrArg},
		{[][]api.FadeMark{good, many}, arg, 0, api.ErrMany},
		{[][]api.FadeMark{good, nil}, arg, 0, api.ErrMany},
		{[][]api.FadeMark{{}}, good, 3, api.ErrMany},
		{slices.Repeat([][]api.FadeMark{arg}, mostWools), good, 3, api.ErrArg},
		{[][]api.FadeMark{good}, many, 0, api.ErrMany},
		{[][]api.FadeMark{good}, nil, 0, api.ErrMany},
		{[][]api.FadeMark{good}, arg, 0, api.ErrArg},
		{nil, arg, 3, api.ErrArg},
		{[][]api.FadeMark{good}, good, 0, api.ErrRange},
		{[][]api.FadeMark{good}, good, -1, api.ErrRange},
		{[][]api.FadeMark{good}, good, mostGrade + 1, api.ErrRange},
		{nil, good, 0, api.ErrRange},
		{nil, good, math.MinInt64, api.ErrRange},
		{nil, good, math.MaxInt64, api.ErrRange},
		{nil, good, mostGrade, api.OK},
		{nil, good, 1, api.OK},
	} {
		if got, e := label(t, x.wools, x.c, x.limit); got != (api.Range{}) || e != x.e {
			t.Error(i, got, e)
		}
	}
	for i, x := range badCards() {
		for _, wools := range [][][]api.FadeMark{{x.c}, {good, x.c}, {good, x.c, good}} {
			if _, e := label(t, wools, good, 3); e != x.e {
				t.Error(i, e)
			}
		}
	}
}
