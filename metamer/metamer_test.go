package metamer_test

import (
	"math"
	"slices"
	"testing"

	"lampblack/api"
	"lampblack/metamer"
)

const (
	mostBands    = api.MaxMetamerBands
	mostCurve    = api.MaxMetamerCurve
	mostLamp     = api.MaxMetamerLamp
	mostChip     = api.MaxMetamerChip
	mostPigments = api.MaxMetamerPigments
	mostError    = api.MaxMetamerError
)

func list(n ...int64) []int64 { return n }

func rows(l ...[]int64) [][]int64 { return l }

func rg(lo, hi int64) api.Range { return api.Range{Lo: lo, Hi: hi} }

func ranges(ends ...int64) []api.Range {
	var l []api.Range
	for i := 0; i < len(ends); i += 2 {
		l = append(l, rg(ends[i], ends[i+1]))
	}
	return l
}

func same(n int, number int64) []int64 { return slices.Repeat(list(number), n) }

func sameRanges(n int, r api.Range) []api.Range { return slices.Repeat([]api.Range{r}, n) }

// exact returns ranges that contain just one number each.
func exact(numbers ...int64) []api.Range {
	var l []api.Range
	for _, n := range numbers {
		l = append(l, rg(n, n))
	}
	return l
}

// caseC returns the case C of the chapter.
func caseC() api.MetamerCase {
	return api.MetamerCase{
		Eye:  [][]api.Range{exact(1, 2, 0, 0), exact(0, 1, 1, 0), exact(0, 0, 2, 1)},
		Lamp: ranges(1, 2, 1, 1, 1, 1, 1, 1),
	}
}

func chipA() []int64 { return list(4, 1, 3, 0) }

func chipB() []int64 { return list(2, 2, 2, 2) }

// truthC returns a truth of the case C, with the lamp of the first band.
func truthC(lamp int64) api.MetamerTrue {
	return api.MetamerTrue{
		Eye:  rows(list(1, 2, 0, 0), list(0, 1, 1, 0), list(0, 0, 2, 1)),
		Lamp: list(lamp, 1, 1, 1),
	}
}

// evenCase returns a case whose bands are all the same.
func evenCase(bands int, curve, lamp api.Range) api.MetamerCase {
	return api.MetamerCase{
		Eye:  [][]api.Range{sameRanges(bands, curve), sameRanges(bands, curve), sameRanges(bands, curve)},
		Lamp: sameRanges(bands, lamp),
	}
}

func evenTruth(bands int, curve, lamp int64) api.MetamerTrue {
	return api.MetamerTrue{
		Eye:  rows(same(bands, curve), same(bands, curve), same(bands, curve)),
		Lamp: same(bands, lamp),
	}
}

// paletteP returns the palette P of the chapter, with an Error.
func paletteP(off int64) api.MetamerPalette {
	return api.MetamerPalette{Pigments: rows(list(1), list(2), list(4)), Error: off}
}

// caseChange is a change of the case C, and the error of CheckCase.
type caseChange struct {
	change func(c *api.MetamerCase)
	e      api.Errno
}

func (x caseChange) made() api.MetamerCase {
	c := caseC()
	x.change(&c)
	return c
}

func rightCases() []caseChange {
	return []caseChange{
		{func(c *api.MetamerCase) {}, api.OK},
		{func(c *api.MetamerCase) { *c = evenCase(1, rg(0, 0), rg(0, 0)) }, api.OK},
		{func(c *api.MetamerCase) { *c = evenCase(1, rg(0, mostCurve), rg(0, mostLamp)) }, api.OK},
		{func(c *api.MetamerCase) { *c = evenCase(mostBands, rg(0, mostCurve), rg(0, mostLamp)) }, api.OK},
		{func(c *api.MetamerCase) {
			*c = evenCase(mostBands, rg(mostCurve, mostCurve), rg(mostLamp, mostLamp))
		}, api.OK},
		{func(c *api.MetamerCase) { c.Eye[2], c.Lamp = ranges(0, 1, 3, 4, 99, 100, 0, 100), exact(0, 1, 99, 100) }, api.OK},
	}
}

// wrongCases returns cases that are not valid; many are so for a second reason,
// whose error comes later.
func wrongCases() []caseChange {
	return []caseChange{
		{func(c *api.MetamerCase) { *c = api.MetamerCase{} }, api.ErrMany},
		{func(c *api.MetamerCase) { c.Lamp = nil }, api.ErrMany},
		{func(c *api.MetamerCase) { *c = evenCase(0, rg(1, 1), rg(1, 1)) }, api.ErrMany},
		{func(c *api.MetamerCase) { *c = evenCase(mostBands+1, rg(1, 1), rg(1, 1)) }, api.ErrMany},
		{func(c *api.MetamerCase) { *c = evenCase(mostBands+1, rg(1, 1), rg(2, 1)) }, api.ErrMany},
		{func(c *api.MetamerCase) { c.Lamp = make([]api.Range, 1<<20) }, api.ErrMany},
		{func(c *api.MetamerCase) { c.Lamp = append(c.Lamp, rg(1, 1)) }, api.ErrEqual},
		{func(c *api.MetamerCase) { c.Lamp = c.Lamp[:3] }, api.ErrEqual},
		{func(c *api.MetamerCase) { c.Eye = nil }, api.ErrEqual},
		{func(c *api.MetamerCase) { c.Eye = c.Eye[:2] }, api.ErrEqual},
		{func(c *api.MetamerCase) { c.Eye = append(c.Eye, exact(1, 1, 1, 1)) }, api.ErrEqual},
		{func(c *api.MetamerCase) { c.Eye = make([][]api.Range, 1<<20) }, api.ErrEqual},
		{func(c *api.MetamerCase) { c.Eye[0] = nil }, api.ErrEqual},
		{func(c *api.MetamerCase) { c.Eye[1] = c.Eye[1][:3] }, api.ErrEqual},
		{func(c *api.MetamerCase) { c.Eye[2] = append(c.Eye[2], rg(1, 1)) }, api.ErrEqual},
		{func(c *api.MetamerCase) { c.Lamp[0], c.Eye[2] = rg(2, 1), c.Eye[2][:3] }, api.ErrEqual},
		{func(c *api.MetamerCase) { c.Eye[0][0], c.Eye[2] = rg(2, 1), c.Eye[2][:3] }, api.ErrEqual},
		{func(c *api.MetamerCase) { c.Eye[0][0], c.Eye = rg(2, 1), c.Eye[:1] }, api.ErrEqual},
		{func(c *api.MetamerCase) { c.Lamp[0] = rg(2, 1) }, api.ErrArg},
		{func(c *api.MetamerCase) { c.Lamp[1] = rg(-1, 1) }, api.ErrArg},
		{func(c *api.MetamerCase) { c.Lamp[3] = rg(1, mostLamp+1) }, api.ErrArg},
		{func(c *api.MetamerCase) { c.Lamp[3] = rg(mostLamp+1, mostLamp+1) }, api.ErrArg},
		{func(c *api.MetamerCase) { c.Lamp[2] = rg(math.MinInt64, math.MaxInt64) }, api.ErrArg},
		{func(c *api.MetamerCase) { c.Lamp[2] = rg(-3, -2) }, api.ErrArg},
		{func(c *api.MetamerCase) { c.Eye[0][0] = rg(1, 0) }, api.ErrArg},
		{func(c *api.MetamerCase) { c.Eye[0][3] = rg(-1, 0) }, api.ErrArg},
		{func(c *api.MetamerCase) { c.Eye[1][2] = rg(0, mostCurve+1) }, api.ErrArg},
		{func(c *api.MetamerCase) { c.Eye[2][3] = rg(mostCurve+1, mostCurve+1) }, api.ErrArg},
		{func(c *api.MetamerCase) { c.Eye[2][0] = rg(math.MaxInt64, math.MinInt64) }, api.ErrArg},
		{func(c *api.MetamerCase) { c.Eye[2][0] = rg(math.MinInt64, math.MaxInt64) }, api.ErrArg},
	}
}

// P4.1
func TestCheckCase(t *testing.T) {
	for i, x := range append(rightCases(), wrongCases()...) {
		if e := metamer.CheckCase(x.made()); e != x.e {
			t.Error(i, x.made(), e, x.e)
		}
	}
}

// checkBoth checks that all functions with two chips return an error and
// nothing else.
func checkBoth(t *testing.T, c api.MetamerCase, one, two []int64, want api.Errno) {
	t.Helper()
	if r, e := metamer.Apart(c, one, two); len(r) != 0 || e != want {
		t.Error(c, one, two, r, e, want)
	}
	if e := metamer.Surely(c, one, two); e != want {
		t.Error(c, one, two, e, want)
	}
	if x, e := metamer.Parting(c, one, two); len(x.Eye) != 0 || len(x.Lamp) != 0 || e != want {
		t.Error(c, one, two, x, e, want)
	}
}

// checkOne checks that all functions with one chip return an error and nothing
// else.
func checkOne(t *testing.T, c api.MetamerCase, x api.MetamerTrue, chip []int64, want api.Errno) {
	t.Helper()
	if n, e := metamer.Numbers(c, x, chip); len(n) != 0 || e != want {
		t.Error(c, x, chip, n, e, want)
	}
	if r, e := metamer.Spans(c, chip); len(r) != 0 || e != want {
		t.Error(c, chip, r, e, want)
	}
}

// Functions with a case return the error of CheckCase before all others.
func TestCaseFirst(t *testing.T) {
	chips := rows(nil, chipA(), chipB(), list(-1, 0, 0, 0), same(1, 1), same(9, 1))
	for _, x := range wrongCases() {
		c := x.made()
		for _, one := range chips {
			for _, two := range chips {
				checkBoth(t, c, one, two, x.e)
			}
			for _, truth := range []api.MetamerTrue{{}, truthC(1), truthC(3)} {
				checkOne(t, c, truth, one, x.e)
			}
		}
	}
}

// wrongChips returns chips that are not as described for 4 bands.
func wrongChips() []struct {
	chip []int64
	e    api.Errno
} {
	return []struct {
		chip []int64
		e    api.Errno
	}{
		{nil, api.ErrEqual},
		{list(), api.ErrEqual},
		{list(4, 1, 3), api.ErrEqual},
		{list(4, 1, 3, 0, 0), api.ErrEqual},
		{list(4, 1, -3), api.ErrEqual},
		{make([]int64, 1<<20), api.ErrEqual},
		{list(-1, 1, 3, 0), api.ErrArg},
		{list(4, 1, 3, -1), api.ErrArg},
		{list(4, mostChip+1, 3, 0), api.ErrArg},
		{list(4, 1, 3, mostChip+1), api.ErrArg},
		{list(math.MinInt64, 1, 3, 0), api.ErrArg},
		{list(4, 1, math.MaxInt64, 0), api.ErrArg},
	}
}

// The errors of chips come next: all of the first one before all of the second
// one.
func TestChips(t *testing.T) {
	for _, x := range wrongChips() {
		for _, truth := range []api.MetamerTrue{{}, truthC(1), truthC(3)} {
			checkOne(t, caseC(), truth, x.chip, x.e)
		}
		checkBoth(t, caseC(), x.chip, chipB(), x.e)
		checkBoth(t, caseC(), chipA(), x.chip, x.e)
		for _, y := range wrongChips() {
			checkBoth(t, caseC(), x.chip, y.chip, x.e)
		}
	}
	for _, chip := range rows(same(4, 0), same(4, mostChip), list(0, mostChip, 1, 0)) {
		if _, e := metamer.Spans(caseC(), chip); e != api.OK {
			t.Error(chip, e)
		}
		if e := metamer.Surely(caseC(), chip, slices.Clone(chip)); e != api.OK {
			t.Error(chip, e)
		}
	}
}

// P4.2
func TestNumbers(t *testing.T) {
	wide := evenCase(mostBands, rg(0, mostCurve), rg(0, mostLamp))
	for i, x := range []struct {
		c     api.MetamerCase
		truth api.MetamerTrue
		chip  []int64
		want  []int64
	}{
		{caseC(), truthC(1), chipA(), list(6, 4, 6)},
		{caseC(), truthC(1), chipB(), list(6, 4, 6)},
		{caseC(), truthC(2), chipA(), list(10, 4, 6)},
		{caseC(), truthC(2), chipB(), list(8, 4, 6)},
		{caseC(), truthC(2), same(4, 0), list(0, 0, 0)},
		{wide, evenTruth(8, mostCurve, mostLamp), same(8, mostChip), same(3, 8*mostCurve*mostLamp*mostChip)},
		{wide, evenTruth(8, 0, mostLamp), same(8, mostChip), same(3, 0)},
		{wide, evenTruth(8, mostCurve, 0), same(8, mostChip), same(3, 0)},
		{evenCase(1, rg(2, 3), rg(5, 7)), api.MetamerTrue{Eye: rows(list(2), list(3), list(2)), Lamp: list(6)}, list(11), list(132, 198, 132)},
		{evenCase(2, rg(0, 100), rg(0, 100)), api.MetamerTrue{Eye: rows(list(1, 10), list(0, 7), list(7, 0)), Lamp: list(2, 3)}, list(100, 1), list(230, 21, 1400)},
	} {
		if n, e := metamer.Numbers(x.c, x.truth, x.chip); !slices.Equal(n, x.want) || e != api.OK {
			t.Error(i, n, e)
		}
	}
}

// P4.2, what is not a truth.
func TestTruth(t *testing.T) {
	for i, x := range []struct {
		change func(x *api.MetamerTrue)
		e      api.Errno
	}{
		{func(x *api.MetamerTrue) { *x = api.MetamerTrue{} }, api.ErrEqual},
		{func(x *api.MetamerTrue) { x.Lamp = nil }, api.ErrEqual},
		{func(x *api.MetamerTrue) { x.Lamp = x.Lamp[:3] }, api.ErrEqual},
		{func(x *api.MetamerTrue) { x.Lamp = append(x.Lamp, 1) }, api.ErrEqual},
		{func(x *api.MetamerTrue) { x.Eye = nil }, api.ErrEqual},
		{func(x *api.MetamerTrue) { x.Eye = x.Eye[:2] }, api.ErrEqual},
		{func(x *api.MetamerTrue) { x.Eye = append(x.Eye, list(0, 0, 2, 1)) }, api.ErrEqual},
		{func(x *api.MetamerTrue) { x.Eye[0] = nil }, api.ErrEqual},
		{func(x *api.MetamerTrue) { x.Eye[1] = x.Eye[1][:3] }, api.ErrEqual},
		{func(x *api.MetamerTrue) { x.Eye[2] = append(x.Eye[2], 0) }, api.ErrEqual},
		{func(x *api.MetamerTrue) { x.Lamp[0], x.Eye[2] = 3, x.Eye[2][:3] }, api.ErrEqual},
		{func(x *api.MetamerTrue) { x.Eye[0][0], x.Lamp = 2, x.Lamp[:3] }, api.ErrEqual},
		{func(x *api.MetamerTrue) { x.Eye[0][0], x.Eye = 2, x.Eye[:2] }, api.ErrEqual},
		{func(x *api.MetamerTrue) { x.Lamp[0] = 0 }, api.ErrRange},
		{func(x *api.MetamerTrue) { x.Lamp[0] = 3 }, api.ErrRange},
		{func(x *api.MetamerTrue) { x.Lamp[3] = 2 }, api.ErrRange},
		{func(x *api.MetamerTrue) { x.Lamp[3] = math.MinInt64 }, api.ErrRange},
		{func(x *api.MetamerTrue) { x.Eye[0][0] = 0 }, api.ErrRange},
		{func(x *api.MetamerTrue) { x.Eye[1][3] = 1 }, api.ErrRange},
		{func(x *api.MetamerTrue) { x.Eye[2][3] = -1 }, api.ErrRange},
		{func(x *api.MetamerTrue) { x.Eye[2][3] = math.MaxInt64 }, api.ErrRange},
	} {
		truth := truthC(1)
		x.change(&truth)
		if n, e := metamer.Numbers(caseC(), truth, chipA()); len(n) != 0 || e != x.e {
			t.Error(i, n, e)
		}
	}
}

// P4.3
func TestSpans(t *testing.T) {
	for i, x := range []struct {
		c    api.MetamerCase
		chip []int64
		want []api.Range
	}{
		{caseC(), chipA(), ranges(6, 10, 4, 4, 6, 6)},
		{caseC(), chipB(), ranges(6, 8, 4, 4, 6, 6)},
		{caseC(), same(4, 0), ranges(0, 0, 0, 0, 0, 0)},
		{evenCase(mostBands, rg(0, mostCurve), rg(0, mostLamp)), same(8, mostChip), sameRanges(3, rg(0, 8*mostCurve*mostLamp*mostChip))},
		{evenCase(mostBands, rg(1, 2), rg(3, 5)), same(8, 7), sameRanges(3, rg(8*21, 8*70))},
		{api.MetamerCase{
			Eye:  [][]api.Range{ranges(1, 3, 0, 1), ranges(0, 0, 2, 2), ranges(5, 6, 0, 9)},
			Lamp: ranges(2, 4, 10, 11),
		}, list(1, 100), ranges(2, 1112, 2000, 2200, 10, 9924)},
	} {
		if r, e := metamer.Spans(x.c, x.chip); !slices.Equal(r, x.want) || e != api.OK {
			t.Error(i, r, e)
		}
	}
}

// bothCase is two chips of a case, and by how much they are apart.
type bothCase struct {
	c        api.MetamerCase
	one, two []int64
	want     []api.Range
}

func bothCases() []bothCase {
	dark := caseC()
	dark.Lamp = exact(0, 0, 0, 0)
	blind := caseC()
	blind.Eye[0][0] = rg(0, 0)
	early := caseC()
	early.Lamp[0] = rg(0, 1)
	return []bothCase{
		{caseC(), chipA(), chipB(), ranges(0, 2, 0, 0, 0, 0)},
		{caseC(), chipB(), chipA(), ranges(-2, 0, 0, 0, 0, 0)},
		{caseC(), chipA(), chipA(), ranges(0, 0, 0, 0, 0, 0)},
		{early, chipA(), chipB(), ranges(-2, 0, 0, 0, 0, 0)},
		{dark, same(4, 0), same(4, mostChip), ranges(0, 0, 0, 0, 0, 0)},
		{blind, list(0, 1, 2, 3), list(9, 1, 2, 3), ranges(0, 0, 0, 0, 0, 0)},
		{caseC(), list(0, 0, 0, 1), list(0, 0, 0, 0), ranges(0, 0, 0, 0, 1, 1)},
		{caseC(), list(0, 0, 0, 0), list(0, 0, 0, 1), ranges(0, 0, 0, 0, -1, -1)},
		{caseC(), list(0, 0, 1, 0), list(0, 0, 0, 2), ranges(0, 0, 1, 1, 0, 0)},
		{evenCase(2, rg(0, 1), rg(0, 1)), list(5, 0), list(0, 3), ranges(-3, 5, -3, 5, -3, 5)},
		{evenCase(2, rg(1, 2), rg(3, 4)), list(5, 0), list(0, 3), ranges(-9, 31, -9, 31, -9, 31)},
		{evenCase(8, rg(0, mostCurve), rg(0, mostLamp)), same(8, mostChip), same(8, 0),
			sameRanges(3, rg(0, 8*mostCurve*mostLamp*mostChip))},
		{evenCase(8, rg(0, mostCurve), rg(0, mostLamp)), same(8, 0), same(8, mostChip),
			sameRanges(3, rg(-8*mostCurve*mostLamp*mostChip, 0))},
	}
}

// P4.4, P4.5, P4.6
func TestBoth(t *testing.T) {
	for i, x := range bothCases() {
		if r, e := metamer.Apart(x.c, x.one, x.two); !slices.Equal(r, x.want) || e != api.OK {
			t.Error(i, r, e)
		}
		surely, parting := api.OK, api.ErrNone
		if !slices.Equal(x.want, make([]api.Range, 3)) {
			surely, parting = api.ErrPart, api.OK
		}
		if e := metamer.Surely(x.c, x.one, x.two); e != surely {
			t.Error(i, e, surely)
		}
		truth, e := metamer.Parting(x.c, x.one, x.two)
		if e != parting {
			t.Error(i, truth, e)
		}
		if e == api.OK && !part(t, x.c, truth, x.one, x.two) || e != api.OK && (len(truth.Eye) != 0 || len(truth.Lamp) != 0) {
			t.Error(i, truth, e)
		}
	}
}

// part reports whether two chips part by a truth, as Numbers says.
func part(t *testing.T, c api.MetamerCase, truth api.MetamerTrue, one, two []int64) bool {
	t.Helper()
	a, e := metamer.Numbers(c, truth, one)
	b, f := metamer.Numbers(c, truth, two)
	if len(a) != 3 || len(b) != 3 || e != api.OK || f != api.OK {
		t.Fatal(c, truth, one, two, a, b, e, f)
	}
	return !slices.Equal(a, b)
}

// P4.6, the chapter's example: only this truth parts the two chips.
func TestPartingOfC(t *testing.T) {
	x, e := metamer.Parting(caseC(), chipA(), chipB())
	if want := truthC(2); !areSame(x, want) || e != api.OK {
		t.Error(x, e)
	}
}

func areSame(one, two api.MetamerTrue) bool {
	return slices.EqualFunc(one.Eye, two.Eye, slices.Equal) && slices.Equal(one.Lamp, two.Lamp)
}

// paletteChange is a palette, and the error of CheckPalette.
type paletteChange struct {
	p api.MetamerPalette
	e api.Errno
}

func rightPalettes() []api.MetamerPalette {
	return []api.MetamerPalette{
		paletteP(0),
		paletteP(mostError),
		{Pigments: rows(list(0))},
		{Pigments: rows(same(8, mostChip)), Error: 1},
		{Pigments: slices.Repeat(rows(same(8, mostChip)), mostPigments), Error: mostError},
		{Pigments: rows(list(0, mostChip), list(mostChip, 0))},
	}
}

// wrongPalettes returns palettes that are not valid; many are so for a second
// reason, whose error comes later.
func wrongPalettes() []paletteChange {
	palette := func(off int64, l ...[]int64) api.MetamerPalette {
		return api.MetamerPalette{Pigments: l, Error: off}
	}
	return []paletteChange{
		{palette(0), api.ErrMany},
		{palette(-1), api.ErrMany},
		{palette(0, slices.Repeat(rows(list(1)), mostPigments+1)...), api.ErrMany},
		{palette(0, make([][]int64, 1<<20)...), api.ErrMany},
		{palette(0, nil), api.ErrMany},
		{palette(0, list()), api.ErrMany},
		{palette(0, nil, list(1)), api.ErrMany},
		{palette(0, nil, nil), api.ErrMany},
		{palette(0, same(9, 1)), api.ErrMany},
		{palette(0, same(9, 1), list(1)), api.ErrMany},
		{palette(0, same(9, -1)), api.ErrMany},
		{palette(0, make([]int64, 1<<20)), api.ErrMany},
		{palette(0, list(1), list(1, 2)), api.ErrEqual},
		{palette(0, list(1, 2), list(1)), api.ErrEqual},
		{palette(0, list(1, 2), list(1, 2), nil), api.ErrEqual},
		{palette(0, same(8, 1), same(9, 1)), api.ErrEqual},
		{palette(0, list(-1, 2), list(1)), api.ErrEqual},
		{palette(0, list(1, 2), list(-1, 2), list(1)), api.ErrEqual},
		{palette(-1, list(1, 2), list(1)), api.ErrEqual},
		{palette(0, list(1), make([]int64, 1<<20)), api.ErrEqual},
		{palette(0, list(-1)), api.ErrArg},
		{palette(0, list(mostChip+1)), api.ErrArg},
		{palette(0, list(1, 2), list(1, -1)), api.ErrArg},
		{palette(0, list(1, 2), list(mostChip+1, 1)), api.ErrArg},
		{palette(0, list(1, math.MinInt64)), api.ErrArg},
		{palette(0, list(math.MaxInt64)), api.ErrArg},
		{palette(-1, list(1)), api.ErrArg},
		{palette(mostError+1, list(1)), api.ErrArg},
		{palette(math.MinInt64, list(1)), api.ErrArg},
		{palette(math.MaxInt64, list(1)), api.ErrArg},
	}
}

// P4.7
func TestCheckPalette(t *testing.T) {
	for i, p := range rightPalettes() {
		if e := metamer.CheckPalette(p); e != api.OK {
			t.Error(i, e)
		}
	}
	for i, x := range wrongPalettes() {
		if e := metamer.CheckPalette(x.p); e != x.e {
			t.Error(i, e, x.e)
		}
	}
}

// Functions with a palette return the error of CheckPalette before all others.
func TestPaletteFirst(t *testing.T) {
	for i, x := range wrongPalettes() {
		for _, set := range []int{0, 1, -1, 1 << 20} {
			if s, e := metamer.Mix(x.p, set); len(s) != 0 || e != x.e {
				t.Error(i, set, s, e)
			}
		}
		for _, measured := range rows(nil, list(1), list(1, 2), same(9, 0)) {
			if sets, e := metamer.Fit(x.p, measured); len(sets) != 0 || e != x.e {
				t.Error(i, measured, sets, e)
			}
		}
		if first, second, e := metamer.Clash(x.p); first != 0 || second != 0 || e != x.e {
			t.Error(i, first, second, e)
		}
	}
}

// P4.8
func TestMix(t *testing.T) {
	two := api.MetamerPalette{Pigments: rows(list(1, 10, 0), list(2, 0, 500), list(0, 0, 1000))}
	full := api.MetamerPalette{Pigments: slices.Repeat(rows(same(8, mostChip)), mostPigments)}
	for i, x := range []struct {
		p    api.MetamerPalette
		set  int
		want []int64
		e    api.Errno
	}{
		{paletteP(0), 5, list(5), api.OK},
		{paletteP(9), 5, list(5), api.OK},
		{paletteP(0), 0, list(0), api.OK},
		{paletteP(0), 7, list(7), api.OK},
		{paletteP(0), 8, nil, api.ErrRange},
		{paletteP(0), -1, nil, api.ErrRange},
		{paletteP(0), math.MinInt, nil, api.ErrRange},
		{paletteP(0), math.MaxInt, nil, api.ErrRange},
		{two, 0, list(0, 0, 0), api.OK},
		{two, 1, list(1, 10, 0), api.OK},
		{two, 2, list(2, 0, 500), api.OK},
		{two, 3, list(3, 10, 500), api.OK},
		{two, 6, list(2, 0, 1500), api.OK},
		{two, 7, list(3, 10, 1500), api.OK},
		{full, 4095, same(8, 12000), api.OK},
		{full, 4096, nil, api.ErrRange},
		{api.MetamerPalette{Pigments: rows(list(3))}, 1, list(3), api.OK},
		{api.MetamerPalette{Pigments: rows(list(3))}, 2, nil, api.ErrRange},
	} {
		if s, e := metamer.Mix(x.p, x.set); !slices.Equal(s, x.want) || e != x.e {
			t.Error(i, s, e)
		}
	}
}

func allSets(n int) []int {
	var l []int
	for set := range n {
		l = append(l, set)
	}
	return l
}

// P4.9
func TestFit(t *testing.T) {
	two := api.MetamerPalette{Pigments: rows(list(1, 10), list(2, 0), list(3, 10)), Error: 2}
	dark := api.MetamerPalette{Pigments: slices.Repeat(rows(same(8, 0)), mostPigments), Error: mostError}
	for i, x := range []struct {
		p        api.MetamerPalette
		measured []int64
		want     []int
		e        api.Errno
	}{
		{paletteP(0), list(5), []int{5}, api.OK},
		{paletteP(1), list(5), []int{4, 5, 6}, api.OK},
		{paletteP(1), list(0), []int{0, 1}, api.OK},
		{paletteP(1), list(-1), []int{0}, api.OK},
		{paletteP(1), list(-2), nil, api.OK},
		{paletteP(1), list(8), []int{7}, api.OK},
		{paletteP(1), list(9), nil, api.OK},
		{paletteP(mostError), list(107), []int{7}, api.OK},
		{paletteP(mostError), list(-100), []int{0}, api.OK},
		{paletteP(mostError), list(math.MinInt64), nil, api.OK},
		{paletteP(mostError), list(math.MaxInt64), nil, api.OK},
		{paletteP(0), nil, nil, api.ErrEqual},
		{paletteP(0), list(), nil, api.ErrEqual},
		{paletteP(0), list(5, 0), nil, api.ErrEqual},
		{paletteP(0), make([]int64, 1<<20), nil, api.ErrEqual},
		{two, list(3, 10), []int{1, 3, 4, 6}, api.OK},
		{two, list(3, 8), []int{1, 3, 4, 6}, api.OK},
		{two, list(3, 12), []int{1, 3, 4, 6}, api.OK},
		{two, list(3, 7), nil, api.OK},
		{two, list(4, 19), []int{5, 7}, api.OK},
		{two, list(0, 1), []int{0, 2}, api.OK},
		{two, list(-1, 1), []int{0}, api.OK},
		{two, list(0, math.MinInt64), nil, api.OK},
		{two, list(math.MaxInt64, 0), nil, api.OK},
		{two, list(3), nil, api.ErrEqual},
		{two, list(3, 10, 0), nil, api.ErrEqual},
		{dark, list(100, -100, 0, 1, 2, 3, 4, 100), allSets(4096), api.OK},
		{dark, list(100, -100, 0, 1, 2, 3, 4, 101), nil, api.OK},
	} {
		if sets, e := metamer.Fit(x.p, x.measured); !slices.Equal(sets, x.want) || e != x.e {
			t.Error(i, sets, e)
		}
	}
}

// P4.10
func TestClash(t *testing.T) {
	palette := func(off int64, l ...[]int64) api.MetamerPalette {
		return api.MetamerPalette{Pigments: l, Error: off}
	}
	for i, x := range []struct {
		p             api.MetamerPalette
		first, second int
		e             api.Errno
	}{
		{paletteP(0), 0, 0, api.ErrNone},
		{paletteP(1), 0, 1, api.OK},
		{palette(0, list(0)), 0, 1, api.OK},
		{palette(0, list(1)), 0, 0, api.ErrNone},
		{palette(1, list(2)), 0, 1, api.OK},
		{palette(1, list(3)), 0, 0, api.ErrNone},
		{palette(mostError, list(200)), 0, 1, api.OK},
		{palette(mostError, list(201)), 0, 0, api.ErrNone},
		{palette(0, list(3), list(5), list(8)), 3, 4, api.OK},
		{palette(0, list(5), list(8), list(3)), 2, 5, api.OK},
		{palette(0, list(8), list(3), list(5)), 1, 6, api.OK},
		{palette(0, list(5), list(5), list(5)), 1, 2, api.OK},
		{palette(1, list(9), list(5), list(2)), 0, 4, api.OK},
		{palette(1, list(9), list(0), list(2)), 0, 2, api.OK},
		// All bands count, and one is enough to tell.
		{palette(1, list(2, 2, 2, 2, 2, 2, 2, 2)), 0, 1, api.OK},
		{palette(1, list(2, 2, 2, 2, 3, 2, 2, 2)), 0, 0, api.ErrNone},
		{palette(1, list(3, 2, 2, 2, 2, 2, 2, 2)), 0, 0, api.ErrNone},
		{palette(1, list(2, 2, 2, 2, 2, 2, 2, 3)), 0, 0, api.ErrNone},
		{palette(0, list(7, 1, 7), list(7, 2, 7)), 0, 0, api.ErrNone},
		{palette(0, list(7, 1, 7), list(7, 1, 7)), 1, 2, api.OK},
		// Both differ from 7, by less in one band and by more in the other one.
		{palette(1, list(7, 7), list(9, 5)), 1, 2, api.OK},
		{palette(1, list(7, 7), list(10, 5)), 0, 0, api.ErrNone},
		{palette(1, list(7, 7), list(9, 4)), 0, 0, api.ErrNone},
		{palette(mostError, slices.Repeat(rows(same(8, 0)), mostPigments)...), 0, 1, api.OK},
		{palette(0, slices.Repeat(rows(same(8, mostChip)), mostPigments)...), 1, 2, api.OK},
	} {
		if first, second, e := metamer.Clash(x.p); first != x.first || second != x.second || e != x.e {
			t.Error(i, first, second, e)
		}
	}
}

// twelve returns 12 pigments of which no two sets clash: in each of two bands
// they are powers of 2, spread by a number; some bands of 0 lie between.
func twelve(bands int, spread int64) api.MetamerPalette {
	var p api.MetamerPalette
	for i := range mostPigments {
		pigment := same(bands, 0)
		pigment[i/6*(bands-1)] = spread << (i % 6)
		p.Pigments = append(p.Pigments, pigment)
	}
	return p
}

// P4.10, as many sets as can be.
func TestClashOfTwelve(t *testing.T) {
	for bands := 2; bands <= mostBands; bands++ {
		for spread := int64(1); spread <= 31; spread += 5 {
			p := twelve(bands, spread)
			p.Error = (spread - 1) / 2
			if first, second, e := metamer.Clash(p); first != 0 || second != 0 || e != api.ErrNone {
				t.Error(bands, spread, first, second, e)
			}
			p.Error = (spread + 1) / 2
			if first, second, e := metamer.Clash(p); first != 0 || second != 1 || e != api.OK {
				t.Error(bands, spread, first, second, e)
			}
			// The last pigment is as much as the five before it, and one spread more.
			p.Pigments[11][bands-1] -= spread
			p.Error = (spread - 1) / 2
			if first, second, e := metamer.Clash(p); first != 31<<6 || second != 1<<11 || e != api.OK {
				t.Error(bands, spread, first, second, e)
			}
		}
	}
}
