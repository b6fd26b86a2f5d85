package dye_test

import (
	"math"
	"slices"
	"testing"

	"lampblack/api"
	"lampblack/dye"
)

const (
	mostDyes   = 8
	mostBand   = 20
	mostGrain  = 6
	mostPrice  = 1_000_000
	mostFast   = 8
	mostNumber = 1 << 40
	side       = mostBand + 1
)

// shelf returns a shelf of dyes, of which each four numbers are both bands, Price
// and Fast.
func shelf(numbers ...int64) []api.DyeKind {
	var l []api.DyeKind
	for x := range slices.Chunk(numbers, 4) {
		l = append(l, api.DyeKind{Band: [2]int64{x[0], x[1]}, Price: x[2], Fast: int(x[3])})
	}
	return l
}

// want returns a want of ranges from lo to hi, and of a fastness.
func want(loX, hiX, loY, hiY int64, fast int) api.DyeWant {
	return api.DyeWant{Band: [2]api.Range{{Lo: loX, Hi: hiX}, {Lo: loY, Hi: hiY}}, Fast: fast}
}

// list returns its numbers.
func list(numbers ...int64) []int64 { return numbers }

// at returns the index in a table for the first i dyes and the bands x and y.
func at(i, x, y int) int { return (i*side+x)*side + y }

// shelfL returns the shelf of the chapter's examples, with its wants.
func shelfL() []api.DyeKind { return shelf(2, 1, 5, 6, 0, 3, 4, 3, 1, 0, 3, 8) }
func wantW() api.DyeWant    { return want(4, 5, 3, 4, 3) }
func wantV() api.DyeWant    { return want(4, 5, 3, 4, 6) }

// everything returns a want of all bands that can be asked for.
func everything(fast int) api.DyeWant { return want(0, mostBand, 0, mostBand, fast) }

// The functions below call those of the package, and see to it that with an
// error every other result is its zero value (R2).

func mix(t *testing.T, l []api.DyeKind, recipe []int64) ([]int64, int64, api.Errno) {
	t.Helper()
	bands, n, e := dye.Mix(l, recipe)
	if e != api.OK && (len(bands) != 0 || n != 0) {
		t.Error(l, recipe, bands, n, e)
	}
	return bands, n, e
}

func check(t *testing.T, l []api.DyeKind, w api.DyeWant, recipe []int64) (int64, api.Errno) {
	t.Helper()
	n, e := dye.Check(l, w, recipe)
	if e != api.OK && n != 0 {
		t.Error(l, w, recipe, n, e)
	}
	return n, e
}

func cheapest(t *testing.T, l []api.DyeKind, w api.DyeWant) ([]int64, int64, api.Errno) {
	t.Helper()
	recipe, n, e := dye.Cheapest(l, w)
	if e != api.OK && (len(recipe) != 0 || n != 0) {
		t.Error(l, w, recipe, n, e)
	}
	return recipe, n, e
}

func table(t *testing.T, l []api.DyeKind, fast int) ([]int64, api.Errno) {
	t.Helper()
	numbers, e := dye.Table(l, fast)
	if e != api.OK && len(numbers) != 0 {
		t.Error(l, fast, numbers, e)
	}
	return numbers, e
}

func checkTable(t *testing.T, l []api.DyeKind, w api.DyeWant, numbers []int64) (int64, api.Errno) {
	t.Helper()
	n, e := dye.CheckTable(l, w, numbers)
	if e != api.OK && n != 0 {
		t.Error(l, w, n, e)
	}
	return n, e
}

func wider(t *testing.T, l []api.DyeKind, w api.DyeWant) (int64, api.Errno) {
	t.Helper()
	n, e := dye.Wider(l, w)
	if e != api.OK && n != 0 {
		t.Error(l, w, n, e)
	}
	return n, e
}

func grades(t *testing.T, l []api.DyeKind, w api.DyeWant) ([]int64, api.Errno) {
	t.Helper()
	n, e := dye.Grades(l, w)
	if e != api.OK && len(n) != 0 {
		t.Error(l, w, n, e)
	}
	return n, e
}

// errorsOf returns the errors of all functions: CheckShelf, Mix and Table, and
// then those with a want.
func errorsOf(t *testing.T, l []api.DyeKind, w api.DyeWant, recipe, numbers []int64) [8]api.Errno {
	t.Helper()
	var e [8]api.Errno
	e[0] = dye.CheckShelf(l)
	_, _, e[1] = mix(t, l, recipe)
	_, e[2] = table(t, l, w.Fast)
	_, e[3] = check(t, l, w, recipe)
	_, _, e[4] = cheapest(t, l, w)
	_, e[5] = checkTable(t, l, w, numbers)
	_, e[6] = wider(t, l, w)
	_, e[7] = grades(t, l, w)
	return e
}

// each returns an error for each function.
func each(e api.Errno) [8]api.Errno { return [8]api.Errno{e, e, e, e, e, e, e, e} }

// manyDyes returns so many equal dyes.
func manyDyes(n int, numbers ...int64) []api.DyeKind { return slices.Repeat(shelf(numbers...), n) }

// badShelves returns shelves that are not valid, with their errors.
func badShelves() []struct {
	l []api.DyeKind
	e api.Errno
} {
	return []struct {
		l []api.DyeKind
		e api.Errno
	}{
		{nil, api.ErrMany},
		{[]api.DyeKind{}, api.ErrMany},
		{manyDyes(mostDyes+1, 1, 1, 1, 1), api.ErrMany},
		{manyDyes(1<<16, 1, 1, 1, 1), api.ErrMany},
		// How many dyes there are comes before what they are.
		{manyDyes(mostDyes+1, 0, 0, -1, 0), api.ErrMany},

		{shelf(0, 0, 1, 1), api.ErrArg},
		{shelf(-1, 1, 1, 1), api.ErrArg},
		{shelf(1, -1, 1, 1), api.ErrArg},
		{shelf(mostGrain+1, 1, 1, 1), api.ErrArg},
		{shelf(1, mostGrain+1, 1, 1), api.ErrArg},
		{shelf(math.MinInt64, 1, 1, 1), api.ErrArg},
		{shelf(1, math.MaxInt64, 1, 1), api.ErrArg},
		{shelf(1, 1, -1, 1), api.ErrArg},
		{shelf(1, 1, mostPrice+1, 1), api.ErrArg},
		{shelf(1, 1, math.MinInt64, 1), api.ErrArg},
		{shelf(1, 1, math.MaxInt64, 1), api.ErrArg},
		{shelf(1, 1, 1, 0), api.ErrArg},
		{shelf(1, 1, 1, -1), api.ErrArg},
		{shelf(1, 1, 1, mostFast+1), api.ErrArg},
		{shelf(1, 1, 1, math.MinInt64), api.ErrArg},
		{shelf(1, 1, 1, math.MaxInt64), api.ErrArg},
		{shelf(1, 1, 1, 1, 0, 0, 1, 1), api.ErrArg},
		{shelf(0, 0, 1, 1, 1, 1, 1, 1, 1, 1, 1, 1), api.ErrArg},
		{append(manyDyes(mostDyes-1, 1, 1, 1, 1), shelf(1, 1, 1, 9)...), api.ErrArg},
	}
}

// badWants returns wants that are not valid. The last one is so only by Fast.
func badWants() []api.DyeWant {
	return []api.DyeWant{
		{},
		want(5, 4, 3, 4, 3),
		want(4, 5, 4, 3, 3),
		want(-1, 5, 3, 4, 3),
		want(4, 5, -1, 4, 3),
		want(-2, -1, 3, 4, 3),
		want(4, mostBand+1, 3, 4, 3),
		want(4, 5, 3, mostBand+1, 3),
		want(4, 5, mostBand+1, mostBand+1, 3),
		want(1, 0, 1, 0, 3),
		want(math.MinInt64, 5, 3, 4, 3),
		want(4, math.MaxInt64, 3, 4, 3),
		want(4, 5, math.MaxInt64, math.MinInt64, 3),
		want(4, 5, 3, 4, 0),
		want(4, 5, 3, 4, -1),
		want(4, 5, 3, 4, mostFast+1),
		want(4, 5, 3, 4, math.MinInt),
		want(4, 5, 3, 4, math.MaxInt),
	}
}

// P9.1: what is not a shelf. All functions return its error before all others.
func TestBadShelves(t *testing.T) {
	for i, x := range badShelves() {
		for _, w := range append(badWants(), wantW(), everything(1)) {
			for _, n := range []int{0, 1, 2, len(x.l)} {
				e := errorsOf(t, x.l, w, make([]int64, n), make([]int64, (n+1)*side*side))
				if e != each(x.e) {
					t.Error(i, w, n, e)
				}
			}
			if e := errorsOf(t, x.l, w, list(-1), list(-1)); e != each(x.e) {
				t.Error(i, w, e)
			}
		}
	}
}

// P9.1
func TestCheckShelf(t *testing.T) {
	for i, l := range [][]api.DyeKind{
		shelfL(),
		shelf(1, 0, 0, 1),
		shelf(0, 1, 0, 1),
		shelf(mostGrain, mostGrain, mostPrice, mostFast),
		shelf(mostGrain, 0, 0, mostFast, 0, mostGrain, mostPrice, 1),
		manyDyes(mostDyes, 1, 1, 1, 1),
		manyDyes(mostDyes, mostGrain, mostGrain, mostPrice, mostFast),
	} {
		if e := dye.CheckShelf(l); e != api.OK {
			t.Error(i, e)
		}
	}
}

// A want that is not valid: its error comes after that of the shelf, and before
// all others.
func TestBadWants(t *testing.T) {
	right, _ := table(t, shelfL(), 3)
	wrong := slices.Repeat(list(1), len(right))
	for i, w := range badWants() {
		for _, recipe := range [][]int64{list(0, 1, 4), list(2, 0, 1), nil, list(-1, 0, 0)} {
			for _, numbers := range [][]int64{right, wrong, nil, list(-1)} {
				e := errorsOf(t, shelfL(), w, recipe, numbers)
				if !slices.Equal(e[3:], slices.Repeat([]api.Errno{api.ErrArg}, 5)) {
					t.Error(i, recipe, len(numbers), e)
				}
			}
		}
	}
	for i, w := range []api.DyeWant{
		everything(1), everything(mostFast), want(0, 0, 0, 0, 1), want(mostBand, mostBand, mostBand, mostBand, mostFast),
	} {
		if e := errorsOf(t, shelfL(), w, list(0, 0, 0), right); e[6] != api.OK || e[7] != api.OK {
			t.Error(i, e)
		}
	}
}

// P9.2: what is not a recipe.
func TestBadRecipes(t *testing.T) {
	for i, x := range []struct {
		recipe []int64
		e      api.Errno
	}{
		{nil, api.ErrEqual},
		{list(0, 1), api.ErrEqual},
		{list(0, 1, 4, 0), api.ErrEqual},
		{make([]int64, 1<<16), api.ErrEqual},
		// How many numbers there are comes before what they are.
		{list(-1, 0), api.ErrEqual},
		{list(0, 1, 4, mostBand+1), api.ErrEqual},
		{list(-1, 1, 4), api.ErrRange},
		{list(0, -1, 4), api.ErrRange},
		{list(0, 1, -1), api.ErrRange},
		{list(mostBand+1, 1, 4), api.ErrRange},
		{list(0, 1, mostBand+1), api.ErrRange},
		{list(0, math.MinInt64, 4), api.ErrRange},
		{list(math.MaxInt64, math.MaxInt64, math.MaxInt64), api.ErrRange},
	} {
		if bands, n, e := mix(t, shelfL(), x.recipe); e != x.e {
			t.Error(i, bands, n, e)
		}
		// Neither band is in its range, and the dye 1 is not fast enough.
		for _, w := range []api.DyeWant{wantW(), wantV(), want(20, 20, 20, 20, 8)} {
			if n, e := check(t, shelfL(), w, x.recipe); e != x.e {
				t.Error(i, w, n, e)
			}
		}
	}
}

// P9.2
func TestMix(t *testing.T) {
	most := manyDyes(mostDyes, mostGrain, mostGrain-1, mostPrice, mostFast)
	for i, x := range []struct {
		l      []api.DyeKind
		recipe []int64
		bands  []int64
		cost   int64
	}{
		{shelfL(), list(2, 0, 1), list(5, 2), 13},
		{shelfL(), list(0, 1, 4), list(4, 3), 16},
		{shelfL(), list(1, 1, 2), list(4, 4), 15},
		{shelfL(), list(0, 0, 0), list(0, 0), 0},
		{shelfL(), list(1, 0, 0), list(2, 1), 5},
		{shelfL(), list(0, 1, 0), list(0, 3), 4},
		{shelfL(), list(0, 0, 1), list(1, 0), 3},
		// The bands of a recipe may be above what can be asked for.
		{shelfL(), list(20, 20, 20), list(60, 80), 240},
		{shelf(6, 5, 0, 1), list(7), list(42, 35), 0},
		{shelf(0, 6, 9, 1), list(mostBand), list(0, 120), 180},
		{most, slices.Repeat(list(mostBand), mostDyes), list(960, 800), 160 * mostPrice},
		{most, list(0, 0, 0, 0, 0, 0, 0, 1), list(6, 5), mostPrice},
	} {
		if bands, n, e := mix(t, x.l, x.recipe); !slices.Equal(bands, x.bands) || n != x.cost || e != api.OK {
			t.Error(i, bands, n, e)
		}
	}
}

// P9.2
func TestCheck(t *testing.T) {
	for i, x := range []struct {
		l      []api.DyeKind
		w      api.DyeWant
		recipe []int64
		cost   int64
		e      api.Errno
	}{
		{shelfL(), wantW(), list(0, 1, 4), 16, api.OK},
		{shelfL(), wantW(), list(2, 0, 1), 0, api.ErrPart},
		{shelfL(), wantV(), list(0, 1, 4), 0, api.ErrFaded},
		{shelfL(), wantW(), list(1, 1, 2), 15, api.OK},
		{shelfL(), wantW(), list(1, 1, 3), 18, api.OK},
		{shelfL(), wantW(), list(1, 1, 1), 0, api.ErrPart},
		{shelfL(), wantW(), list(1, 1, 4), 0, api.ErrPart},
		{shelfL(), wantW(), list(2, 1, 0), 0, api.ErrPart},
		{shelfL(), wantW(), list(0, 0, 0), 0, api.ErrPart},
		{shelfL(), wantW(), list(20, 20, 20), 0, api.ErrPart},
		// Bands come before the fastness.
		{shelfL(), wantV(), list(2, 1, 1), 0, api.ErrPart},
		{shelfL(), want(4, 5, 3, 4, 4), list(1, 1, 2), 0, api.ErrFaded},
		{shelfL(), want(4, 5, 2, 2, 6), list(2, 0, 1), 13, api.OK},
		{shelfL(), want(4, 5, 2, 2, 7), list(2, 0, 1), 0, api.ErrFaded},
		{shelfL(), want(5, 5, 0, 0, 8), list(0, 0, 5), 15, api.OK},
		{shelfL(), everything(8), list(0, 0, 20), 60, api.OK},
		{shelfL(), everything(1), list(0, 7, 0), 0, api.ErrPart},
		{shelfL(), everything(1), list(10, 3, 0), 62, api.OK},
		{shelfL(), everything(1), list(10, 3, 1), 0, api.ErrPart},
		// A dye that is not fast enough does no harm without a grain.
		{shelfL(), want(0, 0, 0, 0, 8), list(0, 0, 0), 0, api.OK},
		{shelf(1, 0, 0, 1), want(0, 3, 0, 0, 1), list(3), 0, api.OK},
		{shelf(1, 0, 0, 1), want(0, 3, 0, 0, 2), list(0), 0, api.OK},
		{shelf(1, 0, 0, 1), want(0, 3, 0, 0, 2), list(1), 0, api.ErrFaded},
	} {
		if n, e := check(t, x.l, x.w, x.recipe); n != x.cost || e != x.e {
			t.Error(i, n, e)
		}
	}
}

// P9.3, P9.5: -1 stands for no recipe that fits.
func TestCheapestAndWider(t *testing.T) {
	ones := shelf(1, 0, mostPrice, 1, 0, 1, mostPrice, 1)
	for i, x := range []struct {
		l    []api.DyeKind
		w    api.DyeWant
		cost int64
		by   int64
	}{
		{shelfL(), wantW(), 15, 0},
		{shelfL(), wantV(), -1, 1},
		{shelfL(), want(4, 5, 3, 4, 4), -1, 1},
		{shelfL(), want(4, 5, 3, 4, 8), -1, 3},
		{shelfL(), want(0, 0, 0, 0, 8), 0, 0},
		{shelfL(), everything(1), 0, 0},
		{shelfL(), want(20, 20, 20, 20, 1), 68, 0},
		{shelfL(), want(20, 20, 20, 20, 6), -1, 10},
		{shelfL(), want(20, 20, 20, 20, 7), -1, 20},
		{shelfL(), want(0, 0, 0, 0, 1), 0, 0},
		{shelfL(), want(0, 0, 1, 1, 1), -1, 1},
		{shelfL(), want(0, 0, 1, 3, 1), 4, 0},
		{ones, want(20, 20, 20, 20, 1), 40 * mostPrice, 0},
		{ones, want(20, 20, 20, 20, 2), -1, 20},
		{ones, want(0, 20, 19, 19, 2), -1, 19},
		{shelf(6, 6, 7, 4), want(20, 20, 20, 20, 4), -1, 2},
		{shelf(6, 6, 7, 4), want(18, 20, 18, 20, 4), 21, 0},
		{shelf(6, 6, 7, 4), want(1, 5, 1, 5, 4), -1, 1},
		{shelf(6, 6, 7, 4), want(3, 3, 3, 3, 4), -1, 3},
		// Wider on both sides, of both bands.
		{shelf(6, 1, 7, 4), want(9, 9, 2, 2, 4), -1, 3},
		{shelf(6, 1, 7, 4), want(9, 9, 7, 7, 4), -1, 5},
		{shelf(6, 1, 7, 4), want(10, 12, 6, 9, 4), -1, 4},
		// Not above what can be asked for: a fourth grain comes to 24 and 4.
		{shelf(6, 1, 7, 4), want(20, 20, 4, 4, 4), -1, 2},
		{shelf(6, 6, 7, 4), want(19, 20, 19, 20, 4), -1, 1},
		// For nothing, and equally good dyes.
		{shelf(1, 1, 0, 1), want(9, 9, 9, 9, 1), 0, 0},
		{shelf(1, 1, 0, 1, 1, 1, 0, 1), want(9, 9, 9, 9, 1), 0, 0},
		{shelf(1, 0, 0, 1, 0, 1, 0, 1, 1, 1, 0, 1), want(9, 9, 8, 8, 1), 0, 0},
		{shelf(1, 1, 5, 1, 1, 1, 4, 1, 1, 1, 6, 1), want(9, 9, 9, 9, 1), 36, 0},
		{shelf(1, 1, 5, 2, 1, 1, 4, 1, 1, 1, 6, 3), want(9, 9, 9, 9, 2), 45, 0},
		{shelf(3, 2, 7, 1, 2, 3, 9, 1), want(13, 13, 12, 12, 1), 7*3 + 9*2, 0},
	} {
		wantError := api.OK
		if x.cost < 0 {
			wantError = api.ErrPlan
		}
		recipe, n, e := cheapest(t, x.l, x.w)
		if e != wantError || e == api.OK && n != x.cost {
			t.Error(i, recipe, n, e)
		}
		if e == api.OK {
			seeRecipe(t, x.l, x.w, recipe, n)
		}
		if by, e := wider(t, x.l, x.w); by != x.by || e != api.OK {
			t.Error(i, by, e)
		}
	}
}

// seeRecipe sees to it that a recipe fits and costs so much.
func seeRecipe(t *testing.T, l []api.DyeKind, w api.DyeWant, recipe []int64, n int64) {
	t.Helper()
	if _, cost := mixed(l, recipe); !isRecipe(l, recipe) || !fits(l, w, recipe) || cost != n {
		t.Error(l, w, recipe, n)
	}
	if cost, e := check(t, l, w, recipe); cost != n || e != api.OK {
		t.Error(l, w, recipe, n, cost, e)
	}
}

// P9.4
func TestBadFastness(t *testing.T) {
	for _, fast := range []int{math.MinInt, -1, 0, mostFast + 1, 1 << 32, math.MaxInt} {
		if _, e := table(t, shelfL(), fast); e != api.ErrArg {
			t.Error(fast, e)
		}
		if _, e := table(t, nil, fast); e != api.ErrMany {
			t.Error(fast, e)
		}
	}
	for fast := 1; fast <= mostFast; fast++ {
		if numbers, e := table(t, shelfL(), fast); len(numbers) != 4*side*side || e != api.OK {
			t.Error(fast, len(numbers), e)
		}
	}
}

// P9.4
func TestTable(t *testing.T) {
	for i, x := range []struct {
		fast int
		at   int
		want int64
	}{
		{1, at(0, 0, 0), 0},
		{1, at(0, 0, 1), mostNumber},
		{1, at(0, 1, 0), mostNumber},
		{1, at(0, 20, 20), mostNumber},
		{1, at(1, 0, 0), 0},
		{1, at(1, 2, 1), 5},
		{1, at(1, 1, 2), mostNumber},
		{1, at(1, 20, 10), 50},
		{1, at(1, 0, 3), mostNumber},
		{1, at(2, 0, 3), 4},
		{1, at(2, 2, 4), 9},
		{1, at(2, 4, 4), mostNumber},
		{1, at(2, 4, 5), 14},
		{1, at(3, 4, 4), 15},
		{1, at(3, 4, 3), 16},
		{1, at(3, 5, 3), 19},
		{1, at(3, 5, 4), 18},
		{1, at(3, 2, 0), 6},
		{1, at(3, 0, 20), mostNumber},
		{1, at(3, 20, 20), 68},
		{4, at(2, 0, 3), mostNumber},
		{4, at(2, 4, 2), 10},
		{4, at(3, 0, 3), mostNumber},
		{4, at(3, 5, 2), 13},
		{7, at(1, 2, 1), mostNumber},
		{7, at(3, 5, 0), 15},
		{7, at(3, 5, 1), mostNumber},
		{7, at(3, 0, 0), 0},
	} {
		numbers, e := table(t, shelfL(), x.fast)
		if e != api.OK || numbers[x.at] != x.want {
			t.Error(i, numbers[x.at], e)
		}
	}
}

// P9.4: tables of the wrong length, or with numbers out of their range.
func TestBadTables(t *testing.T) {
	right, _ := table(t, shelfL(), 3)
	for _, n := range []int{0, 1, 3 * side * side, 4*side*side - 1, 4*side*side + 1, 5 * side * side, 1 << 16} {
		for _, number := range []int64{0, 1, -1, mostNumber + 1} {
			if n, e := checkTable(t, shelfL(), wantW(), slices.Repeat(list(number), n)); e != api.ErrEqual {
				t.Error(n, number, e)
			}
		}
	}
	for _, number := range []int64{-1, math.MinInt64, mostNumber + 1, math.MaxInt64} {
		for i := range right {
			// Where it is not right either, that it is out of its range comes first.
			for _, numbers := range [][]int64{slices.Clone(right), slices.Repeat(list(1), len(right))} {
				numbers[i] = number
				if n, e := checkTable(t, shelfL(), wantW(), numbers); e != api.ErrRange {
					t.Error(i, number, n, e)
				}
			}
		}
	}
}

// P9.4: what has to be so that a table is right.
func TestCheckTable(t *testing.T) {
	none := int64(mostNumber)
	for i, x := range []struct {
		name   string
		fast   int
		change map[int]int64
		e      api.Errno
	}{
		{"the table of costs", 3, nil, api.OK},
		{"the start is not 0", 3, map[int]int64{at(0, 0, 0): 1}, api.ErrSum},
		{"no dyes, below what cannot be", 3, map[int]int64{at(0, 0, 1): none - 1}, api.ErrSum},
		{"no dyes, below the next dyes", 3, map[int]int64{at(0, 2, 1): 4}, api.ErrSum},
		{"no dyes, as the next dyes", 3, map[int]int64{at(0, 2, 1): 5}, api.OK},
		{"no dyes, below the next dyes, though above all of them", 3, map[int]int64{at(0, 20, 20): 69}, api.ErrSum},
		{"no dyes, at the last bands", 3, map[int]int64{at(0, 20, 10): 50}, api.OK},
		{"above that for less dyes", 3, map[int]int64{at(1, 0, 0): 1}, api.ErrSum},
		{"above it, at the last dye", 3, map[int]int64{at(3, 0, 3): 5}, api.ErrSum},
		{"above it, at the last bands", 3, map[int]int64{at(2, 20, 20): none - 1, at(3, 20, 20): none}, api.ErrSum},
		{"above a grain more", 3, map[int]int64{at(3, 4, 4): 16}, api.ErrSum},
		{"below it, so that the next one is above", 3, map[int]int64{at(3, 4, 4): 14}, api.ErrSum},
		{"below it, where none is next", 3, map[int]int64{at(3, 20, 20): 67}, api.OK},
		{"0 where none is next", 3, map[int]int64{at(3, 20, 20): 0}, api.OK},
		{"above it, where none is next", 3, map[int]int64{at(3, 20, 20): 69}, api.ErrSum},
		{"the last one of the first band", 3, map[int]int64{at(3, 20, 18): 0}, api.OK},
		{"a grain more of the second band", 3, map[int]int64{at(2, 20, 17): 0}, api.ErrSum},
		{"a dye that is not fast enough", 4, map[int]int64{at(2, 0, 3): none - 1}, api.ErrSum},
	} {
		numbers, _ := table(t, shelfL(), x.fast)
		for at, n := range x.change {
			numbers[at] = n
		}
		w := want(4, 5, 3, 4, x.fast)
		if isRight(shelfL(), x.fast, numbers) != (x.e == api.OK) {
			t.Error(i, x.name)
		}
		if n, e := checkTable(t, shelfL(), w, numbers); e != x.e {
			t.Error(i, x.name, n, e)
		}
	}
}

// P9.4: the bound is that of the want.
func TestBound(t *testing.T) {
	l := shelfL()
	costs, _ := table(t, l, 3)
	nothing := make([]int64, len(costs))
	capped := slices.Clone(costs)
	for i := range capped {
		capped[i] = min(capped[i], 12)
	}
	fast, _ := table(t, l, 8)
	for i, x := range []struct {
		numbers []int64
		w       api.DyeWant
		bound   int64
		e       api.Errno
	}{
		{costs, wantW(), 15, api.OK},
		{costs, want(4, 4, 3, 3, 3), 16, api.OK},
		{costs, want(5, 5, 3, 4, 3), 18, api.OK},
		{costs, want(4, 5, 4, 4, 3), 15, api.OK},
		{costs, everything(3), 0, api.OK},
		{costs, want(0, 0, 1, 2, 3), mostNumber, api.OK},
		{costs, want(0, 0, 1, 3, 3), 4, api.OK},
		{costs, want(20, 20, 20, 20, 3), 68, api.OK},
		// Right for the dye 1, which is not used then, too.
		{costs, wantV(), 15, api.OK},
		{costs, want(4, 5, 3, 4, 2), 15, api.OK},
		{nothing, wantW(), 0, api.OK},
		{nothing, want(0, 0, 1, 2, 3), 0, api.OK},
		{capped, wantW(), 12, api.OK},
		{capped, want(0, 0, 1, 2, 3), 12, api.OK},
		{capped, want(1, 1, 0, 0, 3), 3, api.OK},
		// No dye but the last one was used for it.
		{fast, wantW(), 0, api.ErrSum},
		{fast, wantV(), 0, api.ErrSum},
		{fast, want(4, 5, 3, 4, 7), mostNumber, api.OK},
		{fast, want(4, 5, 0, 4, 8), 12, api.OK},
	} {
		if n, e := checkTable(t, l, x.w, x.numbers); n != x.bound || e != x.e {
			t.Error(i, n, e)
		}
	}
}

// P9.6
func TestGrades(t *testing.T) {
	for i, x := range []struct {
		l    []api.DyeKind
		w    api.DyeWant
		want []int64
	}{
		{shelfL(), wantW(), list(15, 15, 15, -1, -1, -1, -1, -1)},
		// Which fastness the want asks for does not matter.
		{shelfL(), wantV(), list(15, 15, 15, -1, -1, -1, -1, -1)},
		{shelfL(), want(4, 5, 3, 4, 1), list(15, 15, 15, -1, -1, -1, -1, -1)},
		{shelfL(), want(4, 5, 3, 4, 8), list(15, 15, 15, -1, -1, -1, -1, -1)},
		{shelfL(), want(4, 5, 2, 2, 3), list(10, 10, 10, 10, 10, 10, -1, -1)},
		{shelfL(), want(4, 5, 0, 4, 3), list(10, 10, 10, 10, 10, 10, 12, 12)},
		{shelfL(), everything(8), make([]int64, 8)},
		{shelf(1, 1, 5, 8), want(3, 3, 3, 3, 1), slices.Repeat(list(15), 8)},
		{shelf(1, 1, 5, 8), want(3, 3, 2, 2, 1), slices.Repeat(list(-1), 8)},
		{shelf(1, 1, 5, 1), want(3, 3, 3, 3, 1), list(15, -1, -1, -1, -1, -1, -1, -1)},
		{shelf(1, 1, 8, 8, 1, 1, 7, 7, 1, 1, 6, 6, 1, 1, 5, 5, 1, 1, 4, 4, 1, 1, 3, 3, 1, 1, 2, 2, 1, 1, 1, 1), want(1, 2, 0, 20, 4), list(1, 2, 3, 4, 5, 6, 7, 8)},
	} {
		if n, e := grades(t, x.l, x.w); !slices.Equal(n, x.want) || e != api.OK {
			t.Error(i, n, e)
		}
	}
}
