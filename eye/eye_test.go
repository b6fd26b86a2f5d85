package eye_test

import (
	"math"
	"slices"
	"testing"

	"lampblack/api"
	"lampblack/eye"
)

const (
	mostPlates    = 6
	mostAnswers   = 4
	mostParts     = 20
	mostThreshold = 1_000_000_000
	mostRuns      = 12
	mostTenths    = 10
	mostOdds      = 1_000_000
)

// list returns its numbers, as does set.
func list(numbers ...int64) []int64 { return numbers }
func set(numbers ...int) []int      { return numbers }

func plate(guess, eye []int64) api.EyePlate { return api.EyePlate{Guess: guess, Eye: eye} }
func odds(guess, eye int64) api.EyeOdds     { return api.EyeOdds{Guess: guess, Eye: eye} }
func ratio(num, den int64) api.Ratio        { return api.Ratio{Num: num, Den: den} }
func manyPlates(n int, plates ...api.EyePlate) []api.EyePlate {
	return slices.Repeat(plates, n)
}

// total returns the sum of numbers.
func total(numbers []int64) int64 {
	all := int64(0)
	for _, n := range numbers {
		all += n
	}
	return all
}

// plateA returns the plate of the chapter's examples, and testT the test.
func plateA() api.EyePlate  { return plate(list(1, 1, 1), list(0, 1, 2)) }
func testT() []api.EyePlate { return []api.EyePlate{plateA(), plateA()} }

// The functions below call those of the package, and see to it that with an
// error every other result is its zero value (R2).

func whole(t *testing.T, p []api.EyePlate) (int64, api.Errno) {
	t.Helper()
	n, e := eye.Whole(p)
	if e != api.OK && n != 0 {
		t.Error(p, n, e)
	}
	return n, e
}

func oddsFor(t *testing.T, p []api.EyePlate, answers []int) (api.EyeOdds, api.Errno) {
	t.Helper()
	o, e := eye.Odds(p, answers)
	if e != api.OK && o != (api.EyeOdds{}) {
		t.Error(p, answers, o, e)
	}
	return o, e
}

func sum(t *testing.T, p []api.EyePlate, set []int) (api.EyeOdds, api.Errno) {
	t.Helper()
	o, e := eye.Sum(p, set)
	if e != api.OK && o != (api.EyeOdds{}) {
		t.Error(p, set, o, e)
	}
	return o, e
}

func region(t *testing.T, p []api.EyePlate, at api.Ratio) ([]int, api.Errno) {
	t.Helper()
	found, e := eye.Region(p, at)
	if e != api.OK && len(found) != 0 {
		t.Error(p, at, found, e)
	}
	return found, e
}

func best(t *testing.T, p []api.EyePlate, most int64) ([]int, api.Ratio, api.Errno) {
	t.Helper()
	found, at, e := eye.Best(p, most)
	if e != api.OK && (len(found) != 0 || at != (api.Ratio{})) {
		t.Error(p, most, found, at, e)
	}
	return found, at, e
}

func checkBest(t *testing.T, p []api.EyePlate, set []int, at api.Ratio) api.Errno {
	t.Helper()
	return eye.CheckBest(p, set, at)
}

func tail(t *testing.T, x api.EyePlan, chance api.Ratio) (api.Ratio, api.Errno) {
	t.Helper()
	r, e := eye.Tail(x, chance)
	if e != api.OK && r != (api.Ratio{}) {
		t.Error(x, chance, r, e)
	}
	return r, e
}

func plan(t *testing.T, guess, sees, most, miss api.Ratio) (api.EyePlan, api.Errno) {
	t.Helper()
	x, e := eye.Plan(guess, sees, most, miss)
	if e != api.OK && x != (api.EyePlan{}) {
		t.Error(guess, sees, most, miss, x, e)
	}
	return x, e
}

// errorsOf returns the errors of all functions with a test: CheckTest, Whole and
// Odds, those with a set, those with a threshold only, and Best.
func errorsOf(t *testing.T, p []api.EyePlate, answers, set []int, at api.Ratio, most int64) [7]api.Errno {
	t.Helper()
	var e [7]api.Errno
	e[0] = eye.CheckTest(p)
	_, e[1] = whole(t, p)
	_, e[2] = oddsFor(t, p, answers)
	_, e[3] = sum(t, p, set)
	e[4] = checkBest(t, p, set, at)
	_, e[5] = region(t, p, at)
	_, _, e[6] = best(t, p, most)
	return e
}

// each returns an error for each function.
func each(e api.Errno) [7]api.Errno { return [7]api.Errno{e, e, e, e, e, e, e} }

// badTests returns tests that are not valid, with their errors.
func badTests() []struct {
	p []api.EyePlate
	e api.Errno
} {
	a := plateA()
	one := plate(list(1), list(1))
	five := plate(list(1, 1, 1, 1, 1), list(1, 1, 1, 1, 1))
	uneven := plate(list(1, 1), list(1, 1, 0))
	wrong := plate(list(-1, 2), list(1, 0))
	return []struct {
		p []api.EyePlate
		e api.Errno
	}{
		{nil, api.ErrMany},
		{[]api.EyePlate{}, api.ErrMany},
		{manyPlates(mostPlates+1, a), api.ErrMany},
		{manyPlates(1<<16, a), api.ErrMany},
		{manyPlates(1<<16, wrong), api.ErrMany},
		{[]api.EyePlate{{}}, api.ErrMany},
		{[]api.EyePlate{one}, api.ErrMany},
		{[]api.EyePlate{five}, api.ErrMany},
		{[]api.EyePlate{a, one}, api.ErrMany},
		{[]api.EyePlate{a, a, a, a, a, five}, api.ErrMany},
		{[]api.EyePlate{plate(nil, list(1, 1))}, api.ErrMany},
		{[]api.EyePlate{plate(make([]int64, 1<<16), nil)}, api.ErrMany},
		// How many numbers there are as Guess is looked at first, for all plates.
		{[]api.EyePlate{uneven, wrong, one}, api.ErrMany},
		{[]api.EyePlate{wrong, uneven, five}, api.ErrMany},

		{[]api.EyePlate{uneven}, api.ErrEqual},
		{[]api.EyePlate{plate(list(1, 1), nil)}, api.ErrEqual},
		{[]api.EyePlate{plate(list(1, 1), list(2))}, api.ErrEqual},
		{[]api.EyePlate{plate(list(1, 1, 0), list(1, 1))}, api.ErrEqual},
		{[]api.EyePlate{plate(list(1, 1, 1, 1), list(1, 1, 1, 1, 0))}, api.ErrEqual},
		{[]api.EyePlate{a, a, uneven}, api.ErrEqual},
		{[]api.EyePlate{plate(list(1, 1), make([]int64, 1<<16))}, api.ErrEqual},
		// As many as Eye is looked at before what they are, for all plates.
		{[]api.EyePlate{wrong, uneven}, api.ErrEqual},
		{[]api.EyePlate{plate(list(-1, 21), list(1))}, api.ErrEqual},

		{[]api.EyePlate{wrong}, api.ErrArg},
		{[]api.EyePlate{plate(list(1, 0), list(2, -1))}, api.ErrArg},
		{[]api.EyePlate{plate(list(2, -1), list(2, -1))}, api.ErrArg},
		{[]api.EyePlate{plate(list(0, -1), list(0, -1))}, api.ErrArg},
		{[]api.EyePlate{plate(list(0, 0), list(0, 0))}, api.ErrArg},
		{[]api.EyePlate{plate(list(1, 1), list(1, 0))}, api.ErrArg},
		{[]api.EyePlate{plate(list(1, 0), list(1, 1))}, api.ErrArg},
		{[]api.EyePlate{plate(list(1, 0), list(0, 0))}, api.ErrArg},
		{[]api.EyePlate{plate(list(0, 0), list(0, 1))}, api.ErrArg},
		{[]api.EyePlate{plate(list(mostParts, 1), list(1, mostParts))}, api.ErrArg},
		{[]api.EyePlate{plate(list(mostParts+1, 0), list(0, mostParts+1))}, api.ErrArg},
		{[]api.EyePlate{plate(list(mostParts+1, -1), list(0, mostParts))}, api.ErrArg},
		{[]api.EyePlate{plate(list(mostParts, 0), list(-1, mostParts+1))}, api.ErrArg},
		{[]api.EyePlate{plate(list(6, 6, 6, 3), list(3, 6, 6, 6))}, api.ErrArg},
		{[]api.EyePlate{plate(list(math.MaxInt64, math.MaxInt64, 3), list(1, 0, 0))}, api.ErrArg},
		{[]api.EyePlate{plate(list(1, 0, 0), list(math.MaxInt64, math.MaxInt64, 3))}, api.ErrArg},
		{[]api.EyePlate{plate(list(math.MinInt64, math.MinInt64, 1), list(1, 0, 0))}, api.ErrArg},
		{[]api.EyePlate{a, a, a, a, a, wrong}, api.ErrArg},
	}
}

// P10.1: what is not a test. All functions return its error before all others.
func TestBadTests(t *testing.T) {
	for i, x := range badTests() {
		for _, numbers := range [][]int{nil, set(0), set(0, 0), set(-1), make([]int, len(x.p)), make([]int, 1<<16)} {
			for _, at := range []api.Ratio{ratio(1, 1), ratio(0, 0), ratio(2, 2)} {
				for _, most := range []int64{-1, 0, 1} {
					if e := errorsOf(t, x.p, numbers, numbers, at, most); e != each(x.e) {
						t.Error(i, len(numbers), at, most, e)
					}
				}
			}
		}
	}
}

// P10.1, P10.2
func TestCheckTestAndWhole(t *testing.T) {
	for i, x := range []struct {
		p []api.EyePlate
		n int64
	}{
		{testT(), 9},
		{[]api.EyePlate{plateA()}, 3},
		{[]api.EyePlate{plate(list(1, 0), list(0, 1))}, 1},
		{[]api.EyePlate{plate(list(1, 0), list(1, 0))}, 1},
		{[]api.EyePlate{plate(list(0, 0, 0, 1), list(0, 0, 1, 0))}, 1},
		{[]api.EyePlate{plate(list(mostParts, 0), list(0, mostParts))}, 20},
		{[]api.EyePlate{plate(list(5, 5, 5, 5), list(0, 0, 19, 1))}, 20},
		{[]api.EyePlate{plate(list(1, 2), list(2, 1)), plate(list(3, 1, 1), list(0, 5, 0)), plate(list(7, 0, 0, 0), list(1, 2, 1, 3))}, 105},
		{manyPlates(mostPlates, plateA()), 729},
		{manyPlates(mostPlates, plate(list(mostParts, 0, 0, 0), list(5, 5, 5, 5))), 64_000_000},
	} {
		if e := eye.CheckTest(x.p); e != api.OK {
			t.Error(i, e)
		}
		if n, e := whole(t, x.p); n != x.n || e != api.OK {
			t.Error(i, n, e)
		}
	}
}

// P10.3
func TestOdds(t *testing.T) {
	mixed := []api.EyePlate{plate(list(1, 2), list(3, 0)), plate(list(4, 5, 6, 0), list(7, 2, 1, 5))}
	great := manyPlates(mostPlates, plate(list(mostParts, 0), list(1, 19)))
	for i, x := range []struct {
		p       []api.EyePlate
		answers []int
		want    api.EyeOdds
		e       api.Errno
	}{
		{testT(), set(1, 2), odds(1, 2), api.OK},
		{testT(), set(0, 2), odds(1, 0), api.OK},
		{testT(), set(2, 2), odds(1, 4), api.OK},
		{testT(), set(0, 0), odds(1, 0), api.OK},
		{mixed, set(0, 0), odds(4, 21), api.OK},
		{mixed, set(0, 3), odds(0, 15), api.OK},
		{mixed, set(1, 2), odds(12, 0), api.OK},
		{mixed, set(1, 3), odds(0, 0), api.OK},
		{great, set(0, 0, 0, 0, 0, 0), odds(64_000_000, 1), api.OK},
		{great, set(1, 1, 1, 1, 1, 1), odds(0, 47_045_881), api.OK},
		{great, set(0, 0, 0, 0, 0, 1), odds(0, 19), api.OK},

		{testT(), nil, odds(0, 0), api.ErrEqual},
		{testT(), set(1), odds(0, 0), api.ErrEqual},
		{testT(), set(1, 2, 0), odds(0, 0), api.ErrEqual},
		{testT(), make([]int, 1<<16), odds(0, 0), api.ErrEqual},
		// How many answers there are comes before what they are.
		{testT(), set(-1), odds(0, 0), api.ErrEqual},
		{testT(), set(1, 2, 3), odds(0, 0), api.ErrEqual},
		{testT(), set(1, 3), odds(0, 0), api.ErrRange},
		{testT(), set(3, 1), odds(0, 0), api.ErrRange},
		{testT(), set(-1, 1), odds(0, 0), api.ErrRange},
		{testT(), set(1, -1), odds(0, 0), api.ErrRange},
		{testT(), set(math.MinInt, math.MaxInt), odds(0, 0), api.ErrRange},
		// Each plate has its own answers.
		{mixed, set(2, 0), odds(0, 0), api.ErrRange},
		{mixed, set(1, 4), odds(0, 0), api.ErrRange},
	} {
		if o, e := oddsFor(t, x.p, x.answers); o != x.want || e != x.e {
			t.Error(i, o, e)
		}
	}
}

// P10.4
func TestSum(t *testing.T) {
	mixed := []api.EyePlate{plate(list(1, 2), list(3, 0)), plate(list(4, 5, 6, 0), list(7, 2, 1, 5))}
	for i, x := range []struct {
		p    []api.EyePlate
		set  []int
		want api.EyeOdds
	}{
		{testT(), nil, odds(0, 0)},
		{testT(), set(8), odds(1, 4)},
		{testT(), set(5, 7, 8), odds(3, 8)},
		{testT(), set(4, 5, 7, 8), odds(4, 9)},
		{testT(), set(0, 1, 2, 3, 6), odds(5, 0)},
		{testT(), set(0, 1, 2, 3, 4, 5, 6, 7, 8), odds(9, 9)},
		{mixed, set(0, 3, 4), odds(12, 36)},
		{mixed, set(3, 7), odds(0, 15)},
		{mixed, set(0, 1, 2, 3, 4, 5, 6, 7), odds(45, 45)},
	} {
		if o, e := sum(t, x.p, x.set); o != x.want || e != api.OK {
			t.Error(i, o, e)
		}
	}
}

// P10.4, P10.7: what is not a set. Its error comes before that of a threshold.
func TestBadSets(t *testing.T) {
	all := set(0, 1, 2, 3, 4, 5, 6, 7, 8)
	for i, x := range []struct {
		set []int
		e   api.Errno
	}{
		{append(slices.Clone(all), 9), api.ErrMany},
		{append(slices.Clone(all), 8), api.ErrMany},
		{make([]int, 1<<16), api.ErrMany},
		// How many there are comes before what they are.
		{set(-1, 0, 0, 0, 0, 0, 0, 0, 0, 0), api.ErrMany},
		{set(9), api.ErrRange},
		{set(-1), api.ErrRange},
		{set(0, 1, 9), api.ErrRange},
		{set(-1, 0, 1), api.ErrRange},
		{set(math.MinInt), api.ErrRange},
		{set(math.MaxInt), api.ErrRange},
		// Which numbers there are comes before their order, for all of them.
		{set(3, 3, 9), api.ErrRange},
		{set(4, 3, -1), api.ErrRange},
		{set(3, 3), api.ErrRule},
		{set(4, 3), api.ErrRule},
		{set(0, 1, 2, 8, 7), api.ErrRule},
		{set(0, 0, 1, 2, 3, 4, 5, 6, 7), api.ErrRule},
		{set(0, 0, 0, 0, 0, 0, 0, 0, 0), api.ErrRule},
	} {
		if o, e := sum(t, testT(), x.set); e != x.e {
			t.Error(i, o, e)
		}
		for _, at := range []api.Ratio{ratio(1, 1), ratio(0, 1), ratio(2, 2), ratio(-1, 0)} {
			if e := checkBest(t, testT(), x.set, at); e != x.e {
				t.Error(i, at, e)
			}
		}
	}
}

// P10.5, P10.7: what is not a threshold.
func TestBadThresholds(t *testing.T) {
	for _, at := range []api.Ratio{
		{},
		ratio(1, 0),
		ratio(0, 2),
		ratio(2, 2),
		ratio(2, 4),
		ratio(9, 6),
		ratio(0, mostThreshold),
		ratio(mostThreshold, mostThreshold),
		ratio(-1, 1),
		ratio(1, -1),
		ratio(-1, -1),
		ratio(0, -1),
		ratio(mostThreshold+1, 1),
		ratio(1, mostThreshold+1),
		ratio(mostThreshold+1, mostThreshold),
		ratio(math.MaxInt64, 1),
		ratio(1, math.MaxInt64),
		ratio(math.MinInt64, 1),
		ratio(1, math.MinInt64),
		ratio(math.MinInt64, math.MinInt64),
	} {
		if found, e := region(t, testT(), at); e != api.ErrArg {
			t.Error(at, found, e)
		}
		// Neither set is proved by any threshold.
		for _, numbers := range [][]int{set(0), set(8), set(0, 8)} {
			if e := checkBest(t, testT(), numbers, at); e != api.ErrArg {
				t.Error(at, numbers, e)
			}
		}
	}
}

// neverBoth returns a test with an outcome that only an eye comes to, one that
// only a guesser comes to, and one that neither of them does.
func neverBoth() []api.EyePlate {
	return []api.EyePlate{plate(list(2, 2, 0, 0), list(0, 1, 3, 0))}
}

// P10.5
func TestRegion(t *testing.T) {
	for i, x := range []struct {
		p    []api.EyePlate
		at   api.Ratio
		want []int
	}{
		{testT(), ratio(1, 1), set(5, 7, 8)},
		{testT(), ratio(0, 1), set(4, 5, 7, 8)},
		{testT(), ratio(1, 2), set(4, 5, 7, 8)},
		{testT(), ratio(2, 1), set(8)},
		{testT(), ratio(3, 1), set(8)},
		{testT(), ratio(4, 1), nil},
		{testT(), ratio(999_999_999, mostThreshold), set(4, 5, 7, 8)},
		{testT(), ratio(mostThreshold, 999_999_999), set(5, 7, 8)},
		{testT(), ratio(1, mostThreshold), set(4, 5, 7, 8)},
		{testT(), ratio(mostThreshold, 1), nil},
		{neverBoth(), ratio(0, 1), set(1, 2)},
		{neverBoth(), ratio(1, 3), set(1, 2)},
		{neverBoth(), ratio(1, 2), set(2)},
		{neverBoth(), ratio(mostThreshold, 1), set(2)},
		{[]api.EyePlate{plate(list(1, 0), list(1, 0))}, ratio(0, 1), set(0)},
		{[]api.EyePlate{plate(list(1, 0), list(1, 0))}, ratio(1, 1), nil},
		{[]api.EyePlate{plate(list(1, 0), list(0, 1))}, ratio(mostThreshold, 1), set(1)},
	} {
		if found, e := region(t, x.p, x.at); !slices.Equal(found, x.want) || e != api.OK {
			t.Error(i, found, e)
		}
	}
}

// P10.6
func TestBest(t *testing.T) {
	great := manyPlates(mostPlates, plate(list(mostParts-1, 1), list(0, mostParts)))
	for i, x := range []struct {
		p    []api.EyePlate
		most int64
		want []int
		at   api.Ratio
	}{
		{testT(), 0, nil, ratio(4, 1)},
		{testT(), 1, set(8), ratio(2, 1)},
		{testT(), 2, set(8), ratio(2, 1)},
		{testT(), 3, set(5, 7, 8), ratio(1, 1)},
		{testT(), 4, set(4, 5, 7, 8), ratio(0, 1)},
		{testT(), 9, set(4, 5, 7, 8), ratio(0, 1)},
		{testT(), math.MaxInt64, set(4, 5, 7, 8), ratio(0, 1)},
		{neverBoth(), 0, set(2), ratio(1, 2)},
		{neverBoth(), 1, set(2), ratio(1, 2)},
		{neverBoth(), 2, set(1, 2), ratio(0, 1)},
		{[]api.EyePlate{plate(list(1, 0), list(0, 1))}, 0, set(1), ratio(0, 1)},
		{[]api.EyePlate{plate(list(1, 0), list(1, 0))}, 0, nil, ratio(1, 1)},
		{[]api.EyePlate{plate(list(1, 0), list(1, 0))}, 1, set(0), ratio(0, 1)},
		// A threshold in least terms, and outcomes that speak as much for an eye.
		{[]api.EyePlate{plate(list(4, 2, 6), list(6, 3, 3))}, 5, nil, ratio(3, 2)},
		{[]api.EyePlate{plate(list(4, 2, 6), list(6, 3, 3))}, 6, set(0, 1), ratio(1, 2)},
		{[]api.EyePlate{plate(list(4, 2, 6), list(6, 3, 3))}, 12, set(0, 1, 2), ratio(0, 1)},
		{great, 0, nil, ratio(64_000_000, 1)},
		{great, 1, set(63), ratio(0, 1)},
	} {
		if found, at, e := best(t, x.p, x.most); !slices.Equal(found, x.want) || at != x.at || e != api.OK {
			t.Error(i, found, at, e)
		}
	}
	for _, most := range []int64{-1, -9, math.MinInt64} {
		if found, at, e := best(t, testT(), most); e != api.ErrRange {
			t.Error(most, found, at, e)
		}
	}
}

// P10.7
func TestCheckBest(t *testing.T) {
	for i, x := range []struct {
		p   []api.EyePlate
		set []int
		at  api.Ratio
		e   api.Errno
	}{
		{testT(), set(5, 8), ratio(2, 1), api.OK},
		{testT(), set(5, 7), ratio(2, 1), api.ErrSum},
		{testT(), set(8), ratio(2, 1), api.OK},
		{testT(), set(5, 7, 8), ratio(2, 1), api.OK},
		{testT(), set(4, 5, 7, 8), ratio(2, 1), api.ErrSum},
		{testT(), set(5, 8), ratio(3, 2), api.ErrSum},
		{testT(), set(5, 7, 8), ratio(3, 2), api.OK},
		{testT(), nil, ratio(4, 1), api.OK},
		{testT(), set(8), ratio(4, 1), api.OK},
		{testT(), nil, ratio(3, 1), api.ErrSum},
		{testT(), set(8), ratio(5, 1), api.ErrSum},
		{testT(), nil, ratio(mostThreshold, 1), api.OK},
		{testT(), set(4, 5, 7, 8), ratio(0, 1), api.OK},
		// Nothing is below 0.
		{testT(), set(0, 1, 2, 3, 4, 5, 6, 7, 8), ratio(0, 1), api.OK},
		{testT(), set(0, 4, 5, 7, 8), ratio(0, 1), api.OK},
		{testT(), set(0, 4, 5, 7, 8), ratio(1, mostThreshold), api.ErrSum},
		{testT(), set(0, 1, 2, 3, 5, 6, 7, 8), ratio(0, 1), api.ErrSum},
		// What nobody comes to is never above, and never below.
		{neverBoth(), set(2), ratio(mostThreshold, 1), api.OK},
		{neverBoth(), set(2, 3), ratio(mostThreshold, 1), api.OK},
		{neverBoth(), set(3), ratio(mostThreshold, 1), api.ErrSum},
		{neverBoth(), nil, ratio(mostThreshold, 1), api.ErrSum},
		{neverBoth(), set(1, 2, 3), ratio(1, 2), api.OK},
		{neverBoth(), set(0, 2, 3), ratio(1, 2), api.ErrSum},
		{neverBoth(), set(0, 1, 2), ratio(0, 1), api.OK},
	} {
		if e := checkBest(t, x.p, x.set, x.at); e != x.e {
			t.Error(i, e)
		}
	}
}

// badChances returns ratios that are not chances, but most of which are printed
// odds.
func badChances() []api.Ratio {
	return append(badPrinted(), ratio(1, mostTenths+1), ratio(mostTenths, mostTenths+1), ratio(1, 100), ratio(1, mostOdds))
}

// badPrinted returns ratios that are not printed odds, nor chances.
func badPrinted() []api.Ratio {
	return []api.Ratio{
		{},
		ratio(1, 0),
		ratio(0, 2),
		ratio(2, 2),
		ratio(2, 4),
		ratio(28, 1000),
		ratio(2, 1),
		ratio(10, 9),
		ratio(-1, 2),
		ratio(1, -2),
		ratio(-1, -2),
		ratio(0, -1),
		ratio(1, mostOdds+1),
		ratio(mostOdds, mostOdds+1),
		ratio(math.MaxInt64, math.MaxInt64),
		ratio(math.MaxInt64-1, math.MaxInt64),
		ratio(math.MinInt64, math.MinInt64),
		ratio(math.MinInt64, 1),
		ratio(1, math.MinInt64),
	}
}

// P10.8
func TestTail(t *testing.T) {
	for i, x := range []struct {
		plates, right int
		chance, want  api.Ratio
	}{
		{3, 2, ratio(1, 3), ratio(7, 27)},
		{3, 3, ratio(1, 2), ratio(1, 8)},
		{3, 3, ratio(9, 10), ratio(729, 1000)},
		{3, 1, ratio(1, 3), ratio(19, 27)},
		{3, 0, ratio(1, 3), ratio(1, 1)},
		{1, 1, ratio(3, 10), ratio(3, 10)},
		{1, 0, ratio(3, 10), ratio(1, 1)},
		{12, 12, ratio(1, 10), ratio(1, 1_000_000_000_000)},
		{12, 1, ratio(9, 10), ratio(999_999_999_999, 1_000_000_000_000)},
		{12, 12, ratio(1, 2), ratio(1, 4096)},
		{12, 11, ratio(1, 2), ratio(13, 4096)},
		{4, 2, ratio(1, 2), ratio(11, 16)},
		{5, 3, ratio(1, 2), ratio(1, 2)},
		{12, 0, ratio(0, 1), ratio(1, 1)},
		{12, 1, ratio(0, 1), ratio(0, 1)},
		{12, 12, ratio(0, 1), ratio(0, 1)},
		{12, 12, ratio(1, 1), ratio(1, 1)},
		{1, 1, ratio(1, 1), ratio(1, 1)},
	} {
		if r, e := tail(t, api.EyePlan{Plates: x.plates, Right: x.right}, x.chance); r != x.want || e != api.OK {
			t.Error(i, r, e)
		}
	}
	for _, x := range []api.EyePlan{
		{}, {Plates: 0, Right: 1}, {Plates: -1, Right: -1}, {Plates: 3, Right: -1}, {Plates: 3, Right: 4}, {Plates: mostRuns + 1, Right: 1},
		{Plates: mostRuns, Right: mostRuns + 1}, {Plates: math.MinInt, Right: 0}, {Plates: math.MaxInt, Right: 0}, {Plates: 3, Right: math.MinInt}, {Plates: 3, Right: math.MaxInt},
	} {
		if r, e := tail(t, x, ratio(1, 3)); e != api.ErrArg {
			t.Error(x, r, e)
		}
	}
	for _, chance := range badChances() {
		if r, e := tail(t, api.EyePlan{Plates: 3, Right: 2}, chance); e != api.ErrArg {
			t.Error(chance, r, e)
		}
	}
}

// P10.9
func TestPlan(t *testing.T) {
	zero, one, half := ratio(0, 1), ratio(1, 1), ratio(1, 2)
	for i, x := range []struct {
		guess, sees, most, miss api.Ratio
		plates, right           int
	}{
		{half, ratio(9, 10), ratio(1, 8), ratio(3, 10), 3, 3},
		{half, ratio(9, 10), ratio(1, 8), ratio(271, 1000), 3, 3},
		{half, ratio(9, 10), ratio(1, 8), ratio(27, 100), 6, 5},
		{half, one, ratio(1, 4096), zero, 12, 12},
		{half, one, ratio(1, 2048), zero, 11, 11},
		// What is printed is kept even if it is just the same.
		{half, one, ratio(1, 8), zero, 3, 3},
		{half, one, ratio(124_999, mostOdds), zero, 4, 4},
		{half, half, half, half, 1, 1},
		{zero, one, zero, zero, 1, 1},
		// Of several plans with as many plates the one with the least right.
		{half, half, one, zero, 1, 0},
		{one, zero, one, zero, 1, 0},
		{half, half, ratio(1, 2), one, 1, 1},
		{half, zero, ratio(1, 8), one, 3, 3},
		{half, one, ratio(3, 4), ratio(1, 4), 1, 1},
		{ratio(1, 10), ratio(9, 10), ratio(1, 10), ratio(1, 10), 1, 1},
		{ratio(1, 10), ratio(9, 10), ratio(7, 250), ratio(7, 250), 3, 2},
	} {
		found, e := plan(t, x.guess, x.sees, x.most, x.miss)
		if found != (api.EyePlan{Plates: x.plates, Right: x.right}) || e != api.OK {
			t.Error(i, found, e)
		}
	}
	for i, x := range [][4]api.Ratio{
		{half, half, ratio(1, 8), ratio(3, 10)},
		{half, one, ratio(1, 4097), zero},
		{half, one, zero, ratio(999_999, mostOdds)},
		{one, one, ratio(999_999, mostOdds), ratio(999_999, mostOdds)},
		{one, zero, ratio(999_999, mostOdds), ratio(1, 10)},
		{zero, zero, zero, ratio(999_999, mostOdds)},
	} {
		if found, e := plan(t, x[0], x[1], x[2], x[3]); e != api.ErrOdds {
			t.Error(i, found, e)
		}
	}
}

// P10.9: what is not a chance, or not printed odds.
func TestBadPlans(t *testing.T) {
	half, odd := ratio(1, 2), ratio(999_999, mostOdds)
	for _, bad := range badChances() {
		for _, x := range [][4]api.Ratio{{bad, half, half, half}, {half, bad, half, half}, {bad, bad, odd, odd}} {
			if found, e := plan(t, x[0], x[1], x[2], x[3]); e != api.ErrArg {
				t.Error(x, found, e)
			}
		}
	}
	for _, bad := range badPrinted() {
		for _, x := range [][4]api.Ratio{{half, half, bad, half}, {half, half, half, bad}, {half, half, bad, bad}, {bad, bad, bad, bad}} {
			if found, e := plan(t, x[0], x[1], x[2], x[3]); e != api.ErrArg {
				t.Error(x, found, e)
			}
		}
	}
	for _, x := range [][4]api.Ratio{{half, half, odd, odd}, {ratio(0, 1), ratio(1, 1), ratio(1, mostOdds), ratio(1, mostOdds)}} {
		if found, e := plan(t, x[0], x[1], x[2], x[3]); e != api.OK {
			t.Error(x, found, e)
		}
	}
}
