package dye_test

import (
	"math"
	"math/rand"
	"slices"
	"testing"

	"lampblack/api"
	"lampblack/dye"
)

// full returns a list with room behind it, in which something would be seen
// that is written there.
func full[T any](l []T, rest T) (part, room []T) {
	room = append(slices.Clone(l), rest, rest, rest)
	return room[:len(l)], room
}

// spoil writes to a list, and behind it.
func spoil[T any](l []T, rest T) {
	l = l[:cap(l)]
	for i := range l {
		l[i] = rest
	}
}

// callAll calls all functions.
func callAll(l []api.DyeKind, w api.DyeWant, recipe, numbers []int64) {
	dye.CheckShelf(l)
	dye.Mix(l, recipe)
	dye.Check(l, w, recipe)
	dye.Cheapest(l, w)
	dye.Table(l, w.Fast)
	dye.CheckTable(l, w, numbers)
	dye.Wider(l, w)
	dye.Grades(l, w)
}

// R5: no argument is changed, nor what lies behind it.
func TestArgumentsAreKept(t *testing.T) {
	chance := rand.New(rand.NewSource(31))
	for _, some := range someShelves(32, 200) {
		w := someWant(chance)
		l, room := full(some, shelf(77, 77, 77, 77)[0])
		recipe, roomOfRecipe := full(someRecipe(chance, l, 1), -77)
		numbers, roomOfNumbers := full(nearTable(chance, l, w.Fast), -77)
		was, wasRecipe, wasNumbers := slices.Clone(room), slices.Clone(roomOfRecipe), slices.Clone(roomOfNumbers)
		callAll(l, w, recipe, numbers)
		callAll(l, everything(1), recipe, numbers)
		if !slices.Equal(room, was) || !slices.Equal(roomOfRecipe, wasRecipe) || !slices.Equal(roomOfNumbers, wasNumbers) {
			t.Error(l, w, recipe)
		}
	}
}

// R4, R5: lists that are returned share no memory with an argument or with those
// of an equal call, and nothing of them is kept.
func TestResultsAreNew(t *testing.T) {
	chance := rand.New(rand.NewSource(33))
	for _, l := range someShelves(34, 200) {
		w := someWant(chance)
		recipe := someRecipe(chance, l, 1)
		was := slices.Clone(recipe)
		seeNew(t, func() []int64 { bands, _, _ := dye.Mix(l, recipe); return bands })
		seeNew(t, func() []int64 { found, _, _ := dye.Cheapest(l, w); return found })
		seeNew(t, func() []int64 { found, _, _ := dye.Cheapest(l, everything(1)); return found })
		seeNew(t, func() []int64 { numbers, _ := dye.Table(l, w.Fast); return numbers })
		seeNew(t, func() []int64 { numbers, _ := dye.Grades(l, w); return numbers })
		if !slices.Equal(recipe, was) {
			t.Error(l, recipe, was)
		}
	}
}

// seeNew sees to it that lists stay what they are if another one that was
// returned is spoiled.
func seeNew(t *testing.T, call func() []int64) {
	t.Helper()
	one, two := call(), call()
	was := slices.Clone(two)
	spoil(one, -77)
	if three := call(); !slices.Equal(two, was) || slices.Contains(three, -77) {
		t.Error(one, two, three)
	}
}

// result is what is said of all that functions return.
type result struct {
	bands, numbers, grades         []int64
	cost, fit, least, bound, wider int64
	e                              [8]api.Errno
}

func results(l []api.DyeKind, w api.DyeWant, recipe, numbers []int64) (x result) {
	x.e[0] = dye.CheckShelf(l)
	x.bands, x.cost, x.e[1] = dye.Mix(l, recipe)
	x.fit, x.e[2] = dye.Check(l, w, recipe)
	_, x.least, x.e[3] = dye.Cheapest(l, w)
	x.numbers, x.e[4] = dye.Table(l, w.Fast)
	x.bound, x.e[5] = dye.CheckTable(l, w, numbers)
	x.wider, x.e[6] = dye.Wider(l, w)
	x.grades, x.e[7] = dye.Grades(l, w)
	return x
}

func (x result) equals(y result) bool {
	return slices.Equal(x.bands, y.bands) && slices.Equal(x.numbers, y.numbers) && slices.Equal(x.grades, y.grades) &&
		list5(x) == list5(y) && x.e == y.e
}

func list5(x result) [5]int64 { return [5]int64{x.cost, x.fit, x.least, x.bound, x.wider} }

// R4, R10: equal calls return equal results, whatever is called in between.
func TestEqualCalls(t *testing.T) {
	chance := rand.New(rand.NewSource(35))
	var again []func() bool
	for _, l := range someShelves(36, 300) {
		w := someWant(chance)
		recipe, numbers := someRecipe(chance, l, 1), nearTable(chance, l, w.Fast)
		one := results(l, w, recipe, numbers)
		again = append(again, func() bool {
			return results(slices.Clone(l), w, slices.Clone(recipe), slices.Clone(numbers)).equals(one)
		})
	}
	slices.Reverse(again)
	for i, equal := range again {
		if !equal() {
			t.Error(i)
		}
	}
}

// R3: nil and empty lists are the same.
func TestNilAndEmpty(t *testing.T) {
	for _, empty := range [][]int64{nil, {}} {
		for _, l := range [][]api.DyeKind{nil, {}} {
			if e := errorsOf(t, l, wantW(), empty, empty); e != each(api.ErrMany) {
				t.Error(e)
			}
		}
		e := errorsOf(t, shelfL(), wantW(), empty, empty)
		if e != [8]api.Errno{1: api.ErrEqual, 3: api.ErrEqual, 5: api.ErrEqual} {
			t.Error(e)
		}
	}
}

// P1: all functions end, and do not panic, for all arguments.
func TestAnyNumber(t *testing.T) {
	numbers := []int64{math.MinInt64, math.MinInt64 + 1, -1 << 32, -1, 0, 1, 2, 6, 7, 8, 9, 20, 21, mostPrice, mostPrice + 1, mostNumber, mostNumber + 1, math.MaxInt64 - 1, math.MaxInt64}
	right, _ := dye.Table(shelfL(), 3)
	for _, a := range numbers {
		for _, b := range numbers {
			for _, c := range numbers {
				l := append(shelfL()[:2], shelf(a, b, c, 5)...)
				w := want(a, b, c, 20, int(b))
				callAll(l, wantW(), list(a, b, c), right)
				callAll(shelfL(), w, list(a, b, c), right)
				callAll(shelf(1, 1, a, b), want(0, a, b, c, 1), list(c), right)
			}
		}
		changed := slices.Clone(right)
		for i := range changed {
			changed[i] = a
			dye.CheckTable(shelfL(), wantW(), changed)
			changed[i] = right[i]
		}
	}
}

// P1: lists of all lengths.
func TestAnyLength(t *testing.T) {
	lengths := []int{0, 1, 2, 3, 4, 7, 8, 9, side * side, 4 * side * side, 9 * side * side, 1 << 16}
	for _, n := range lengths {
		for _, m := range lengths {
			for _, l := range [][]api.DyeKind{shelfL(), manyDyes(n, 1, 1, 1, 1), make([]api.DyeKind, n)} {
				callAll(l, wantW(), make([]int64, m), make([]int64, m))
				callAll(l, everything(1), make([]int64, min(n, mostDyes)), make([]int64, (min(n, mostDyes)+1)*side*side))
			}
		}
	}
}
