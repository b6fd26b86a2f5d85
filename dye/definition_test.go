package dye_test

import (
	"iter"
	"math/rand"
	"slices"
	"testing"

	"lampblack/api"
)

// The definitions of the chapter, as plainly as they can be written.

func isRecipe(l []api.DyeKind, recipe []int64) bool {
	for _, n := range recipe {
		if n < 0 || n > mostBand {
			return false
		}
	}
	return len(recipe) == len(l)
}

// mixed returns the bands of a recipe, and what it costs.
func mixed(l []api.DyeKind, recipe []int64) (bands [2]int64, cost int64) {
	for i, n := range recipe {
		bands[0] += n * l[i].Band[0]
		bands[1] += n * l[i].Band[1]
		cost += n * l[i].Price
	}
	return bands, cost
}

// isWithin reports whether both bands are in the ranges of a want.
func isWithin(w api.DyeWant, bands [2]int64) bool {
	for i, n := range bands {
		if n < w.Band[i].Lo || n > w.Band[i].Hi {
			return false
		}
	}
	return true
}

// isFaded reports whether a recipe has a grain of a dye that is not as fast.
func isFaded(l []api.DyeKind, fast int, recipe []int64) bool {
	for i, n := range recipe {
		if n > 0 && l[i].Fast < fast {
			return true
		}
	}
	return false
}

func fits(l []api.DyeKind, w api.DyeWant, recipe []int64) bool {
	bands, _ := mixed(l, recipe)
	return isWithin(w, bands) && !isFaded(l, w.Fast, recipe)
}

// recipes yields all recipes of the first n dyes with bands that can be asked
// for, and no grain of the others.
func recipes(l []api.DyeKind, n int) iter.Seq[[]int64] {
	return func(yield func([]int64) bool) {
		if n == 0 {
			yield(make([]int64, len(l)))
			return
		}
		for recipe := range recipes(l, n-1) {
			for recipe[n-1] = 0; recipe[n-1] <= mostBand; recipe[n-1]++ {
				if bands, _ := mixed(l, recipe); bands[0] > mostBand || bands[1] > mostBand {
					break
				}
				if !yield(slices.Clone(recipe)) {
					return
				}
			}
		}
	}
}

// leastOf returns the least that a recipe that fits costs, by all recipes, or -1
// if none fits.
func leastOf(l []api.DyeKind, w api.DyeWant) int64 {
	least := int64(-1)
	for recipe := range recipes(l, len(l)) {
		if _, n := mixed(l, recipe); fits(l, w, recipe) && (least < 0 || n < least) {
			least = n
		}
	}
	return least
}

// costsOf returns the table of costs, by all recipes.
func costsOf(l []api.DyeKind, fast int) []int64 {
	numbers := slices.Repeat(list(mostNumber), (len(l)+1)*side*side)
	for i := range len(l) + 1 {
		for recipe := range recipes(l, i) {
			bands, cost := mixed(l, recipe)
			index := at(i, int(bands[0]), int(bands[1]))
			if !isFaded(l, fast, recipe) && cost < numbers[index] {
				numbers[index] = cost
			}
		}
	}
	return numbers
}

// costsByGrains returns the same as costsOf for a shelf of any size: the recipes
// of some dyes are those of one dye less, with so many grains of this one.
func costsByGrains(l []api.DyeKind, fast int) []int64 {
	numbers := slices.Repeat(list(mostNumber), (len(l)+1)*side*side)
	numbers[0] = 0
	for i, d := range l {
		a, b := int(d.Band[0]), int(d.Band[1])
		for x := range side {
			for y := range side {
				least := numbers[at(i, x, y)]
				for n := 1; d.Fast >= fast && n*a <= x && n*b <= y; n++ {
					if old := numbers[at(i, x-n*a, y-n*b)]; old < mostNumber {
						least = min(least, old+int64(n)*d.Price)
					}
				}
				numbers[at(i+1, x, y)] = least
			}
		}
	}
	return numbers
}

// isRight reports whether a table, with as many numbers as it should have, is
// right for a fastness.
func isRight(l []api.DyeKind, fast int, numbers []int64) bool {
	if numbers[at(0, 0, 0)] != 0 {
		return false
	}
	for i, d := range l {
		a, b := int(d.Band[0]), int(d.Band[1])
		for x := range side {
			for y := range side {
				if numbers[at(i+1, x, y)] > numbers[at(i, x, y)] {
					return false
				}
				if d.Fast >= fast && x+a <= mostBand && y+b <= mostBand && numbers[at(i+1, x+a, y+b)] > numbers[at(i+1, x, y)]+d.Price {
					return false
				}
			}
		}
	}
	return true
}

// boundOf returns the bound of a table for a want.
func boundOf(l []api.DyeKind, w api.DyeWant, numbers []int64) int64 {
	bound := int64(mostNumber)
	for x := range side {
		for y := range side {
			if isWithin(w, [2]int64{int64(x), int64(y)}) {
				bound = min(bound, numbers[at(len(l), x, y)])
			}
		}
	}
	return bound
}

// priceOf returns what the cheapest recipe costs by a right table, or -1.
func priceOf(l []api.DyeKind, w api.DyeWant, costs []int64) int64 {
	if n := boundOf(l, w, costs); n < mostNumber {
		return n
	}
	return -1
}

// widened returns a want with wider ranges.
func widened(w api.DyeWant, by int64) api.DyeWant {
	for i := range w.Band {
		w.Band[i].Lo = max(w.Band[i].Lo-by, 0)
		w.Band[i].Hi = min(w.Band[i].Hi+by, mostBand)
	}
	return w
}

// seeShelf sees to it that all that is told of a shelf and a want is so by the
// table of costs for each fastness.
func seeShelf(t *testing.T, l []api.DyeKind, w api.DyeWant, costs [mostFast + 1][]int64) {
	t.Helper()
	least := priceOf(l, w, costs[w.Fast])
	recipe, n, e := cheapest(t, l, w)
	if (e == api.OK) != (least >= 0) || e != api.OK && e != api.ErrPlan || e == api.OK && n != least {
		t.Error(l, w, recipe, n, e, least)
	}
	if e == api.OK {
		seeRecipe(t, l, w, recipe, n)
	}
	by := int64(0)
	for priceOf(l, widened(w, by), costs[w.Fast]) < 0 {
		by++
	}
	if n, e := wider(t, l, w); n != by || e != api.OK {
		t.Error(l, w, n, e, by)
	}
	var prices []int64
	for fast := 1; fast <= mostFast; fast++ {
		prices = append(prices, priceOf(l, w, costs[fast]))
	}
	if n, e := grades(t, l, w); !slices.Equal(n, prices) || e != api.OK {
		t.Error(l, w, n, e, prices)
	}
	for fast := 1; fast <= mostFast; fast++ {
		if n, e := checkTable(t, l, w, costs[fast]); e == api.OK && n != boundOf(l, w, costs[fast]) || (e == api.OK) != isRight(l, w.Fast, costs[fast]) {
			t.Error(l, w, fast, n, e)
		}
	}
}

// allCosts returns the table of costs for each fastness, and sees to it that
// those of the package are the same.
func allCosts(t *testing.T, l []api.DyeKind, costsOf func([]api.DyeKind, int) []int64) [mostFast + 1][]int64 {
	t.Helper()
	var costs [mostFast + 1][]int64
	for fast := 1; fast <= mostFast; fast++ {
		costs[fast] = costsOf(l, fast)
		if numbers, e := table(t, l, fast); !slices.Equal(numbers, costs[fast]) || e != api.OK {
			t.Error(l, fast, e)
		}
	}
	return costs
}

// someShelf returns a valid shelf with so many dyes, of which a grain adds to each
// band no less, and no more, than is told, if it adds to one of them.
func someShelf(chance *rand.Rand, dyes, least, grain int, price int64) []api.DyeKind {
	var l []api.DyeKind
	for range dyes {
		d := api.DyeKind{Price: chance.Int63n(price + 1), Fast: 1 + chance.Intn(mostFast)}
		for i := range d.Band {
			d.Band[i] = int64(least + chance.Intn(grain-least+1))
		}
		if d.Band == [2]int64{} {
			d.Band[chance.Intn(2)] = 1
		}
		l = append(l, d)
	}
	return l
}

// someWant returns a valid want, mostly with narrow ranges.
func someWant(chance *rand.Rand) api.DyeWant {
	w := api.DyeWant{Fast: 1 + chance.Intn(mostFast)}
	if chance.Intn(2) == 0 {
		w.Fast = 1 + chance.Intn(2)
	}
	for i := range w.Band {
		lo := chance.Int63n(side)
		hi := min(mostBand, lo+chance.Int63n(4))
		if chance.Intn(9) == 0 {
			hi = lo + chance.Int63n(side-lo)
		}
		w.Band[i] = api.Range{Lo: lo, Hi: hi}
	}
	return w
}

// someShelves returns shelves of all sizes.
func someShelves(seed int64, n int) [][]api.DyeKind {
	chance := rand.New(rand.NewSource(seed))
	l := [][]api.DyeKind{shelfL(), manyDyes(mostDyes, 1, 1, 1, 1), manyDyes(mostDyes, 6, 6, mostPrice, 8)}
	for len(l) < n {
		price := []int64{0, 1, 9, mostPrice}[chance.Intn(4)]
		l = append(l, someShelf(chance, 1+chance.Intn(mostDyes), 0, mostGrain, price),
			someShelf(chance, 1+chance.Intn(3), 0, 2+chance.Intn(5), price))
	}
	return l
}

// P9.3 to P9.6: shelves of which all recipes can be tried.
func TestAllRecipes(t *testing.T) {
	chance := rand.New(rand.NewSource(1))
	fit := 0
	for i := range 60 {
		l := someShelf(chance, 1+chance.Intn(2), 0, 1+i%mostGrain, 9)
		if i%2 == 0 {
			l = someShelf(chance, 1+chance.Intn(4), 1, mostGrain, []int64{1, 9, mostPrice}[i%3])
		}
		costs := allCosts(t, l, costsOf)
		for fast := 1; fast <= mostFast; fast++ {
			if !slices.Equal(costs[fast], costsByGrains(l, fast)) {
				t.Fatal(l, fast)
			}
		}
		for range 20 {
			w := someWant(chance)
			least := leastOf(l, w)
			if least != priceOf(l, w, costs[w.Fast]) {
				t.Fatal(l, w, least)
			}
			if least >= 0 {
				fit++
			}
			seeShelf(t, l, w, costs)
		}
	}
	if fit < 150 {
		t.Error(fit)
	}
}

// P9.3 to P9.6: shelves of all sizes.
func TestAllSizes(t *testing.T) {
	chance := rand.New(rand.NewSource(2))
	fit := 0
	for _, l := range someShelves(3, 200) {
		costs := allCosts(t, l, costsByGrains)
		for range 20 {
			w := someWant(chance)
			if priceOf(l, w, costs[w.Fast]) >= 0 {
				fit++
			}
			seeShelf(t, l, w, costs)
		}
	}
	if fit < 1000 {
		t.Error(fit)
	}
}

// P9.2: all recipes of some shelves, and such as have more grains.
func TestEachRecipe(t *testing.T) {
	chance := rand.New(rand.NewSource(4))
	counts := map[api.Errno]int{}
	for range 100 {
		l := someShelf(chance, 1+chance.Intn(3), 1, mostGrain, 9)
		var all [][]int64
		for recipe := range recipes(l, len(l)) {
			all = append(all, recipe)
		}
		for range 20 {
			var recipe []int64
			for range l {
				recipe = append(recipe, chance.Int63n(side))
			}
			all = append(all, recipe)
		}
		for _, recipe := range all {
			counts[seeMixed(t, l, someWant(chance), recipe)]++
			counts[seeMixed(t, l, everything(1+chance.Intn(mostFast)), recipe)]++
		}
	}
	for _, e := range []api.Errno{api.OK, api.ErrPart, api.ErrFaded} {
		if counts[e] < 500 {
			t.Error(counts)
		}
	}
}

// seeMixed sees to it that what is told of a recipe is so, and returns the error
// of Check.
func seeMixed(t *testing.T, l []api.DyeKind, w api.DyeWant, recipe []int64) api.Errno {
	t.Helper()
	sums, cost := mixed(l, recipe)
	if bands, n, e := mix(t, l, recipe); !slices.Equal(bands, sums[:]) || n != cost || e != api.OK {
		t.Error(l, recipe, bands, n, e)
	}
	wantError := api.OK
	if !isWithin(w, sums) {
		wantError = api.ErrPart
	} else if isFaded(l, w.Fast, recipe) {
		wantError = api.ErrFaded
	}
	n, e := check(t, l, w, recipe)
	if e != wantError || e == api.OK && n != cost {
		t.Error(l, w, recipe, n, e)
	}
	return e
}

// P9.4: whether a table is right, of many that are nearly so.
func TestNearTables(t *testing.T) {
	chance := rand.New(rand.NewSource(5))
	right, wrong := 0, 0
	for _, l := range someShelves(6, 120) {
		w := someWant(chance)
		for range 40 {
			numbers := nearTable(chance, l, w.Fast)
			n, e := checkTable(t, l, w, numbers)
			if !isRight(l, w.Fast, numbers) {
				wrong++
				if e != api.ErrSum {
					t.Error(l, w, e)
				}
				continue
			}
			right++
			if n != boundOf(l, w, numbers) || e != api.OK {
				t.Error(l, w, n, e)
			}
		}
	}
	if right < 1000 || wrong < 1000 {
		t.Error(right, wrong)
	}
}

// nearTable returns a right table, or one that a number or two make wrong.
func nearTable(chance *rand.Rand, l []api.DyeKind, fast int) []int64 {
	numbers := costsByGrains(l, max(1, fast-chance.Intn(2)))
	switch chance.Intn(3) {
	case 0:
		most := chance.Int63n(20)
		for i := range numbers {
			numbers[i] = min(numbers[i], most)
		}
	case 1:
		for i := range numbers[:side*side] {
			numbers[i] -= int64(min(i, 5))
		}
	}
	for range chance.Intn(3) {
		i := chance.Intn(len(numbers))
		if chance.Intn(2) == 0 {
			i = at(chance.Intn(len(l)+1), mostBand-chance.Intn(3), mostBand-chance.Intn(3))
		}
		numbers[i] = max(0, min(mostNumber, numbers[i]+chance.Int63n(5)-2))
	}
	return numbers
}
