package dye_test

import (
	"math/rand"
	"slices"
	"testing"

	"lampblack/api"
	"lampblack/dye"
)

// costOfCheapest returns what the cheapest recipe costs, or -1 if none fits.
func costOfCheapest(t *testing.T, l []api.DyeKind, w api.DyeWant) int64 {
	t.Helper()
	recipe, n, e := cheapest(t, l, w)
	if e == api.ErrPlan {
		return -1
	}
	if e != api.OK {
		t.Fatal(l, w, recipe, n, e)
	}
	return n
}

// seeNotMore sees to it that the first of two costs is not more than the other
// one. No recipe, -1, costs more than all.
func seeNotMore(t *testing.T, less, more int64, about ...any) {
	t.Helper()
	if more >= 0 && (less < 0 || less > more) {
		t.Error(append(about, less, more)...)
	}
}

// someRecipe returns a recipe of few grains of dyes that are as fast.
func someRecipe(chance *rand.Rand, l []api.DyeKind, fast int) []int64 {
	recipe := make([]int64, len(l))
	for range chance.Intn(10) {
		if i := chance.Intn(len(l)); l[i].Fast >= fast {
			recipe[i]++
		}
	}
	return recipe
}

// wantNear returns a want whose ranges have the bands of a recipe, as far as they
// can be asked for.
func wantNear(chance *rand.Rand, l []api.DyeKind, recipe []int64, fast int) api.DyeWant {
	w := api.DyeWant{Fast: fast}
	bands, _ := mixed(l, recipe)
	for i, n := range bands {
		n = min(n, mostBand)
		w.Band[i] = api.Range{Lo: max(0, n-chance.Int63n(3)), Hi: min(mostBand, n+chance.Int63n(3))}
	}
	return w
}

// P9.7: no recipe that fits costs less than the bound of any right table.
func TestProved(t *testing.T) {
	chance := rand.New(rand.NewSource(11))
	count := 0
	for _, l := range someShelves(12, 200) {
		for range 20 {
			fast := 1 + chance.Intn(mostFast)
			recipe := someRecipe(chance, l, fast)
			w := wantNear(chance, l, recipe, fast)
			cost, e := check(t, l, w, recipe)
			if e != api.OK {
				continue
			}
			seeNotMore(t, costOfCheapest(t, l, w), cost, l, w, recipe)
			for range 5 {
				numbers := nearTable(chance, l, w.Fast)
				bound, e := checkTable(t, l, w, numbers)
				if e != api.OK {
					continue
				}
				count++
				if bound > cost {
					t.Error(l, w, recipe, cost, bound)
				}
			}
		}
	}
	if count < 1000 {
		t.Error(count)
	}
}

// P9.7: the cheapest recipe costs just the bound of the table of costs, which is
// right. If none fits, its bound is MaxNumber, and there is no greater one.
func TestTableIsBest(t *testing.T) {
	chance := rand.New(rand.NewSource(13))
	none := 0
	for _, l := range someShelves(14, 200) {
		for range 10 {
			w := someWant(chance)
			numbers, e := table(t, l, w.Fast)
			if e != api.OK {
				t.Fatal(l, w, e)
			}
			bound, e := checkTable(t, l, w, numbers)
			cost := costOfCheapest(t, l, w)
			if cost < 0 {
				none++
				cost = mostNumber
			}
			if bound != cost || e != api.OK {
				t.Error(l, w, bound, cost, e)
			}
			if n, e := checkTable(t, l, w, nearTable(chance, l, w.Fast)); e == api.OK && n > bound {
				t.Error(l, w, n, bound)
			}
		}
	}
	if none < 300 {
		t.Error(none)
	}
}

// P9.8: the bands, and the costs, of two recipes put together.
func TestTogether(t *testing.T) {
	chance := rand.New(rand.NewSource(15))
	for _, l := range someShelves(16, 900) {
		var one, two, both []int64
		for range l {
			n := chance.Int63n(side)
			part := chance.Int63n(n + 1)
			one, two, both = append(one, part), append(two, n-part), append(both, n)
		}
		a, x, e := mix(t, l, one)
		b, y, be := mix(t, l, two)
		c, z, ce := mix(t, l, both)
		if e != api.OK || be != api.OK || ce != api.OK || z != x+y || !slices.Equal(c, list(a[0]+b[0], a[1]+b[1])) {
			t.Error(l, one, two, a, b, c, x, y, z, e, be, ce)
		}
	}
}

// P9.9: one dye more, wider ranges, a greater fastness.
func TestMore(t *testing.T) {
	chance := rand.New(rand.NewSource(17))
	changed := [3]int{}
	for _, l := range someShelves(18, 300) {
		for range 10 {
			w := someWant(chance)
			cost := costOfCheapest(t, l, w)
			n := cost
			if len(l) < mostDyes {
				more := slices.Insert(slices.Clone(l), chance.Intn(len(l)+1), someShelf(chance, 1, 0, mostGrain, 9)...)
				n = costOfCheapest(t, more, w)
			}
			wide := w
			i := chance.Intn(2)
			wide.Band[i] = widened(w, chance.Int63n(3)).Band[i]
			m := costOfCheapest(t, l, wide)
			fast := w
			fast.Fast = w.Fast + chance.Intn(mostFast-w.Fast+1)
			k := costOfCheapest(t, l, fast)
			seeNotMore(t, n, cost, l, w)
			seeNotMore(t, m, cost, l, w, wide)
			seeNotMore(t, cost, k, l, w, fast)
			for i, other := range []int64{n, m, k} {
				if other != cost {
					changed[i]++
				}
			}
		}
	}
	for _, n := range changed {
		if n < 100 {
			t.Error(changed)
		}
	}
}

// turned returns a shelf and a want with their bands exchanged.
func turned(l []api.DyeKind, w api.DyeWant) ([]api.DyeKind, api.DyeWant) {
	l = slices.Clone(l)
	for i, d := range l {
		l[i].Band = [2]int64{d.Band[1], d.Band[0]}
	}
	w.Band = [2]api.Range{w.Band[1], w.Band[0]}
	return l, w
}

// P9.10: both bands exchanged, and dyes in other places.
func TestTurned(t *testing.T) {
	chance := rand.New(rand.NewSource(19))
	for _, l := range someShelves(20, 300) {
		mixedUp := slices.Clone(l)
		chance.Shuffle(len(l), func(i, j int) { mixedUp[i], mixedUp[j] = mixedUp[j], mixedUp[i] })
		for range 10 {
			w := someWant(chance)
			seeSame(t, l, w, mixedUp, w)
			other, v := turned(l, w)
			seeSame(t, l, w, other, v)
			other, v = turned(mixedUp, w)
			seeSame(t, l, w, other, v)
		}
	}
}

// seeSame sees to it that what the cheapest recipe costs is the same for another
// shelf and want, as is by how much it would have to be wider.
func seeSame(t *testing.T, l []api.DyeKind, w api.DyeWant, other []api.DyeKind, v api.DyeWant) {
	t.Helper()
	if n, m := costOfCheapest(t, l, w), costOfCheapest(t, other, v); n != m {
		t.Error(l, w, other, v, n, m)
	}
	n, e := wider(t, l, w)
	if m, oe := wider(t, other, v); n != m || e != api.OK || oe != api.OK {
		t.Error(l, w, other, v, n, m, e, oe)
	}
	some, e := grades(t, l, w)
	if same, oe := grades(t, other, v); !slices.Equal(some, same) || e != api.OK || oe != api.OK {
		t.Error(l, w, other, v, some, same, e, oe)
	}
}

// P9.11: all prices as many times as great.
func TestManyTimes(t *testing.T) {
	chance := rand.New(rand.NewSource(21))
	for range 300 {
		l := someShelf(chance, 1+chance.Intn(mostDyes), 0, mostGrain, 1000)
		times := chance.Int63n(1001)
		other := slices.Clone(l)
		for i := range other {
			other[i].Price *= times
		}
		for range 10 {
			w := someWant(chance)
			n, m := costOfCheapest(t, l, w), costOfCheapest(t, other, w)
			if n < 0 && m != n || n >= 0 && m != n*times {
				t.Error(l, w, times, n, m)
			}
		}
	}
}

// P9.11: with all prices 1 the cheapest recipe has the fewest grains.
func TestFewestGrains(t *testing.T) {
	chance := rand.New(rand.NewSource(22))
	count := 0
	for range 100 {
		l := someShelf(chance, 1+chance.Intn(4), 1, mostGrain, 1)
		for i := range l {
			l[i].Price = 1
		}
		for range 10 {
			w := someWant(chance)
			recipe, _, e := cheapest(t, l, w)
			if e != api.OK {
				continue
			}
			count++
			for other := range recipes(l, len(l)) {
				if fits(l, w, other) && sum(other) < sum(recipe) {
					t.Error(l, w, recipe, other)
				}
			}
		}
	}
	if count < 100 {
		t.Error(count)
	}
}

func sum(numbers []int64) int64 {
	all := int64(0)
	for _, n := range numbers {
		all += n
	}
	return all
}

// P9.12: the numbers of Grades do not become less, and once none fits, none does
// for a greater fastness. They are what Cheapest says for each one.
func TestGradesRise(t *testing.T) {
	chance := rand.New(rand.NewSource(23))
	rises, ends := 0, 0
	for _, l := range someShelves(24, 300) {
		for range 10 {
			w := someWant(chance)
			numbers, e := grades(t, l, w)
			if len(numbers) != mostFast || e != api.OK {
				t.Fatal(l, w, numbers, e)
			}
			for i, n := range numbers {
				w.Fast = i + 1
				if m := costOfCheapest(t, l, w); m != n {
					t.Error(l, w, numbers, m)
				}
				if i == 0 {
					continue
				}
				seeNotMore(t, numbers[i-1], n, l, w, numbers)
				if n > numbers[i-1] {
					rises++
				}
				if n < numbers[i-1] {
					ends++
				}
			}
		}
	}
	if rises < 100 || ends < 300 {
		t.Error(rises, ends)
	}
}

// P9.5: what the least number is, by the wants that are wider.
func TestWiderByWants(t *testing.T) {
	chance := rand.New(rand.NewSource(25))
	counts := [side]int{}
	for _, l := range someShelves(26, 300) {
		for range 10 {
			w := someWant(chance)
			by, e := dye.Wider(l, w)
			if e != api.OK || by < 0 || by > mostBand {
				t.Fatal(l, w, by, e)
			}
			counts[by]++
			if n := costOfCheapest(t, l, widened(w, by)); n < 0 {
				t.Error(l, w, by)
			}
			if by > 0 && costOfCheapest(t, l, widened(w, by-1)) >= 0 {
				t.Error(l, w, by)
			}
		}
	}
	for by, n := range counts {
		if n == 0 {
			t.Error(by, counts)
		}
	}
}
