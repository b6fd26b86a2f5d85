package atlas_test

import (
	"math/rand"
	"slices"
	"testing"

	"lampblack/api"
	"lampblack/atlas"
)

// somePlans returns plans of all sizes, some of which tell all.
func somePlans(t *testing.T, chance *rand.Rand) []api.AtlasPlan {
	t.Helper()
	l := rightPlans()
	for range 300 {
		l = append(l, somePlan(chance, 1+chance.Intn(mostChips), chance.Intn(mostRows+1)))
	}
	for chips := 3; chips <= mostChips; chips++ {
		l = append(l, someTelling(t, chance, chips))
	}
	return l
}

// P5.7
func TestTold(t *testing.T) {
	chance := rand.New(rand.NewSource(52))
	for _, p := range somePlans(t, chance) {
		told := true
		for _, c := range casesOf(p.Chips) {
			l := mustCases(t, p, mustSee(t, p, c))
			if !slices.Contains(l, c) {
				t.Fatal(p, c, l)
			}
			told = told && len(l) == 1
		}
		if told != tells(t, p) {
			t.Fatal(p, told)
		}
	}
}

// P5.8: no plan with more chips than the bound tells all, and Make reaches it.
func TestBound(t *testing.T) {
	chance := rand.New(rand.NewSource(53))
	bounds := list(-1, 0, 3, 12, 39)
	for n, bound := range bounds {
		for chips := max(bound+1, 1); chips <= mostChips; chips++ {
			for range 20 {
				if p := somePlan(chance, chips, n); tells(t, p) {
					t.Fatal(p)
				}
			}
		}
		if n < 2 {
			continue
		}
		p, e := atlas.Make(bound)
		if len(p.Rows) != n || e != api.OK || !tells(t, p) {
			t.Error(bound, p, e)
		}
		if most, e := atlas.Most(n); most != bound || e != api.OK {
			t.Error(n, most, e)
		}
	}
}

// P5.9
func TestAllCases(t *testing.T) {
	chance := rand.New(rand.NewSource(54))
	for _, p := range somePlans(t, chance) {
		found := 0
		for seen := range allLists(len(p.Rows), -1, 1) {
			found += len(mustCases(t, p, seen))
		}
		if found != 2*p.Chips+1 {
			t.Fatal(p, found)
		}
	}
}

// P5.10: both sides are exchanged.
func TestExchanged(t *testing.T) {
	chance := rand.New(rand.NewSource(55))
	for _, p := range somePlans(t, chance) {
		for i := range p.Rows {
			other := exchanged(p, i)
			for _, c := range casesOf(p.Chips) {
				want := mustSee(t, p, c)
				same := mustCases(t, p, want)
				want[i] *= -1
				if l := mustSee(t, other, c); !slices.Equal(l, want) {
					t.Fatal(p, i, c, l, want)
				}
				if l := mustCases(t, other, want); !slices.Equal(l, same) {
					t.Fatal(p, i, want, l, same)
				}
			}
			if tells(t, p) != tells(t, other) {
				t.Fatal(p, i)
			}
		}
	}
}

// P5.10: chips change their places.
func TestShuffled(t *testing.T) {
	chance := rand.New(rand.NewSource(56))
	for _, p := range somePlans(t, chance) {
		places := chance.Perm(p.Chips)
		other := shuffled(p, places)
		for _, c := range casesOf(p.Chips) {
			moved := c
			if c.Shade != 0 {
				moved.Chip = slices.Index(places, c.Chip)
			}
			seen := mustSee(t, p, c)
			if l := mustSee(t, other, moved); !slices.Equal(l, seen) {
				t.Fatal(p, c, moved, l)
			}
			if l := mustCases(t, other, seen); !slices.Contains(l, moved) || len(l) != len(mustCases(t, p, seen)) {
				t.Fatal(p, c, moved, l)
			}
		}
		if tells(t, p) != tells(t, other) {
			t.Fatal(p, places)
		}
	}
}

// P5.11
func TestMore(t *testing.T) {
	chance := rand.New(rand.NewSource(57))
	for _, p := range somePlans(t, chance) {
		if len(p.Rows) == mostRows {
			p.Rows = p.Rows[:mostRows-1]
		}
		more := copied(p)
		more.Rows = append(more.Rows, someRow(chance, p.Chips))
		for seen := range allLists(len(more.Rows), -1, 1) {
			var want []api.AtlasCase
			for _, c := range mustCases(t, p, seen[:len(p.Rows)]) {
				if l := mustSee(t, more, c); l[len(p.Rows)] == seen[len(p.Rows)] {
					want = append(want, c)
				}
			}
			if l := mustCases(t, more, seen); !slices.Equal(l, want) {
				t.Fatal(more, seen, l, want)
			}
		}
	}
}
