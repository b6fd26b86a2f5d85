package panel_test

import (
	"math/rand"
	"slices"
	"testing"

	"lampblack/api"
	"lampblack/panel"
)

// eachDuels yields all duels of up to five shades, and random ones of all sizes.
func eachDuels(seed int64) func(func(table) bool) {
	return func(yield func(table) bool) {
		for shades := 1; shades <= 5; shades++ {
			for x := range allDuels(shades) {
				if !yield(x) {
					return
				}
			}
		}
		for _, x := range someDuels(seed, 1000) {
			if !yield(x) {
				return
			}
		}
	}
}

// P11.6: a list is possible, and CheckShort then finds no indexes at which it is
// short, or it is short at some.
func TestEitherPossibleOrShort(t *testing.T) {
	check := func(won []int) {
		_, ofPossible := possible(t, won)
		at, ofShort := short(t, won)
		shorts := 0
		for indexes := range allSubsets(len(won)) {
			if panel.CheckShort(won, indexes) == api.OK {
				shorts++
			}
		}
		switch {
		case ofPossible == api.OK && ofShort == api.ErrNone && shorts == 0:
		case ofPossible == api.ErrPlan && ofShort == api.OK && shorts > 0 && panel.CheckShort(won, at) == api.OK:
		default:
			t.Error(won, ofPossible, ofShort, shorts)
		}
	}
	for n := 1; n <= 4; n++ {
		for won := range allLists(n, 7) {
			check(won)
		}
	}
	chance := rand.New(rand.NewSource(11))
	for _, x := range someDuels(12, 300) {
		won := winsOf(x)
		check(won)
		won[chance.Intn(len(won))] = chance.Intn(mostShades)
		check(won)
		won[chance.Intn(len(won))] = chance.Intn(mostShades)
		check(won)
	}
}

// P11.7
func TestCirclesAreCounted(t *testing.T) {
	for x := range eachDuels(13) {
		d := x.lists()
		n := len(x)
		want := n * (n - 1) * (n - 2) / 6
		won, _ := wins(t, d)
		for _, w := range won {
			want -= w * (w - 1) / 2
		}
		found, e := circles(t, d)
		if found != want || e != api.OK {
			t.Error(d, found, e, want)
		}
		if g, _ := grades(t, d); (found == 0) != (len(g) == n) {
			t.Error(d, found, g)
		}
	}
}

// allOrders returns all lists in which each shade beats the next one.
func allOrders(x table) [][]int {
	var found [][]int
	var grow func(part []int)
	grow = func(part []int) {
		if len(part) == len(x) {
			found = append(found, slices.Clone(part))
			return
		}
		for shade := range x {
			if !slices.Contains(part, shade) && (len(part) == 0 || x[part[len(part)-1]][shade]) {
				grow(append(slices.Clone(part), shade))
			}
		}
	}
	grow(nil)
	return found
}

// goesAlong reports whether an order goes from grade to grade.
func goesAlong(grades [][]int, inOrder []int) bool {
	at := 0
	for _, grade := range grades {
		part := slices.Sorted(slices.Values(inOrder[at : at+len(grade)]))
		if !slices.Equal(part, grade) {
			return false
		}
		at += len(grade)
	}
	return at == len(inOrder)
}

// P11.8: the order that is returned, and all others of up to five shades.
func TestOrdersGoFromGradeToGrade(t *testing.T) {
	for x := range eachDuels(14) {
		d := x.lists()
		g, _ := grades(t, d)
		if o, e := order(t, d); e != api.OK || !goesAlong(g, o) {
			t.Error(d, o, e, g)
		}
		for _, grade := range g {
			if len(grade) == 2 {
				t.Error(d, g)
			}
		}
		if len(x) > 5 {
			continue
		}
		for _, o := range allOrders(x) {
			if panel.CheckOrder(d, o) != api.OK || !goesAlong(g, o) {
				t.Error(d, o, g)
			}
		}
	}
}

// renumbered returns a book whose judges have other numbers.
func renumbered(b api.PanelBook, number []int) api.PanelBook {
	b.Votes = slices.Clone(b.Votes)
	for i := range b.Votes {
		b.Votes[i].Judge = number[b.Votes[i].Judge]
	}
	return b
}

// P11.9
func TestReplayed(t *testing.T) {
	chance := rand.New(rand.NewSource(15))
	repeats := 0
	for _, b := range someBooks(16, 1500) {
		s, _ := slips(t, b)
		d, _ := duels(t, b)
		same := func(other api.PanelBook, number []int) {
			t.Helper()
			if found, e := duels(t, other); !equalLists(found, d) || e != api.OK {
				t.Error(b, other, found, e)
			}
			found, e := slips(t, other)
			if e != api.OK {
				t.Error(other, e)
			}
			for judge, n := range number {
				if found[n] != s[judge] {
					t.Error(b, other, found, s)
				}
			}
		}
		mixed := b
		mixed.Votes = slices.Clone(b.Votes)
		chance.Shuffle(len(mixed.Votes), func(i, j int) { mixed.Votes[i], mixed.Votes[j] = mixed.Votes[j], mixed.Votes[i] })
		same(mixed, allNumbers(b.Judges))

		number := chance.Perm(b.Judges)
		same(renumbered(mixed, number), number)
		for _, v := range b.Votes {
			if len(mixed.Votes) < mostVotes {
				at := chance.Intn(len(mixed.Votes) + 1)
				mixed.Votes = slices.Insert(mixed.Votes, at, v)
				same(mixed, allNumbers(b.Judges))
				repeats++
			}
		}
	}
	if repeats < 3000 {
		t.Error(repeats)
	}
}

// P11.10
func TestKing(t *testing.T) {
	for x := range eachDuels(17) {
		won, _ := wins(t, x.lists())
		for shade, w := range won {
			if w < slices.Max(won) {
				continue
			}
			for other := range x {
				through := false
				for between := range x {
					through = through || x[shade][between] && x[between][other]
				}
				if other != shade && !x[shade][other] && !through {
					t.Error(x, shade, other)
				}
			}
		}
	}
}

// P11.11
func TestTurnedRound(t *testing.T) {
	for x := range eachDuels(18) {
		turned := newTable(len(x))
		for one := range x {
			for other := range x {
				turned[other][one] = x[one][other]
			}
		}
		d, back := x.lists(), turned.lists()
		won, _ := wins(t, d)
		lost, e := wins(t, back)
		for shade := range x {
			if e != api.OK || won[shade]+lost[shade] != len(x)-1 {
				t.Error(d, won, lost, e)
			}
		}
		n, _ := circles(t, d)
		if m, e := circles(t, back); m != n || e != api.OK {
			t.Error(d, n, m, e)
		}
		g, _ := grades(t, d)
		slices.Reverse(g)
		if other, e := grades(t, back); !equalLists(g, other) || e != api.OK {
			t.Error(d, g, other, e)
		}
		o, _ := order(t, d)
		slices.Reverse(o)
		if e := panel.CheckOrder(back, o); e != api.OK {
			t.Error(d, o, e)
		}
	}
}
