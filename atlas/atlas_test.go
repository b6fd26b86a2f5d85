package atlas_test

import (
	"math"
	"slices"
	"testing"

	"lampblack/api"
	"lampblack/atlas"
)

const (
	mostChips = api.MaxAtlasChips
	mostRows  = api.MaxAtlasRows
)

func list(n ...int) []int { return n }

func rows(l ...[]int) [][]int { return l }

func planOf(chips int, l ...[]int) api.AtlasPlan { return api.AtlasPlan{Chips: chips, Rows: l} }

// planP returns the plan P of the chapter.
func planP() api.AtlasPlan { return planOf(3, list(0, -1, 1), list(1, 0, -1)) }

// planQ returns the plan P without its second row.
func planQ() api.AtlasPlan { return planOf(3, list(0, -1, 1)) }

func none() api.AtlasCase { return api.AtlasCase{} }

func lighter(chip int) api.AtlasCase { return api.AtlasCase{Chip: chip, Shade: -1} }

func darker(chip int) api.AtlasCase { return api.AtlasCase{Chip: chip, Shade: 1} }

func cases(l ...api.AtlasCase) []api.AtlasCase { return l }

// widest returns a row with as many chips as can be, one of them aside.
func widest() []int {
	return slices.Concat(slices.Repeat(list(-1), 19), list(0), slices.Repeat(list(1), 19))
}

func rightPlans() []api.AtlasPlan {
	return []api.AtlasPlan{
		planP(),
		planQ(),
		planOf(1),
		planOf(mostChips),
		planOf(1, list(0)),
		planOf(1, list(0), list(0), list(0), list(0)),
		planOf(2, list(-1, 1), list(1, -1), list(0, 0)),
		planOf(4, list(-1, 1, 1, -1), list(-1, -1, 1, 1), list(1, 0, 0, -1)),
		planOf(mostChips, widest(), widest(), widest(), widest()),
		planOf(mostChips, make([]int, mostChips)),
	}
}

// wrongPlan is a plan that is not valid, and the error of CheckPlan.
type wrongPlan struct {
	p api.AtlasPlan
	e api.Errno
}

// wrongPlans returns plans that are not valid; many are so for a second reason,
// whose error comes later.
func wrongPlans() []wrongPlan {
	return []wrongPlan{
		{planOf(1, make([][]int, mostRows+1)...), api.ErrMany},
		{planOf(1, slices.Repeat(rows(list(0)), mostRows+1)...), api.ErrMany},
		{planOf(0, make([][]int, mostRows+1)...), api.ErrMany},
		{planOf(mostChips+1, make([][]int, mostRows+1)...), api.ErrMany},
		{planOf(2, slices.Repeat(rows(list(5, 1)), mostRows+1)...), api.ErrMany},
		{planOf(1, make([][]int, 1<<20)...), api.ErrMany},
		{planOf(0), api.ErrArg},
		{planOf(-1), api.ErrArg},
		{planOf(mostChips + 1), api.ErrArg},
		{planOf(math.MaxInt), api.ErrArg},
		{planOf(math.MinInt), api.ErrArg},
		{planOf(0, nil), api.ErrArg},
		{planOf(0, list(2)), api.ErrArg},
		{planOf(0, list(1, 1), list(1, -1)), api.ErrArg},
		{planOf(mostChips+1, make([]int, mostChips+1)), api.ErrArg},
		{planOf(mostChips+1, list(1)), api.ErrArg},
		{planOf(1, nil), api.ErrEqual},
		{planOf(2, list(0)), api.ErrEqual},
		{planOf(2, list(0, 0, 0)), api.ErrEqual},
		{planOf(2, list(-1, 1), list(0)), api.ErrEqual},
		{planOf(2, list(2, 1), list(0)), api.ErrEqual},
		{planOf(2, list(1, 1), list(0)), api.ErrEqual},
		{planOf(2, list(5)), api.ErrEqual},
		{planOf(2, list(-1, 1), list(-1, 1), list(-1, 1), nil), api.ErrEqual},
		{planOf(mostChips, make([]int, 1<<20)), api.ErrEqual},
		{planOf(2, list(2, -2)), api.ErrRange},
		{planOf(3, list(2, -1, -1)), api.ErrRange},
		{planOf(3, list(-2, 1, 1)), api.ErrRange},
		{planOf(2, list(1, 0), list(0, 2)), api.ErrRange},
		{planOf(2, list(0, 0), list(-2, 0)), api.ErrRange},
		{planOf(2, list(math.MinInt, math.MinInt)), api.ErrRange},
		{planOf(2, list(math.MaxInt, -math.MaxInt)), api.ErrRange},
		{planOf(1, list(1)), api.ErrRule},
		{planOf(1, list(-1)), api.ErrRule},
		{planOf(2, list(1, 1)), api.ErrRule},
		{planOf(2, list(1, 0)), api.ErrRule},
		{planOf(2, list(0, -1)), api.ErrRule},
		{planOf(3, list(-1, 1, 1)), api.ErrRule},
		{planOf(2, list(1, -1), list(0, 0), list(0, 0), list(0, 1)), api.ErrRule},
		// Only both rows together have as many on the left as on the right.
		{planOf(2, list(1, 0), list(-1, 0)), api.ErrRule},
		{planOf(2, list(1, 0), list(0, -1)), api.ErrRule},
	}
}

// P5.1
func TestCheckPlan(t *testing.T) {
	for i, p := range rightPlans() {
		if e := atlas.CheckPlan(p); e != api.OK {
			t.Error(i, e)
		}
	}
	for i, x := range wrongPlans() {
		if e := atlas.CheckPlan(x.p); e != x.e {
			t.Error(i, e, x.e)
		}
	}
}

// Functions with a plan return the error of CheckPlan before all others.
func TestPlanFirst(t *testing.T) {
	for i, x := range wrongPlans() {
		for _, c := range cases(none(), lighter(0), darker(1), darker(-1), darker(mostChips), api.AtlasCase{Shade: 2}) {
			if s, e := atlas.See(x.p, c); len(s) != 0 || e != x.e {
				t.Error(i, c, s, e)
			}
			for _, other := range cases(none(), c, lighter(0), darker(99)) {
				if e := atlas.CheckClash(x.p, c, other); e != x.e {
					t.Error(i, c, other, e)
				}
			}
		}
		for _, seen := range rows(nil, list(0), list(7), list(0, 0), list(0, 0, 0, 0, 0)) {
			if l, e := atlas.Cases(x.p, seen); len(l) != 0 || e != x.e {
				t.Error(i, seen, l, e)
			}
		}
		if a, b, e := atlas.Clash(x.p); a != none() || b != none() || e != x.e {
			t.Error(i, a, b, e)
		}
	}
}

// wrongCases returns what is not a case of a plan with 3 chips.
func wrongCases() []api.AtlasCase {
	return []api.AtlasCase{
		{Chip: 1}, {Chip: 2}, {Chip: 3}, {Chip: -1}, {Chip: math.MinInt}, {Chip: math.MaxInt},
		lighter(-1), darker(-1), lighter(3), darker(3), lighter(math.MaxInt), darker(math.MinInt),
		{Chip: 0, Shade: 2}, {Chip: 0, Shade: -2}, {Chip: 1, Shade: 2}, {Chip: 2, Shade: -2},
		{Chip: 0, Shade: math.MinInt}, {Chip: 0, Shade: math.MaxInt},
	}
}

// P5.2
func TestSee(t *testing.T) {
	wide := planOf(mostChips, widest(), make([]int, mostChips), widest())
	for i, x := range []struct {
		p    api.AtlasPlan
		c    api.AtlasCase
		want []int
	}{
		{planP(), darker(1), list(-1, 0)},
		{planP(), lighter(1), list(1, 0)},
		{planP(), none(), list(0, 0)},
		{planP(), darker(0), list(0, 1)},
		{planP(), lighter(0), list(0, -1)},
		{planP(), darker(2), list(1, -1)},
		{planP(), lighter(2), list(-1, 1)},
		{planQ(), lighter(2), list(-1)},
		{planOf(1), none(), nil},
		{planOf(1), darker(0), nil},
		{planOf(mostChips), lighter(mostChips - 1), nil},
		{planOf(1, list(0), list(0), list(0), list(0)), darker(0), list(0, 0, 0, 0)},
		{wide, darker(0), list(-1, 0, -1)},
		{wide, lighter(18), list(1, 0, 1)},
		{wide, darker(19), list(0, 0, 0)},
		{wide, darker(mostChips - 1), list(1, 0, 1)},
	} {
		if s, e := atlas.See(x.p, x.c); !slices.Equal(s, x.want) || e != api.OK {
			t.Error(i, s, e)
		}
	}
	for _, c := range wrongCases() {
		if s, e := atlas.See(planP(), c); len(s) != 0 || e != api.ErrRange {
			t.Error(c, s, e)
		}
	}
}

// P5.3
func TestCases(t *testing.T) {
	for i, x := range []struct {
		p    api.AtlasPlan
		seen []int
		want []api.AtlasCase
		e    api.Errno
	}{
		{planP(), list(1, -1), cases(darker(2)), api.OK},
		{planP(), list(-1, 0), cases(darker(1)), api.OK},
		{planP(), list(1, 1), nil, api.OK},
		{planP(), list(-1, -1), nil, api.OK},
		{planP(), list(0, 0), cases(none()), api.OK},
		{planP(), list(0, -1), cases(lighter(0)), api.OK},
		{planQ(), list(0), cases(none(), lighter(0), darker(0)), api.OK},
		{planQ(), list(1), cases(lighter(1), darker(2)), api.OK},
		{planQ(), list(-1), cases(darker(1), lighter(2)), api.OK},
		{planOf(2), nil, cases(none(), lighter(0), darker(0), lighter(1), darker(1)), api.OK},
		{planOf(1, list(0), list(0)), list(0, 0), cases(none(), lighter(0), darker(0)), api.OK},
		{planOf(1, list(0), list(0)), list(0, 1), nil, api.OK},
		{planOf(4, list(1, -1, 1, -1)), list(1), cases(darker(0), lighter(1), darker(2), lighter(3)), api.OK},
		{planP(), nil, nil, api.ErrEqual},
		{planP(), list(0), nil, api.ErrEqual},
		{planP(), list(0, 0, 0), nil, api.ErrEqual},
		{planP(), list(2), nil, api.ErrEqual},
		{planP(), list(2, 0, 0), nil, api.ErrEqual},
		{planP(), list(0, 0, 0, 0, 0), nil, api.ErrEqual},
		{planP(), make([]int, 1<<20), nil, api.ErrEqual},
		{planOf(2), list(0), nil, api.ErrEqual},
		{planP(), list(0, 2), nil, api.ErrRange},
		{planP(), list(-2, 0), nil, api.ErrRange},
		{planP(), list(math.MaxInt, 0), nil, api.ErrRange},
		{planP(), list(0, math.MinInt), nil, api.ErrRange},
	} {
		if l, e := atlas.Cases(x.p, x.seen); !slices.Equal(l, x.want) || e != x.e {
			t.Error(i, l, e)
		}
	}
}

// P5.4
func TestCheckClash(t *testing.T) {
	for i, x := range []struct {
		p    api.AtlasPlan
		a, b api.AtlasCase
		e    api.Errno
	}{
		{planQ(), lighter(0), none(), api.OK},
		{planQ(), lighter(1), darker(2), api.OK},
		{planQ(), darker(2), lighter(1), api.OK},
		{planQ(), none(), darker(0), api.OK},
		{planQ(), lighter(0), darker(0), api.OK},
		{planQ(), lighter(1), lighter(2), api.ErrSum},
		{planQ(), lighter(1), darker(1), api.ErrSum},
		{planQ(), none(), darker(1), api.ErrSum},
		{planQ(), none(), none(), api.ErrSum},
		{planQ(), lighter(0), lighter(0), api.ErrSum},
		{planQ(), darker(2), darker(2), api.ErrSum},
		{planP(), lighter(0), none(), api.ErrSum},
		{planP(), lighter(1), darker(2), api.ErrSum},
		{planOf(1), none(), lighter(0), api.OK},
		{planOf(1), none(), none(), api.ErrSum},
		{planOf(2), lighter(1), darker(0), api.OK},
		{planOf(2, list(1, -1), list(-1, 1)), darker(0), lighter(1), api.OK},
		{planOf(2, list(1, -1), list(-1, 1)), darker(0), darker(1), api.ErrSum},
	} {
		if e := atlas.CheckClash(x.p, x.a, x.b); e != x.e {
			t.Error(i, e)
		}
	}
	for _, c := range wrongCases() {
		for _, other := range append(wrongCases(), none(), lighter(0), darker(2), c) {
			if e := atlas.CheckClash(planP(), c, other); e != api.ErrRange {
				t.Error(c, other, e)
			}
			if e := atlas.CheckClash(planP(), other, c); e != api.ErrRange {
				t.Error(other, c, e)
			}
		}
	}
}

// tells reports whether a plan tells all, as Clash and CheckClash say.
func tells(t *testing.T, p api.AtlasPlan) bool {
	t.Helper()
	a, b, e := atlas.Clash(p)
	switch {
	case e == api.ErrNone && a == none() && b == none():
		return true
	case e != api.OK || atlas.CheckClash(p, a, b) != api.OK:
		t.Fatal(p, a, b, e)
	}
	return false
}

// P5.4
func TestClash(t *testing.T) {
	for i, x := range []struct {
		p    api.AtlasPlan
		want bool
	}{
		{planP(), true},
		{planQ(), false},
		{planOf(1), false},
		{planOf(mostChips), false},
		{planOf(1, list(0), list(0), list(0), list(0)), false},
		{planOf(2, list(1, -1), list(-1, 1)), false},
		{planOf(3, list(0, -1, 1), list(1, 0, -1), list(0, 0, 0)), true},
		{planOf(3, list(0, 0, 0), list(1, 0, -1), list(0, 0, 0), list(0, -1, 1)), true},
		{planOf(3, list(0, -1, 1), list(0, 1, -1)), false},
		// The chips 0 and 3 lie on the same side, then on both.
		{planOf(4, list(0, -1, 1, 0), list(1, -1, -1, 1)), false},
		{planOf(4, list(1, -1, 1, -1), list(1, 1, -1, -1)), false},
		{planOf(4, list(-1, 1, 1, -1), list(-1, -1, 1, 1), list(1, 0, 0, -1)), true},
		{planOf(mostChips, widest(), widest(), widest(), widest()), false},
	} {
		if tells(t, x.p) != x.want {
			t.Error(i)
		}
	}
}

// P5.5
func TestMost(t *testing.T) {
	for rows, want := range list(0, 0, 3, 12, 39) {
		if n, e := atlas.Most(rows); n != want || e != api.OK {
			t.Error(rows, n, e)
		}
	}
	for _, rows := range list(-1, -2, 5, 6, math.MinInt, math.MaxInt, 1<<32) {
		if n, e := atlas.Most(rows); n != 0 || e != api.ErrArg {
			t.Error(rows, n, e)
		}
	}
}

// wrongNumbers returns what is not a number of chips.
func wrongNumbers() []int {
	return list(0, -1, -3, mostChips+1, mostChips+2, 121, math.MinInt, math.MaxInt, 1<<32+3)
}

// P5.5
func TestFewest(t *testing.T) {
	for chips := 1; chips <= mostChips; chips++ {
		want, e := 4, api.OK
		switch {
		case chips < 3:
			want, e = 0, api.ErrNone
		case chips == 3:
			want = 2
		case chips <= 12:
			want = 3
		}
		if n, f := atlas.Fewest(chips); n != want || f != e {
			t.Error(chips, n, f)
		}
	}
	for _, chips := range wrongNumbers() {
		if n, e := atlas.Fewest(chips); n != 0 || e != api.ErrArg {
			t.Error(chips, n, e)
		}
	}
}

// P5.6, P5.8
func TestMake(t *testing.T) {
	for chips := 3; chips <= mostChips; chips++ {
		p, e := atlas.Make(chips)
		fewest, _ := atlas.Fewest(chips)
		if p.Chips != chips || len(p.Rows) != fewest || e != api.OK {
			t.Fatal(chips, p, e)
		}
		if e := atlas.CheckPlan(p); e != api.OK {
			t.Fatal(chips, p, e)
		}
		if !tells(t, p) {
			t.Error(chips, p)
		}
	}
	for _, chips := range list(1, 2) {
		if p, e := atlas.Make(chips); p.Chips != 0 || len(p.Rows) != 0 || e != api.ErrNone {
			t.Error(chips, p, e)
		}
	}
	for _, chips := range wrongNumbers() {
		if p, e := atlas.Make(chips); p.Chips != 0 || len(p.Rows) != 0 || e != api.ErrArg {
			t.Error(chips, p, e)
		}
	}
}
