package atlas_test

import (
	"math"
	"math/rand"
	"slices"
	"testing"

	"lampblack/api"
	"lampblack/atlas"
)

// full returns a list with room behind it, in which something would be seen
// that is written there.
func full[T any](l []T, rest T) (part, room []T) {
	room = append(slices.Clone(l), rest, rest, rest)
	return room[:len(l)], room
}

func areSameRows(one, two [][]int) bool { return slices.EqualFunc(one, two, slices.Equal) }

func areSame(one, two api.AtlasPlan) bool {
	return one.Chips == two.Chips && areSameRows(one.Rows, two.Rows)
}

// callAll calls all functions.
func callAll(p api.AtlasPlan, a, b api.AtlasCase, seen []int, n int) {
	atlas.CheckPlan(p)
	atlas.See(p, a)
	atlas.Cases(p, seen)
	atlas.Clash(p)
	atlas.CheckClash(p, a, b)
	atlas.Most(n)
	atlas.Fewest(n)
	atlas.Make(n)
}

// R5: no argument is changed, nor what lies behind it.
func TestArgumentsAreKept(t *testing.T) {
	p, room := planOf(3), planOf(3)
	for _, row := range planP().Rows {
		some, all := full(row, 77)
		p.Rows, room.Rows = append(p.Rows, some), append(room.Rows, all)
	}
	behind := list(7, 7, 7)
	outer, outerRoom := full(p.Rows, behind)
	p.Rows = outer
	seen, seenRoom := full(list(1, -1), 77)
	wholePlan, wholeSeen := copied(room), slices.Clone(seenRoom)
	for _, a := range casesOf(3) {
		for _, b := range casesOf(3) {
			callAll(p, a, b, seen, 3)
		}
	}
	if !areSame(room, wholePlan) || !slices.Equal(seenRoom, wholeSeen) {
		t.Error(room, seenRoom)
	}
	if want := append(planP().Rows, behind, behind, behind); !areSameRows(outerRoom, want) {
		t.Error(outerRoom)
	}
}

// spoil writes over a list and what lies behind it.
func spoil[T any](l []T, rest T) {
	room := l[:cap(l)]
	for i := range room {
		room[i] = rest
	}
}

// isNew checks that a list shares no memory with that of an equal call, and
// that nothing of it is kept.
func isNew[T comparable](t *testing.T, name string, call func() []T, rest T) {
	t.Helper()
	one, two := call(), call()
	want := slices.Clone(two)
	spoil(one, rest)
	if three := call(); len(want) == 0 || !slices.Equal(two, want) || !slices.Equal(three, want) {
		t.Error(name, one, two, three)
	}
}

// R4, R5: lists share no memory with each other or with an argument, and
// nothing of them is kept.
func TestListsAreNew(t *testing.T) {
	p, seen := planQ(), list(1)
	isNew(t, "See", func() []int { l, _ := atlas.See(p, darker(1)); return l }, 77)
	isNew(t, "Cases", func() []api.AtlasCase { l, _ := atlas.Cases(p, seen); return l }, darker(77))
	for i := range 4 {
		isNew(t, "row", func() []int { made, _ := atlas.Make(20); return made.Rows[i] }, 77)
	}
	isNew(t, "number of rows", func() []int {
		made, _ := atlas.Make(20)
		n := len(made.Rows)
		spoil(made.Rows, nil)
		return list(n)
	}, 77)
	if !areSame(p, planQ()) || !slices.Equal(seen, list(1)) {
		t.Error(p, seen)
	}
}

// R5: the rows of one plan share no memory with each other.
func TestRowsOfPlan(t *testing.T) {
	for chips := 3; chips <= mostChips; chips++ {
		want, _ := atlas.Make(chips)
		for changed := range want.Rows {
			p, e := atlas.Make(chips)
			if e != api.OK {
				t.Fatal(chips, p, e)
			}
			spoil(p.Rows[changed], 77)
			for i, row := range p.Rows {
				if i != changed && !slices.Equal(row, want.Rows[i]) {
					t.Error(chips, changed, i, row)
				}
			}
		}
	}
}

// result is what all functions return for a plan.
type result struct {
	seen  []int
	cases []api.AtlasCase
	a, b  api.AtlasCase
	made  api.AtlasPlan
	n     [2]int
	e     [7]api.Errno
}

func results(p api.AtlasPlan, c api.AtlasCase, seen []int) (r result) {
	r.seen, r.e[0] = atlas.See(p, c)
	r.cases, r.e[1] = atlas.Cases(p, seen)
	r.a, r.b, r.e[2] = atlas.Clash(p)
	r.made, r.e[3] = atlas.Make(p.Chips)
	r.n[0], r.e[4] = atlas.Most(len(p.Rows))
	r.n[1], r.e[5] = atlas.Fewest(p.Chips)
	r.e[6] = atlas.CheckClash(p, c, r.b)
	return r
}

func (r result) equals(other result) bool {
	return slices.Equal(r.seen, other.seen) && slices.Equal(r.cases, other.cases) && r.a == other.a && r.b == other.b &&
		areSame(r.made, other.made) && r.n == other.n && r.e == other.e
}

// R4, R10: equal calls return equal results, whatever is called in between.
func TestEqualCalls(t *testing.T) {
	chance := rand.New(rand.NewSource(61))
	var again []func() bool
	for _, p := range somePlans(t, chance) {
		all := casesOf(p.Chips)
		c := all[chance.Intn(len(all))]
		seen := mustSee(t, p, c)
		first := results(p, c, seen)
		again = append(again, func() bool { return results(copied(p), c, slices.Clone(seen)).equals(first) })
	}
	slices.Reverse(again)
	for i, equal := range again {
		if !equal() {
			t.Error(i)
		}
	}
}

// R3: nil and empty lists are the same.
func TestNilAndEmpty(t *testing.T) {
	for _, l := range [][][]int{nil, {}} {
		p := api.AtlasPlan{Chips: 1, Rows: l}
		if s, e := atlas.See(p, darker(0)); len(s) != 0 || e != api.OK {
			t.Error(s, e)
		}
		for _, seen := range rows(nil, list()) {
			if found, e := atlas.Cases(p, seen); !slices.Equal(found, casesOf(1)) || e != api.OK {
				t.Error(found, e)
			}
		}
		if tells(t, p) {
			t.Error(p)
		}
	}
	for _, row := range rows(nil, list()) {
		if e := atlas.CheckPlan(planOf(1, row)); e != api.ErrEqual {
			t.Error(row, e)
		}
		if found, e := atlas.Cases(planP(), row); len(found) != 0 || e != api.ErrEqual {
			t.Error(row, found, e)
		}
	}
}

// P1: all functions end, and do not panic, for all arguments.
func TestAnyNumber(t *testing.T) {
	numbers := list(math.MinInt, math.MinInt+1, -1<<32, -2, -1, 0, 1, 2, 3, 4, 38, 39, 40, 1<<32, 1<<62, math.MaxInt)
	for _, a := range numbers {
		for _, b := range numbers {
			c := api.AtlasCase{Chip: a, Shade: b}
			for _, p := range []api.AtlasPlan{planP(), planOf(a), planOf(b, list(0, -1, 1)), planOf(3, list(a, b, 0)), planOf(2, list(a, b), list(b, a))} {
				callAll(p, c, darker(a), list(a, b), a)
				callAll(p, lighter(b), c, list(b), b)
				callAll(p, none(), c, nil, b)
			}
		}
	}
}

// P1: lists of all lengths.
func TestAnyLength(t *testing.T) {
	for _, n := range list(0, 1, 2, 3, 4, 5, 38, 39, 40, 1<<20) {
		for _, m := range list(0, 1, 2, 3, 4, 5, 1<<20) {
			for _, chips := range list(n, m, 1, 3) {
				row := make([]int, n)
				callAll(planOf(chips, slices.Repeat(rows(row), m)...), none(), darker(0), row, n)
				callAll(planOf(chips, row, list(0)), darker(n-1), none(), make([]int, m), m)
			}
			callAll(planP(), darker(n), lighter(m), make([]int, n), m)
		}
	}
}
