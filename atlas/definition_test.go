package atlas_test

// What the chapter defines, written down once more in the plainest way, and
// compared with the functions on all small plans, and on some great ones.

import (
	"iter"
	"math/rand"
	"slices"
	"testing"

	"lampblack/api"
	"lampblack/atlas"
)

// allLists yields all lists of so many numbers, from one to another one.
func allLists(n, from, to int) iter.Seq[[]int] {
	return func(yield func([]int) bool) {
		l := slices.Repeat(list(from), n)
		for yield(slices.Clone(l)) {
			i := n - 1
			for ; i >= 0 && l[i] == to; i-- {
				l[i] = from
			}
			if i < 0 {
				return
			}
			l[i]++
		}
	}
}

func count(l []int, n int) int {
	found := 0
	for _, m := range l {
		if m == n {
			found++
		}
	}
	return found
}

func isBalanced(row []int) bool { return count(row, -1) == count(row, 1) }

func areSeen(l []int) bool { return count(l, -1)+count(l, 0)+count(l, 1) == len(l) }

// every reports whether something is true of all rows.
func every(l [][]int, is func([]int) bool) bool {
	for _, row := range l {
		if !is(row) {
			return false
		}
	}
	return true
}

// errorOf returns the error of a plan.
func errorOf(p api.AtlasPlan) api.Errno {
	switch {
	case len(p.Rows) > 4:
		return api.ErrMany
	case p.Chips < 1 || p.Chips > 39:
		return api.ErrArg
	case !every(p.Rows, func(row []int) bool { return len(row) == p.Chips }):
		return api.ErrEqual
	case !every(p.Rows, areSeen):
		return api.ErrRange
	case !every(p.Rows, isBalanced):
		return api.ErrRule
	}
	return api.OK
}

// P5.1 for all plans with up to two rows of up to three numbers from -2 to 2.
func TestAllSmallChecks(t *testing.T) {
	var all [][]int
	for n := range 4 {
		all = slices.AppendSeq(all, allLists(n, -2, 2))
	}
	for chips := -1; chips <= 4; chips++ {
		for _, one := range all {
			if p := planOf(chips, one); atlas.CheckPlan(p) != errorOf(p) {
				t.Fatal(p, atlas.CheckPlan(p))
			}
			for _, two := range all {
				if p := planOf(chips, one, two); atlas.CheckPlan(p) != errorOf(p) {
					t.Fatal(p, atlas.CheckPlan(p))
				}
			}
		}
	}
}

// casesOf returns all cases of so many chips in order.
func casesOf(chips int) []api.AtlasCase {
	l := cases(none())
	for chip := range chips {
		l = append(l, lighter(chip), darker(chip))
	}
	return l
}

func seenIn(p api.AtlasPlan, c api.AtlasCase) []int {
	var l []int
	for _, row := range p.Rows {
		l = append(l, c.Shade*row[c.Chip])
	}
	return l
}

func mustCases(t *testing.T, p api.AtlasPlan, seen []int) []api.AtlasCase {
	t.Helper()
	l, e := atlas.Cases(p, seen)
	if e != api.OK {
		t.Fatal(p, seen, l, e)
	}
	return l
}

func mustSee(t *testing.T, p api.AtlasPlan, c api.AtlasCase) []int {
	t.Helper()
	l, e := atlas.See(p, c)
	if e != api.OK || len(l) != len(p.Rows) {
		t.Fatal(p, c, l, e)
	}
	return l
}

// judge compares all functions with a plan with the definitions; it returns
// whether the plan tells all.
func judge(t *testing.T, p api.AtlasPlan) bool {
	t.Helper()
	all, told := casesOf(p.Chips), true
	for _, a := range all {
		if !slices.Equal(mustSee(t, p, a), seenIn(p, a)) {
			t.Fatal(p, a, mustSee(t, p, a))
		}
		for _, b := range all {
			want := api.ErrSum
			if a != b && slices.Equal(seenIn(p, a), seenIn(p, b)) {
				want, told = api.OK, false
			}
			if e := atlas.CheckClash(p, a, b); e != want {
				t.Fatal(p, a, b, e)
			}
		}
	}
	for seen := range allLists(len(p.Rows), -1, 1) {
		want := slices.DeleteFunc(slices.Clone(all), func(c api.AtlasCase) bool { return !slices.Equal(seenIn(p, c), seen) })
		if l := mustCases(t, p, seen); !slices.Equal(l, want) {
			t.Fatal(p, seen, l, want)
		}
	}
	if tells(t, p) != told {
		t.Fatal(p, told)
	}
	return told
}

// allPlans yields all valid plans with so many chips and rows.
func allPlans(chips, n int) iter.Seq[api.AtlasPlan] {
	balanced := slices.DeleteFunc(slices.Collect(allLists(chips, -1, 1)), func(row []int) bool { return !isBalanced(row) })
	return func(yield func(api.AtlasPlan) bool) {
		for which := range allLists(n, 0, len(balanced)-1) {
			p := planOf(chips)
			for _, i := range which {
				p.Rows = append(p.Rows, balanced[i])
			}
			if !yield(p) {
				return
			}
		}
	}
}

// P5.2 to P5.5, P5.8 for all plans with few chips. With up to 2 rows any more
// chips have more cases than can be seen.
func TestAllSmallPlans(t *testing.T) {
	for n, sizes := range list(5, 7, 5, 4, 3) {
		greatest := 0
		for chips := range sizes {
			can := false
			for p := range allPlans(chips+1, n) {
				can = judge(t, p) || can
			}
			if can {
				greatest = chips + 1
			}
			fewest, e := atlas.Fewest(chips + 1)
			if want := e == api.OK && fewest <= n; can != want {
				t.Error(n, chips+1, can, fewest, e)
			}
		}
		if most, e := atlas.Most(n); most < greatest || n <= 2 && most > greatest || e != api.OK {
			t.Error(n, most, greatest, e)
		}
	}
}

// P5.5: 13 chips cannot be told by 3 comparisons. All 13 pairs of what can be
// seen would be taken, with one sign each; no signs put as many chips on the
// left as on the right. More chips have more cases than can be seen.
func TestThirteen(t *testing.T) {
	var codes [][]int
	for c := range allLists(3, -1, 1) {
		if slices.Compare(c, list(0, 0, 0)) > 0 {
			codes = append(codes, c)
		}
	}
	for signs := range 1 << 13 {
		p := planOf(13, nil, nil, nil)
		for chip, c := range codes {
			for i, n := range c {
				p.Rows[i] = append(p.Rows[i], n*(1-2*(signs>>chip&1)))
			}
		}
		if e := atlas.CheckPlan(p); len(codes) != 13 || e != api.ErrRule {
			t.Fatal(p, e)
		}
	}
	if n, e := atlas.Fewest(13); n != 4 || e != api.OK {
		t.Error(n, e)
	}
	if n, e := atlas.Most(3); n != 12 || e != api.OK {
		t.Error(n, e)
	}
}

// someRow returns a row of so many chips with as many on the left as on the
// right.
func someRow(chance *rand.Rand, chips int) []int {
	row := make([]int, chips)
	for i := range chance.Intn(chips/2 + 1) {
		row[2*i], row[2*i+1] = -1, 1
	}
	chance.Shuffle(chips, func(i, j int) { row[i], row[j] = row[j], row[i] })
	return row
}

func somePlan(chance *rand.Rand, chips, n int) api.AtlasPlan {
	p := planOf(chips)
	for range n {
		p.Rows = append(p.Rows, someRow(chance, chips))
	}
	return p
}

// shuffled returns a plan with the chips in other places: at each one lies the
// chip that lay at the place listed for it.
func shuffled(p api.AtlasPlan, places []int) api.AtlasPlan {
	other := planOf(p.Chips)
	for _, row := range p.Rows {
		var l []int
		for _, place := range places {
			l = append(l, row[place])
		}
		other.Rows = append(other.Rows, l)
	}
	return other
}

// exchanged returns a plan with both sides of a comparison exchanged.
func exchanged(p api.AtlasPlan, comparison int) api.AtlasPlan {
	other := copied(p)
	for chip := range other.Rows[comparison] {
		other.Rows[comparison][chip] *= -1
	}
	return other
}

func copied(p api.AtlasPlan) api.AtlasPlan {
	other := planOf(p.Chips)
	for _, row := range p.Rows {
		other.Rows = append(other.Rows, slices.Clone(row))
	}
	return other
}

// someTelling returns a plan that tells all.
func someTelling(t *testing.T, chance *rand.Rand, chips int) api.AtlasPlan {
	t.Helper()
	p, e := atlas.Make(chips)
	if e != api.OK {
		t.Fatal(chips, p, e)
	}
	return exchanged(shuffled(p, chance.Perm(chips)), chance.Intn(len(p.Rows)))
}

// P5.2 to P5.4 for plans of all sizes; those that tell all are spoilt, too.
func TestSomePlans(t *testing.T) {
	chance := rand.New(rand.NewSource(51))
	for range 100 {
		judge(t, somePlan(chance, 1+chance.Intn(mostChips), chance.Intn(mostRows+1)))
	}
	for chips := 3; chips <= mostChips; chips++ {
		p := someTelling(t, chance, chips)
		if !judge(t, p) {
			t.Error(p)
		}
		p.Rows[chance.Intn(len(p.Rows))] = someRow(chance, chips)
		judge(t, p)
		p.Rows = p.Rows[1:]
		if judge(t, p) {
			t.Error(p)
		}
	}
}
