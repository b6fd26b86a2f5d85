package zone_test

// What the chapter defines, written down once more in the plainest way, and
// compared with the functions on all small lamps and many great ones.

import (
	"iter"
	"math/rand"
	"slices"
	"testing"

	"lampblack/api"
	"lampblack/zone"
)

// isTrue reports whether a lantern with a light for each degree is true.
func isTrue(l api.ZoneLamp, lantern []int64) bool {
	for i, a := range l.Angles {
		light := lantern[a-l.Angles[0]]
		if light < l.Lights[i].Lo || light > l.Lights[i].Hi {
			return false
		}
	}
	return keepsRules(l, lantern)
}

func keepsRules(l api.ZoneLamp, lantern []int64) bool {
	for i, fall := range l.Falls {
		for a := l.Angles[i]; a < l.Angles[i+1]; a++ {
			at, next := lantern[a-l.Angles[0]], lantern[a+1-l.Angles[0]]
			if fall && next > at || !fall && next < at {
				return false
			}
		}
	}
	return true
}

// allLanterns yields all lists of lights up to a number, true or not.
func allLanterns(degrees int, most int64) iter.Seq[[]int64] {
	return func(yield func([]int64) bool) {
		l := make([]int64, degrees)
		for yield(l) {
			i := degrees - 1
			for ; i >= 0 && l[i] == most; i-- {
				l[i] = 0
			}
			if i < 0 {
				return
			}
			l[i]++
		}
	}
}

// trueLanterns returns all lanterns that are true for a lamp with lights up to
// a number.
func trueLanterns(l api.ZoneLamp, most int64) [][]int64 {
	var found [][]int64
	for lantern := range allLanterns(len(l.Weights), most) {
		if isTrue(l, lantern) {
			found = append(found, slices.Clone(lantern))
		}
	}
	return found
}

func weigh(l api.ZoneLamp, lantern []int64, keep int64) int64 {
	sum := int64(0)
	for i, w := range l.Weights {
		sum += w * (lantern[i] * keep / 1000)
	}
	return sum
}

// span returns the least and the greatest number of lanterns, at least one.
func span(lanterns [][]int64, number func([]int64) int64) api.Range {
	first := number(lanterns[0])
	r := rg(first, first)
	for _, x := range lanterns {
		r.Lo, r.Hi = min(r.Lo, number(x)), max(r.Hi, number(x))
	}
	return r
}

// width returns how wide a test makes the flux at worst, over all numbers that
// it can tell.
func width(l api.ZoneLamp, lanterns [][]int64, i int, off, most int64) int64 {
	worst := int64(-1)
	for m := -off - 1; m <= most+1; m++ {
		var after [][]int64
		for _, x := range lanterns {
			if m <= x[i] && x[i] <= m+off {
				after = append(after, x)
			}
		}
		if len(after) > 0 {
			r := span(after, func(x []int64) int64 { return weigh(l, x, 1000) })
			worst = max(worst, r.Hi-r.Lo)
		}
	}
	return worst
}

// next returns what Next has to return, by the definition.
func next(l api.ZoneLamp, lanterns [][]int64, off, most int64) (int64, int64) {
	degree, narrowest := int64(-1), int64(-1)
	for i := range l.Weights {
		w := width(l, lanterns, i, off, most)
		if degree < 0 || w < narrowest {
			degree, narrowest = l.Angles[0]+int64(i), w
		}
	}
	return degree, narrowest
}

// isDoubt reports whether two indexes, the first one less, are a contradiction.
func isDoubt(l api.ZoneLamp, i, k int) bool {
	between := l.Falls[i:k]
	if !slices.Contains(between, false) {
		return l.Lights[i].Hi < l.Lights[k].Lo
	}
	return !slices.Contains(between, true) && l.Lights[i].Lo > l.Lights[k].Hi
}

// judgeDoubt compares Doubt and CheckDoubt with the definition.
func judgeDoubt(t *testing.T, l api.ZoneLamp, clash bool) {
	t.Helper()
	some := false
	for i := range l.Angles {
		for k := i + 1; k < len(l.Angles); k++ {
			want := api.ErrSum
			if isDoubt(l, i, k) {
				want, some = api.OK, true
			}
			if e := zone.CheckDoubt(l, i, k); e != want {
				t.Fatal(l, i, k, e)
			}
		}
	}
	if some != clash {
		t.Fatal(l, some, clash)
	}
	i, k, e := zone.Doubt(l)
	if clash && (e != api.OK || i < 0 || i >= k || k >= len(l.Angles) || !isDoubt(l, i, k)) {
		t.Fatal(l, i, k, e)
	}
	if !clash && (i != 0 || k != 0 || e != api.ErrNone) {
		t.Fatal(l, i, k, e)
	}
}

// judgeClash checks what functions return for a lamp that contradicts itself.
func judgeClash(t *testing.T, l api.ZoneLamp) {
	t.Helper()
	judgeDoubt(t, l, true)
	checkSpans(t, l, api.ErrClash)
	if r, e := zone.At(l, l.Angles[0]); r != rg(0, 0) || e != api.ErrClash {
		t.Fatal(l, r, e)
	}
	if r, e := zone.Coated(l, rg(0, 1000)); r != rg(0, 0) || e != api.ErrClash {
		t.Fatal(l, r, e)
	}
	if d, w, e := zone.Next(l, 0); d != 0 || w != 0 || e != api.ErrClash {
		t.Fatal(l, d, w, e)
	}
}

// judgeEnds checks that both lanterns of End are true, and have the ends of a
// span.
func judgeEnds(t *testing.T, l api.ZoneLamp, want api.Range) {
	t.Helper()
	if r, e := zone.Span(l); r != want || e != api.OK {
		t.Fatal(l, r, want, e)
	}
	for _, high := range falls(false, true) {
		end := want.Lo
		if high {
			end = want.Hi
		}
		lantern, e := zone.End(l, high)
		if e != api.OK || len(lantern) != len(l.Weights) || !isTrue(l, lantern) || weigh(l, lantern, 1000) != end {
			t.Fatal(l, high, lantern, e)
		}
	}
}

// judge compares all functions with the definitions, for a valid lamp with
// lights up to a number, by all its lanterns.
func judge(t *testing.T, l api.ZoneLamp, most int64) {
	t.Helper()
	lanterns := trueLanterns(l, most)
	if len(lanterns) == 0 {
		judgeClash(t, l)
		return
	}
	judgeDoubt(t, l, false)
	judgeEnds(t, l, span(lanterns, func(x []int64) int64 { return weigh(l, x, 1000) }))
	for i := range l.Weights {
		want := span(lanterns, func(x []int64) int64 { return x[i] })
		if r, e := zone.At(l, l.Angles[0]+int64(i)); r != want || e != api.OK {
			t.Fatal(l, i, r, want, e)
		}
	}
	for _, keep := range ranges(0, 1000, 333, 750, 500, 500, 999, 999) {
		want := span(lanterns, func(x []int64) int64 { return weigh(l, x, keep.Lo) })
		for share := keep.Lo; share <= keep.Hi; share += max(1, (keep.Hi-keep.Lo)/4) {
			r := span(lanterns, func(x []int64) int64 { return weigh(l, x, share) })
			want = rg(min(want.Lo, r.Lo), max(want.Hi, r.Hi))
		}
		want.Hi = max(want.Hi, span(lanterns, func(x []int64) int64 { return weigh(l, x, keep.Hi) }).Hi)
		if r, e := zone.Coated(l, keep); r != want || e != api.OK {
			t.Fatal(l, keep, r, want, e)
		}
	}
	for off := range most + 2 {
		degree, narrowest := next(l, lanterns, off, most)
		if d, w, e := zone.Next(l, off); d != degree || w != narrowest || e != api.OK {
			t.Fatal(l, off, d, w, degree, narrowest, e)
		}
	}
}

// judgeLanterns compares CheckTrue and Flux with the definitions, for all lists
// of lights up to a number.
func judgeLanterns(t *testing.T, l api.ZoneLamp, most int64) {
	t.Helper()
	for lantern := range allLanterns(len(l.Weights), most) {
		want, flux := api.OK, weigh(l, lantern, 1000)
		if !isTrue(l, lantern) {
			want, flux = api.ErrRule, 0
		}
		for i, a := range l.Angles {
			if light := lantern[a-l.Angles[0]]; light < l.Lights[i].Lo || light > l.Lights[i].Hi {
				want = api.ErrRange
			}
		}
		if e := zone.CheckTrue(l, lantern); e != want {
			t.Fatal(l, lantern, e, want)
		}
		if n, e := zone.Flux(l, lantern); n != flux || e != want {
			t.Fatal(l, lantern, n, flux, e)
		}
	}
}

// smallRanges returns all valid ranges with ends from 0 to a number.
func smallRanges(most int64) []api.Range {
	var l []api.Range
	for lo := range most + 1 {
		for hi := lo; hi <= most; hi++ {
			l = append(l, rg(lo, hi))
		}
	}
	return l
}

// P3.1 to P3.7 for all lamps with three angles and lights up to 2.
func TestAllSmallLamps(t *testing.T) {
	small := smallRanges(2)
	for turn := range 4 {
		for i, first := range small {
			for j, second := range small {
				for k, third := range small {
					l := api.ZoneLamp{
						Angles:  list(7, 9, 10),
						Lights:  []api.Range{first, second, third},
						Falls:   falls(turn&1 == 0, turn&2 == 0),
						Weights: list(1, int64(i)%4, int64(j)%3*10, int64(k)%5),
					}
					judge(t, l, 2)
					judgeLanterns(t, l, 2)
				}
			}
		}
	}
}

// someLamp returns a lamp with so many angles and degrees at the most, and with
// lights up to a number; often it contradicts itself.
func someLamp(chance *rand.Rand, angles, degrees int, most int64) api.ZoneLamp {
	var l api.ZoneLamp
	first := chance.Intn(mostTurn + 2 - degrees)
	for i, d := range chance.Perm(degrees)[:2+chance.Intn(angles-1)] {
		l.Angles = append(l.Angles, int64(first+d))
		lo := chance.Int63n(most + 1)
		l.Lights = append(l.Lights, rg(lo, lo+chance.Int63n(most-lo+1)))
		if i > 0 {
			l.Falls = append(l.Falls, chance.Intn(2) == 0)
		}
	}
	slices.Sort(l.Angles)
	greatest := []int64{1, 3, mostWeight}[chance.Intn(3)]
	for range l.Angles[len(l.Angles)-1] - l.Angles[0] + 1 {
		l.Weights = append(l.Weights, chance.Int63n(greatest+1))
	}
	return l
}

// someTrueLamp returns a lamp like someLamp that does not contradict itself,
// and a lantern that is true for it.
func someTrueLamp(chance *rand.Rand, angles, degrees int, most int64) (api.ZoneLamp, []int64) {
	l := someLamp(chance, angles, degrees, most)
	lantern := []int64{chance.Int63n(most + 1)}
	for i, fall := range l.Falls {
		for range l.Angles[i+1] - l.Angles[i] {
			at := lantern[len(lantern)-1]
			step := chance.Int63n(most/8 + 2)
			if fall {
				step = -step
			}
			lantern = append(lantern, min(max(at+step, 0), most))
		}
	}
	wide := 1 + most/int64(1+chance.Intn(6))
	for i, a := range l.Angles {
		light := lantern[a-l.Angles[0]]
		l.Lights[i] = rg(max(light-chance.Int63n(wide), 0), min(light+chance.Int63n(wide), most))
	}
	return l, lantern
}

// P3.1 to P3.7 for lamps by all their lanterns.
func TestSomeSmallLamps(t *testing.T) {
	chance := rand.New(rand.NewSource(31))
	for range 700 {
		judge(t, someLamp(chance, 5, 5, 3), 3)
		l, lantern := someTrueLamp(chance, 6, 6, 3)
		if n, e := zone.Flux(l, lantern); n != weigh(l, lantern, 1000) || e != api.OK {
			t.Fatal(l, lantern, n, e)
		}
		judge(t, l, 3)
	}
}

// best has the least and the greatest flux so far of lanterns that come to a
// light; ok is false if there is none.
type best struct {
	least, most int64
	ok          bool
}

func (b best) or(other best) best {
	if !b.ok {
		return other
	}
	if !other.ok {
		return b
	}
	return best{min(b.least, other.least), max(b.most, other.most), true}
}

// extremes returns the least and the greatest flux of all true lanterns with
// the light at an index from m to m + off, light by light and degree by degree.
func extremes(l api.ZoneLamp, index int, m, off int64) best {
	at := make([]best, mostLight+1)
	for light := range at {
		at[light].ok = true
	}
	gap := 0
	for d, w := range l.Weights {
		if d > 0 {
			if int64(d) > l.Angles[gap+1]-l.Angles[0] {
				gap++
			}
			at = stepped(at, l.Falls[gap])
		}
		for light := range at {
			n := int64(light)
			at[light].least += n * w
			at[light].most += n * w
			if d == index && (n < m || n > m+off) {
				at[light] = best{}
			}
			if i := slices.Index(l.Angles, l.Angles[0]+int64(d)); i >= 0 && (n < l.Lights[i].Lo || n > l.Lights[i].Hi) {
				at[light] = best{}
			}
		}
	}
	var all best
	for _, b := range at {
		all = all.or(b)
	}
	return all
}

// stepped returns what is known of lanterns at the next degree.
func stepped(at []best, fall bool) []best {
	after := make([]best, len(at))
	var all best
	for i := range at {
		light := i
		if fall {
			light = len(at) - 1 - i
		}
		all = all.or(at[light])
		after[light] = all
	}
	return after
}

// P3.3 to P3.5 for great lamps.
func TestGreatLamps(t *testing.T) {
	chance := rand.New(rand.NewSource(32))
	clashes := 0
	for n := range 300 {
		l, _ := someTrueLamp(chance, 10, 91, mostLight)
		if n%2 == 0 {
			l = someLamp(chance, 2+n%9, 91, mostLight)
		}
		all := extremes(l, -1, 0, 0)
		if !all.ok {
			clashes++
			judgeClash(t, l)
			continue
		}
		judgeDoubt(t, l, false)
		judgeEnds(t, l, rg(all.least, all.most))
		// With these weights the flux is the light at a degree.
		i := chance.Intn(len(l.Weights))
		one := copied(l)
		clear(one.Weights)
		one.Weights[i] = 1
		want := extremes(one, -1, 0, 0)
		if r, e := zone.At(l, l.Angles[0]+int64(i)); r != rg(want.least, want.most) || e != api.OK {
			t.Fatal(l, i, r, want, e)
		}
	}
	if clashes < 50 || clashes > 140 {
		t.Error(clashes)
	}
}

// judgeNext compares Next with the definition, over all numbers that a test
// can tell.
func judgeNext(t *testing.T, l api.ZoneLamp, off, most int64) {
	t.Helper()
	degree, narrowest := int64(-1), int64(-1)
	for i := range l.Weights {
		worst := int64(-1)
		for m := -off; m <= most; m++ {
			if b := extremes(l, i, m, off); b.ok {
				worst = max(worst, b.most-b.least)
			}
		}
		if degree < 0 || worst < narrowest {
			degree, narrowest = l.Angles[0]+int64(i), worst
		}
	}
	if d, w, e := zone.Next(l, off); d != degree || w != narrowest || e != api.OK {
		t.Fatal(l, off, d, w, degree, narrowest, e)
	}
}

// P3.7 for great lamps.
func TestGreatNext(t *testing.T) {
	chance := rand.New(rand.NewSource(33))
	for range 12 {
		l, _ := someTrueLamp(chance, 10, 14, 25)
		judgeNext(t, l, chance.Int63n(12), 25)
	}
	l, _ := someTrueLamp(chance, 10, 30, mostLight)
	judgeNext(t, l, 150, mostLight)
}
