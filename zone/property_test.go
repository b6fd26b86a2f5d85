package zone_test

import (
	"math/rand"
	"slices"
	"testing"

	"lampblack/api"
	"lampblack/zone"
)

func contains(r api.Range, n int64) bool { return r.Lo <= n && n <= r.Hi }

func isWithin(inner, outer api.Range) bool {
	return contains(outer, inner.Lo) && contains(outer, inner.Hi)
}

func mustSpan(t *testing.T, l api.ZoneLamp) api.Range {
	t.Helper()
	r, e := zone.Span(l)
	if e != api.OK || r.Lo > r.Hi {
		t.Fatal(l, r, e)
	}
	return r
}

// mustLights returns what At returns for each degree.
func mustLights(t *testing.T, l api.ZoneLamp) []api.Range {
	t.Helper()
	var lights []api.Range
	for d := l.Angles[0]; d <= l.Angles[len(l.Angles)-1]; d++ {
		r, e := zone.At(l, d)
		if e != api.OK || r.Lo > r.Hi {
			t.Fatal(l, d, r, e)
		}
		lights = append(lights, r)
	}
	return lights
}

func mustCoated(t *testing.T, l api.ZoneLamp, keep api.Range) api.Range {
	t.Helper()
	r, e := zone.Coated(l, keep)
	if e != api.OK || r.Lo > r.Hi {
		t.Fatal(l, keep, r, e)
	}
	return r
}

// mixed returns for each degree the greater or the lesser one of two lights.
func mixed(one, two []int64, greater bool) []int64 {
	var lights []int64
	for i := range one {
		if greater {
			lights = append(lights, max(one[i], two[i]))
		} else {
			lights = append(lights, min(one[i], two[i]))
		}
	}
	return lights
}

// someLanterns returns lanterns that are true for a lamp, of which one is known:
// its ends, and what they are if they are mixed with it.
func someLanterns(t *testing.T, l api.ZoneLamp, known []int64) [][]int64 {
	t.Helper()
	low, e := zone.End(l, false)
	high, f := zone.End(l, true)
	if e != api.OK || f != api.OK {
		t.Fatal(l, e, f)
	}
	lanterns := [][]int64{low, high, known}
	for _, one := range [][]int64{low, high} {
		lanterns = append(lanterns, mixed(one, known, true), mixed(one, known, false))
	}
	for share := int64(1); share < 4; share++ {
		var between []int64
		for i := range low {
			between = append(between, low[i]+(high[i]-low[i])*share/4)
		}
		lanterns = append(lanterns, between)
	}
	return lanterns
}

// P3.8: what is true is in the span, and in what At returns; the ends are reached.
func TestHeld(t *testing.T) {
	chance := rand.New(rand.NewSource(41))
	for range 400 {
		l, known := someTrueLamp(chance, 10, 91, mostLight)
		span, lights := mustSpan(t, l), mustLights(t, l)
		reached := slices.Repeat([]api.Range{rg(mostLight, 0)}, len(lights))
		fluxes := rg(1<<40, 0)
		for _, lantern := range someLanterns(t, l, known) {
			n, e := zone.Flux(l, lantern)
			if e != api.OK || !contains(span, n) {
				t.Fatal(l, lantern, n, span, e)
			}
			fluxes = rg(min(fluxes.Lo, n), max(fluxes.Hi, n))
			for i, light := range lantern {
				if !contains(lights[i], light) {
					t.Fatal(l, lantern, i, lights[i])
				}
				reached[i] = rg(min(reached[i].Lo, light), max(reached[i].Hi, light))
			}
		}
		if fluxes != span {
			t.Fatal(l, fluxes, span)
		}
		// Where a weight is 0 an end of the flux may leave a light as it likes.
		for i, w := range l.Weights {
			if w > 0 && reached[i] != lights[i] {
				t.Fatal(l, i, reached[i], lights[i])
			}
		}
	}
}

// P3.9: either there is a true lantern or a contradiction.
func TestEither(t *testing.T) {
	chance := rand.New(rand.NewSource(42))
	doubts := 0
	for n := range 4000 {
		l := someLamp(chance, 2+n%9, 91, mostLight)
		i, k, e := zone.Doubt(l)
		lantern, f := zone.End(l, n%2 == 0)
		if e == api.OK {
			doubts++
			if x := zone.CheckDoubt(l, i, k); x != api.OK || f != api.ErrClash {
				t.Fatal(l, i, k, x, f)
			}
			continue
		}
		if e != api.ErrNone || f != api.OK || zone.CheckTrue(l, lantern) != api.OK {
			t.Fatal(l, e, f, lantern)
		}
		for i := range l.Angles {
			for k := range l.Angles[i+1:] {
				if x := zone.CheckDoubt(l, i, i+1+k); x != api.ErrSum {
					t.Fatal(l, i, k, x)
				}
			}
		}
	}
	if doubts < 1000 || doubts > 3000 {
		t.Error(doubts)
	}
}

// narrowed returns a lamp with one range that is narrower, or as it was.
func narrowed(chance *rand.Rand, l api.ZoneLamp) api.ZoneLamp {
	l = copied(l)
	i := chance.Intn(len(l.Lights))
	r := l.Lights[i]
	lo := r.Lo + chance.Int63n(r.Hi-r.Lo+1)
	l.Lights[i] = rg(lo, lo+chance.Int63n(r.Hi-lo+1))
	return l
}

// P3.10: with a narrower range nothing becomes wider.
func TestNarrower(t *testing.T) {
	chance := rand.New(rand.NewSource(43))
	clashes, less := 0, 0
	for n := range 3000 {
		l := someLamp(chance, 3, 20, mostLight)
		if n%2 == 0 {
			l, _ = someTrueLamp(chance, 10, 40, mostLight)
		}
		inner := narrowed(chance, l)
		_, _, e := zone.Doubt(l)
		_, _, f := zone.Doubt(inner)
		if f == api.OK {
			clashes++
			continue
		}
		if e == api.OK {
			t.Fatal(l, inner)
		}
		one, two := mustSpan(t, l), mustSpan(t, inner)
		if !isWithin(two, one) {
			t.Fatal(l, inner, one, two)
		}
		if one != two {
			less++
		}
		lights := mustLights(t, l)
		for i, r := range mustLights(t, inner) {
			if !isWithin(r, lights[i]) {
				t.Fatal(l, inner, i, r, lights[i])
			}
		}
		keep := rg(300, 800)
		if !isWithin(mustCoated(t, inner, keep), mustCoated(t, l, keep)) {
			t.Fatal(l, inner)
		}
	}
	if clashes < 500 || less < 500 {
		t.Error(clashes, less)
	}
}

// withAngle returns a lamp with one angle more, and a range there.
func withAngle(l api.ZoneLamp, degree int64, r api.Range) api.ZoneLamp {
	l = copied(l)
	i, _ := slices.BinarySearch(l.Angles, degree)
	l.Angles = slices.Insert(l.Angles, i, degree)
	l.Lights = slices.Insert(l.Lights, i, r)
	l.Falls = slices.Insert(l.Falls, i, l.Falls[i-1])
	return l
}

// P3.10: one angle more, of which nothing new is known, changes nothing.
func TestOneAngleMore(t *testing.T) {
	chance := rand.New(rand.NewSource(44))
	done := 0
	for range 400 {
		l, _ := someTrueLamp(chance, 9, 30, mostLight)
		degree := l.Angles[0] + chance.Int63n(int64(len(l.Weights)))
		if slices.Contains(l.Angles, degree) {
			continue
		}
		done++
		r, e := zone.At(l, degree)
		more := withAngle(l, degree, r)
		if e != api.OK || zone.CheckLamp(more) != api.OK {
			t.Fatal(l, more, e)
		}
		if mustSpan(t, l) != mustSpan(t, more) || !slices.Equal(mustLights(t, l), mustLights(t, more)) ||
			mustCoated(t, l, rg(1, 999)) != mustCoated(t, more, rg(1, 999)) {
			t.Fatal(l, more)
		}
		for _, off := range list(0, 9) {
			d1, w1, e1 := zone.Next(l, off)
			d2, w2, e2 := zone.Next(more, off)
			if d1 != d2 || w1 != w2 || e1 != api.OK || e2 != api.OK {
				t.Fatal(l, more, off, d1, w1, d2, w2)
			}
		}
	}
	if done < 200 {
		t.Error(done)
	}
}

// turned returns a lamp turned round.
func turned(l api.ZoneLamp) api.ZoneLamp {
	l = copied(l)
	for i, a := range l.Angles {
		l.Angles[i] = 90 - a
	}
	for i, fall := range l.Falls {
		l.Falls[i] = !fall
	}
	slices.Reverse(l.Angles)
	slices.Reverse(l.Lights)
	slices.Reverse(l.Falls)
	slices.Reverse(l.Weights)
	return l
}

// P3.11
func TestTurnedRound(t *testing.T) {
	chance := rand.New(rand.NewSource(45))
	for n := range 1500 {
		l := someLamp(chance, 4, 30, mostLight)
		if n%2 == 0 {
			l, _ = someTrueLamp(chance, 10, 91, mostLight)
		}
		other := turned(l)
		one, e := zone.Span(l)
		two, f := zone.Span(other)
		if one != two || e != f {
			t.Fatal(l, one, two, e, f)
		}
		if e != api.OK {
			continue
		}
		lights := mustLights(t, other)
		slices.Reverse(lights)
		if !slices.Equal(lights, mustLights(t, l)) || mustCoated(t, l, rg(100, 900)) != mustCoated(t, other, rg(100, 900)) {
			t.Fatal(l, other)
		}
	}
}

// P3.12: the span of a sum of weights, and of one weight alone.
func TestSums(t *testing.T) {
	chance := rand.New(rand.NewSource(46))
	for range 500 {
		l, _ := someTrueLamp(chance, 10, 91, mostLight)
		one, two, sum := copied(l), copied(l), copied(l)
		for i := range sum.Weights {
			a := chance.Int63n(mostWeight + 1)
			b := chance.Int63n(mostWeight - a + 1)
			one.Weights[i], two.Weights[i], sum.Weights[i] = a, b, a+b
		}
		a, b := mustSpan(t, one), mustSpan(t, two)
		if x := mustSpan(t, sum); x != rg(a.Lo+b.Lo, a.Hi+b.Hi) {
			t.Fatal(l, a, b, x)
		}
		for i, r := range mustLights(t, l) {
			clear(one.Weights)
			one.Weights[i] = 1
			if x := mustSpan(t, one); x != r {
				t.Fatal(l, i, r, x)
			}
		}
	}
}

// P3.13: the coated flux of all that is true is in what Coated returns, whose
// ends are reached.
func TestCoatedHolds(t *testing.T) {
	chance := rand.New(rand.NewSource(47))
	for range 400 {
		l, known := someTrueLamp(chance, 10, 91, mostLight)
		lo := chance.Int63n(1001)
		keep := rg(lo, lo+chance.Int63n(1001-lo))
		coated := mustCoated(t, l, keep)
		reached := rg(1<<40, 0)
		for _, lantern := range someLanterns(t, l, known) {
			for _, share := range list(keep.Lo, (keep.Lo+keep.Hi)/2, keep.Hi) {
				n := weigh(l, lantern, share)
				if !contains(coated, n) {
					t.Fatal(l, keep, share, lantern, n, coated)
				}
				reached = rg(min(reached.Lo, n), max(reached.Hi, n))
			}
		}
		if reached != coated || mustCoated(t, l, rg(1000, 1000)) != mustSpan(t, l) {
			t.Fatal(l, keep, reached, coated)
		}
	}
}

// P3.13: no test narrows the flux to more than the span is wide; one that tells
// less does not narrow it to less.
func TestNextIsNoWider(t *testing.T) {
	chance := rand.New(rand.NewSource(48))
	narrower := 0
	for range 60 {
		l, _ := someTrueLamp(chance, 8, 30, 40)
		r, before := mustSpan(t, l), int64(0)
		for _, off := range list(0, 1, 2, 5, 12, 39, 40, mostLight) {
			d, w, e := zone.Next(l, off)
			if e != api.OK || w < before || w > r.Hi-r.Lo || d < l.Angles[0] || d > l.Angles[len(l.Angles)-1] {
				t.Fatal(l, off, d, w, r, e)
			}
			if w < r.Hi-r.Lo {
				narrower++
			}
			before = w
		}
		if before != r.Hi-r.Lo {
			t.Fatal(l, before, r)
		}
	}
	if narrower < 100 {
		t.Error(narrower)
	}
}
