package bench_test

import (
	"math/big"
	"math/rand"
	"slices"
	"testing"

	"lampblack/api"
	"lampblack/bench"
)

// parted reports whether both parts of a row are in order.
func parted(r []int64, first int) bool { return inOrder(r[:first]) && inOrder(r[first:]) }

// judgeAllRows compares what Test and Merge tell with all rows of powers below
// a number.
func judgeAllRows(t *testing.T, lamps int, p []api.BenchPair, below int64) {
	t.Helper()
	for best := 1; best <= lamps; best++ {
		_, e := bench.Test(lamps, p, best)
		r, wrong := firstRow(lamps, below, func(r []int64) bool {
			if best == lamps {
				return inOrder(made(p, r))
			}
			return picked(made(p, r), best)
		})
		if wrong != (e == api.OK) || !wrong != (e == api.ErrNone) {
			t.Fatal(lamps, p, best, r, e)
		}
	}
	for first := 1; first < lamps; first++ {
		_, e := bench.Merge(lamps, p, first)
		r, wrong := firstRow(lamps, below, func(r []int64) bool {
			return !parted(r, first) || inOrder(made(p, r))
		})
		if wrong != (e == api.OK) || !wrong != (e == api.ErrNone) {
			t.Fatal(lamps, p, first, r, e)
		}
	}
}

// P2.11: what holds for dark and bright lamps holds for all powers, and what
// fails does so with dark and bright lamps.
func TestZerosAndOnes(t *testing.T) {
	for lamps, pairs := range []int{2: 3, 3: 4, 4: 3} {
		if lamps < 2 {
			continue
		}
		for p := range programmes(lamps, pairs) {
			judgeAllRows(t, lamps, p, int64(lamps))
		}
	}
	chance := rand.New(rand.NewSource(11))
	for range 100 {
		judgeAllRows(t, 4, someProgramme(chance, 4), 5)
	}
	for range 20 {
		judgeAllRows(t, 5, someProgramme(chance, 5), 5)
	}
}

// P2.11: programmes that pass put great rows in order, too.
func TestGreatRows(t *testing.T) {
	chance := rand.New(rand.NewSource(12))
	for lamps := 2; lamps <= 12; lamps++ {
		p, e := bench.Build(lamps)
		if e != api.OK {
			t.Fatal(lamps, e)
		}
		for range 500 {
			powers := someRow(chance, lamps, []int64{2, 4, 100001}[chance.Intn(3)])
			sorted := slices.Clone(powers)
			slices.Sort(sorted)
			slices.Reverse(sorted)
			if r, e := bench.Run(p, powers); !slices.Equal(r, sorted) || e != api.OK {
				t.Fatal(lamps, p, powers, r, e)
			}
		}
	}
}

// P2.12
func TestRelabelled(t *testing.T) {
	chance := rand.New(rand.NewSource(13))
	for range 3000 {
		lamps := 2 + chance.Intn(11)
		p := someProgramme(chance, lamps)
		powers := someRow(chance, lamps, 8)
		labels := someRow(chance, 8, []int64{2, 6, 100001}[chance.Intn(3)])
		slices.Sort(labels)
		relabel := func(r []int64) []int64 {
			l := slices.Clone(r)
			for i := range l {
				l[i] = labels[l[i]]
			}
			return l
		}
		r, e := bench.Run(p, powers)
		if e != api.OK {
			t.Fatal(p, powers, e)
		}
		if l, e := bench.Run(p, relabel(powers)); !slices.Equal(l, relabel(r)) || e != api.OK {
			t.Fatal(p, powers, labels, r, l, e)
		}
	}
}

// P2.13: a trimmed programme does the same, in at most as many rounds.
func TestTrimmed(t *testing.T) {
	chance := rand.New(rand.NewSource(14))
	shorter, sooner := 0, 0
	for range 2000 {
		lamps := 2 + chance.Intn(11)
		p := someProgramme(chance, lamps)
		trimmed, e := bench.Trim(lamps, p)
		if e != api.OK {
			t.Fatal(lamps, p, e)
		}
		if l, e := bench.Useless(lamps, trimmed); len(l) != 0 || e != api.OK {
			t.Fatal(lamps, p, trimmed, l, e)
		}
		if again, e := bench.Trim(lamps, trimmed); !slices.Equal(again, trimmed) || e != api.OK {
			t.Fatal(lamps, p, trimmed, again, e)
		}
		before, _ := bench.Depth(lamps, p)
		after, e := bench.Depth(lamps, trimmed)
		if after > before || e != api.OK {
			t.Fatal(lamps, p, before, after, e)
		}
		if len(trimmed) < len(p) {
			shorter++
		}
		if after < before {
			sooner++
		}
		for range 20 {
			powers := someRow(chance, lamps, []int64{2, 4, 100001}[chance.Intn(3)])
			r, e := bench.Run(trimmed, powers)
			if want := made(p, powers); !slices.Equal(r, want) || e != api.OK {
				t.Fatal(lamps, p, trimmed, powers, r, e)
			}
		}
	}
	if shorter < 300 || sooner < 100 {
		t.Error(shorter, sooner)
	}
}

// P2.13: a trimmed programme does the same on each row of a small number of lamps.
func TestTrimmedOnAllRows(t *testing.T) {
	for p := range programmes(3, 5) {
		trimmed, e := bench.Trim(3, p)
		if e != api.OK {
			t.Fatal(p, e)
		}
		for powers := range powerRows(3, 3) {
			if !slices.Equal(made(trimmed, powers), made(p, powers)) {
				t.Fatal(p, trimmed, powers)
			}
		}
	}
}

// P2.13: what puts all rows in order still does with more pairs after it, and
// all of them are useless.
func TestMorePairs(t *testing.T) {
	chance := rand.New(rand.NewSource(15))
	for lamps := 2; lamps <= 12; lamps++ {
		pairs := allPairs(lamps)
		for range 20 {
			p, e := bench.Build(lamps)
			if e != api.OK {
				t.Fatal(lamps, e)
			}
			n := len(p)
			for range chance.Intn(81 - n) {
				p = append(p, pairs[chance.Intn(len(pairs))])
			}
			if r, e := bench.Test(lamps, p, lamps); len(r) != 0 || e != api.ErrNone {
				t.Fatal(lamps, p, r, e)
			}
			if trimmed, e := bench.Trim(lamps, p); len(trimmed) > n || e != api.OK {
				t.Fatal(lamps, p, trimmed, e)
			}
		}
	}
}

// within reports whether a power is in a span.
func within(s api.BenchSpan, r *big.Rat) bool {
	return rat(s.Lo).Cmp(r) <= 0 && r.Cmp(rat(s.Hi)) <= 0
}

// P2.14: whatever is truly so, the power is in the span.
func TestTruthsAreInSpan(t *testing.T) {
	chance := rand.New(rand.NewSource(16))
	for range 3000 {
		b := someBar(chance, chance.Intn(2) == 0)
		s, e := bench.Span(b)
		if e != api.OK || !isLeast(s.Lo) || !isLeast(s.Hi) {
			t.Fatal(b, s, e)
		}
		for range 20 {
			x := someTruth(chance, b)
			r, e := bench.Value(b, x)
			if e != api.OK || !within(s, rat(r)) || !within(s, powerOf(b, x)) {
				t.Fatal(b, x, s, r, e)
			}
		}
	}
}

// P2.14: the ends of the span are those of truths at the ends of ranges.
func TestEndsAreTrue(t *testing.T) {
	chance := rand.New(rand.NewSource(17))
	for range 3000 {
		b := someBar(chance, chance.Intn(2) == 0)
		s, e := bench.Span(b)
		if e != api.OK {
			t.Fatal(b, e)
		}
		lo, hi := false, false
		for _, power := range []int64{b.Power.Lo, b.Power.Hi} {
			for _, screen := range []int64{b.Screen.Lo, b.Screen.Hi} {
				for _, stray := range []int64{b.Stray.Lo, b.Stray.Hi} {
					r, e := bench.Value(b, truth(power, screen, stray))
					if e != api.OK {
						t.Fatal(b, e)
					}
					lo, hi = lo || r == s.Lo, hi || r == s.Hi
				}
			}
		}
		if !lo || !hi {
			t.Fatal(b, s)
		}
	}
}

// P2.14: with narrower ranges the span does not become wider.
func TestNarrowerBars(t *testing.T) {
	chance := rand.New(rand.NewSource(18))
	narrowed := 0
	for range 5000 {
		b := someBar(chance, chance.Intn(2) == 0)
		in := b
		for _, r := range []*api.Range{&in.Power, &in.Screen, &in.Stray} {
			*r = someRange(chance, r.Lo, r.Hi)
		}
		wide, e := bench.Span(b)
		narrow, f := bench.Span(in)
		if e != api.OK || f != api.OK || !within(wide, rat(narrow.Lo)) || !within(wide, rat(narrow.Hi)) {
			t.Fatal(b, in, wide, narrow, e, f)
		}
		if wide != narrow {
			narrowed++
		}
	}
	if narrowed < 1000 {
		t.Error(narrowed)
	}
}

// P2.14: without stray light the lamp, as the standard, tells the power of the
// old standard again.
func TestTurnedBars(t *testing.T) {
	chance := rand.New(rand.NewSource(19))
	turned := 0
	for range 40000 {
		b := api.BenchBar{Long: 2 + chance.Int63n(60), Near: 1}
		x := truth(1+chance.Int63n(200), 1+chance.Int63n(b.Long-1), 0)
		b.Power, b.Screen = api.Range{Lo: x.Power, Hi: x.Power}, api.Range{Lo: x.Screen, Hi: x.Screen}
		r, e := bench.Value(b, x)
		if e != api.OK {
			t.Fatal(b, x, e)
		}
		if r.Den != 1 || r.Num > mostPower {
			continue
		}
		turned++
		y := truth(r.Num, b.Long-x.Screen, 0)
		b.Power, b.Screen = api.Range{Lo: y.Power, Hi: y.Power}, api.Range{Lo: y.Screen, Hi: y.Screen}
		if old, e := bench.Value(b, y); old != of(x.Power, 1) || e != api.OK {
			t.Fatal(b, x, y, old, e)
		}
		if s, e := bench.Span(b); s.Lo != of(x.Power, 1) || s.Hi != of(x.Power, 1) || e != api.OK {
			t.Fatal(b, x, y, s, e)
		}
	}
	if turned < 1000 {
		t.Error(turned)
	}
}
