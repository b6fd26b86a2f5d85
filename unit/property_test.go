package unit_test

import (
	"math/rand"
	"slices"
	"testing"

	"lampblack/api"
	"lampblack/unit"
)

// someSpans returns small spans, and great ones, wide and narrow.
func someSpans(seed int64) []api.UnitSpan {
	chance := rand.New(rand.NewSource(seed))
	l := smallSpans(7)
	for range 1500 {
		l = append(l, someSpan(chance), narrowSpan(chance))
	}
	return l
}

func mustSimplest(t *testing.T, s api.UnitSpan) api.Ratio {
	t.Helper()
	r, e := unit.Simplest(s)
	if e != api.OK || !isFraction(r) || !has(s, r) {
		t.Fatal(s, r, e)
	}
	return r
}

// P1.7: what Proof returns is right, and its bound is reached.
func TestProofIsReached(t *testing.T) {
	for _, s := range someSpans(5) {
		r := mustSimplest(t, s)
		p, e := unit.Proof(s)
		if e != api.OK || !isRight(s, p) {
			t.Fatal(s, p, e)
		}
		if n, e := unit.CheckProof(s, p); n != r.Den || e != api.OK {
			t.Fatal(s, p, n, e)
		}
	}
}

// P1.7: no fraction of a span is below the bound of any right proof, nor has
// any of them a lesser Num than the simplest one.
func TestNoneIsSimpler(t *testing.T) {
	fractions := smallFractions(9)
	lefts := append([]api.Ratio{of(0, 1)}, fractions...)
	rights := append([]api.Ratio{of(1, 0)}, fractions...)
	for _, s := range smallSpans(6) {
		r := mustSimplest(t, s)
		bound := int64(0)
		for _, left := range lefts {
			for _, right := range rights {
				n, e := unit.CheckProof(s, api.UnitProof{Left: left, Right: right})
				if e == api.OK {
					bound = max(bound, n)
				}
			}
		}
		if bound != r.Den {
			t.Fatal(s, bound, r)
		}
		for _, x := range fractions {
			if has(s, x) && (x.Den < bound || x.Den < r.Den || x.Num < r.Num) {
				t.Fatal(s, r, x)
			}
		}
	}
}

// within returns a fraction of a span.
func within(t *testing.T, chance *rand.Rand, s api.UnitSpan) api.Ratio {
	switch chance.Intn(3) {
	case 0:
		return s.Lo
	case 1:
		return s.Hi
	}
	return mustSimplest(t, s)
}

// P1.8: a value times numbers of the decrees is in the span that is carried over.
func TestCarriedHoldsTruth(t *testing.T) {
	chance := rand.New(rand.NewSource(6))
	small := smallSpans(5)
	done := 0
	for range 5000 {
		s := small[chance.Intn(len(small))]
		value := rat(within(t, chance, s))
		decrees := make([]api.UnitSpan, chance.Intn(6))
		for i := range decrees {
			decrees[i] = small[chance.Intn(len(small))]
			value.Mul(value, rat(within(t, chance, decrees[i])))
		}
		c, e := unit.Carry(s, decrees)
		if e == api.ErrOver {
			continue
		}
		done++
		if e != api.OK || !isSpan(c) || value.Cmp(rat(c.Lo)) < 0 || value.Cmp(rat(c.Hi)) > 0 {
			t.Fatal(s, decrees, c, value, e)
		}
	}
	if done < 1000 {
		t.Error(done)
	}
}

// P1.8: over and back one has the span again, or a wider one.
func TestOverAndBack(t *testing.T) {
	chance := rand.New(rand.NewSource(7))
	small := smallSpans(5)
	done, wider := 0, 0
	for range 5000 {
		s := small[chance.Intn(len(small))]
		decrees := make([]api.UnitSpan, 1+chance.Intn(3))
		exact := chance.Intn(2) == 0
		for i := range decrees {
			decrees[i] = small[chance.Intn(len(small))]
			if exact {
				decrees[i].Hi = decrees[i].Lo
			}
		}
		c, e := unit.Carry(s, decrees)
		if e != api.OK {
			continue
		}
		b, e := unit.Back(c, decrees)
		if e != api.OK {
			continue
		}
		done++
		if !has(b, s.Lo) || !has(b, s.Hi) || exact && b != s {
			t.Fatal(s, decrees, c, b)
		}
		if b != s {
			wider++
		}
	}
	if done < 1000 || wider < 500 {
		t.Error(done, wider)
	}
}

// P1.9
func TestTurnedOver(t *testing.T) {
	for _, s := range someSpans(8) {
		r := mustSimplest(t, s)
		turned := span(s.Hi.Den, s.Hi.Num, s.Lo.Den, s.Lo.Num)
		if x := mustSimplest(t, turned); x != of(r.Den, r.Num) {
			t.Fatal(s, r, x)
		}
		for _, n := range []int64{1, 2, 1000} {
			moved := span(s.Lo.Num+n*s.Lo.Den, s.Lo.Den, s.Hi.Num+n*s.Hi.Den, s.Hi.Den)
			if !isSpan(moved) {
				continue
			}
			if x := mustSimplest(t, moved); x != of(r.Num+n*r.Den, r.Den) {
				t.Fatal(s, n, r, x)
			}
		}
	}
}

// P1.10
func TestNarrower(t *testing.T) {
	inner := smallSpans(6)
	for _, s := range smallSpans(5) {
		r := mustSimplest(t, s)
		for _, in := range inner {
			if !has(s, in.Lo) || !has(s, in.Hi) {
				continue
			}
			x := mustSimplest(t, in)
			if x.Den < r.Den || has(in, r) && x != r {
				t.Fatal(s, in, r, x)
			}
		}
	}
}

// P1.11
func TestFollowUndoesPath(t *testing.T) {
	fractions := smallFractions(40)
	chance := rand.New(rand.NewSource(9))
	for range 5000 {
		fractions = append(fractions, someFraction(chance))
	}
	for _, r := range fractions {
		p, e := unit.Path(r)
		if e != api.OK {
			t.Fatal(r, e)
		}
		if x, e := followed(p); x != r || e != api.OK {
			t.Fatal(r, p, x, e)
		}
		if x, e := unit.Follow(p); x != r || e != api.OK {
			t.Fatal(r, p, x, e)
		}
		turned, e := unit.Path(of(r.Den, r.Num))
		if e != api.OK {
			t.Fatal(r, e)
		}
		ahead := append([]int64{0}, p...)
		if r != of(1, 1) && !slices.Equal(turned, ahead) && !slices.Equal(turned, p[1:]) {
			t.Fatal(r, p, turned)
		}
	}
}

// P1.12
func TestNeighbours(t *testing.T) {
	for _, r := range smallFractions(15) {
		for den := r.Den; den <= 16; den++ {
			x, e := unit.Next(r, den)
			if e != api.OK || x.Den > den || r.Den*x.Num-r.Num*x.Den != 1 {
				t.Fatal(r, den, x, e)
			}
			for d := int64(1); d <= den; d++ {
				for n := r.Num * d / r.Den; n*x.Den < x.Num*d; n++ {
					if n*r.Den > r.Num*d {
						t.Fatal(r, den, x, n, d)
					}
				}
			}
		}
	}
	chance := rand.New(rand.NewSource(10))
	for range 5000 {
		r := reduced(of(1+chance.Int63n(999999), 1+chance.Int63n(1000)))
		den := r.Den + chance.Int63n(1001-r.Den)
		x, e := unit.Next(r, den)
		if e != api.OK || x.Den > den || r.Den*x.Num-r.Num*x.Den != 1 {
			t.Fatal(r, den, x, e)
		}
	}
}
