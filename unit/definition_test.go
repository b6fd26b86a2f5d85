package unit_test

// What the chapter defines, written down once more in the plainest way, and
// compared with the functions on all small arguments and many great ones.

import (
	"math/big"
	"math/rand"
	"slices"
	"testing"

	"lampblack/api"
	"lampblack/unit"
)

func divisor(a, b int64) int64 {
	for b != 0 {
		a, b = b, a%b
	}
	return a
}

func rat(r api.Ratio) *big.Rat { return big.NewRat(r.Num, r.Den) }

func isFraction(r api.Ratio) bool {
	return r.Num >= 1 && r.Num <= most && r.Den >= 1 && r.Den <= most && divisor(r.Num, r.Den) == 1
}

func isSpan(s api.UnitSpan) bool {
	return isFraction(s.Lo) && isFraction(s.Hi) && rat(s.Lo).Cmp(rat(s.Hi)) <= 0
}

func has(s api.UnitSpan, r api.Ratio) bool {
	return rat(s.Lo).Cmp(rat(r)) <= 0 && rat(r).Cmp(rat(s.Hi)) <= 0
}

// reduced returns a ratio of numbers above 0 in least terms.
func reduced(r api.Ratio) api.Ratio {
	d := divisor(r.Num, r.Den)
	return of(r.Num/d, r.Den/d)
}

// isRight reports whether a proof, with numbers as described, is right.
func isRight(s api.UnitSpan, p api.UnitProof) bool {
	for i, n := range [4]int64{p.Left.Num, p.Left.Den, p.Right.Num, p.Right.Den} {
		if n < 0 || n > most || n == 0 && (i == 1 || i == 2) {
			return false
		}
	}
	if rat(p.Left).Cmp(rat(s.Lo)) >= 0 || p.Right.Den > 0 && rat(p.Right).Cmp(rat(s.Hi)) <= 0 {
		return false
	}
	return p.Left.Den*p.Right.Num-p.Left.Num*p.Right.Den == 1
}

// smallFractions returns all fractions with numbers up to n, lesser Den first.
func smallFractions(n int64) []api.Ratio {
	var l []api.Ratio
	for den := int64(1); den <= n; den++ {
		for num := int64(1); num <= n; num++ {
			if divisor(num, den) == 1 {
				l = append(l, of(num, den))
			}
		}
	}
	return l
}

// smallSpans returns all spans of fractions with numbers up to n.
func smallSpans(n int64) []api.UnitSpan {
	var l []api.UnitSpan
	for _, lo := range smallFractions(n) {
		for _, hi := range smallFractions(n) {
			if lo.Num*hi.Den <= hi.Num*lo.Den {
				l = append(l, api.UnitSpan{Lo: lo, Hi: hi})
			}
		}
	}
	return l
}

// someNumber returns a number from 1 to MaxUnit, as often a small one as a great one.
func someNumber(chance *rand.Rand) int64 {
	return 1 + chance.Int63n(1+chance.Int63n(1<<chance.Intn(30)))
}

func someFraction(chance *rand.Rand) api.Ratio {
	return reduced(of(min(someNumber(chance), most), min(someNumber(chance), most)))
}

func someSpan(chance *rand.Rand) api.UnitSpan {
	a, b := someFraction(chance), someFraction(chance)
	if rat(a).Cmp(rat(b)) > 0 {
		a, b = b, a
	}
	return api.UnitSpan{Lo: a, Hi: b}
}

// narrowSpan returns a span between two great fractions that are near each other.
func narrowSpan(chance *rand.Rand) api.UnitSpan {
	r := someFraction(chance)
	by := 1 + chance.Int63n(1+2*most/max(r.Num, r.Den))
	lo := reduced(of(max(r.Num*by/2-chance.Int63n(3), 1), max(r.Den*by/2, 1)))
	hi := reduced(of(max(r.Num*by/2+chance.Int63n(3), 1), max(r.Den*by/2-chance.Int63n(3), 1)))
	if s := (api.UnitSpan{Lo: lo, Hi: hi}); isSpan(s) {
		return s
	}
	return api.UnitSpan{Lo: r, Hi: r}
}

func TestCheckSpanByDefinition(t *testing.T) {
	numbers := []int64{-1 << 63, -1<<63 + 1, -most, -2, -1, 0, 1, 2, 3, 4, most - 1, most, most + 1, 1 << 32, 1<<63 - 1}
	for _, a := range numbers {
		for _, b := range numbers {
			for _, c := range numbers {
				for _, d := range numbers {
					s := span(a, b, c, d)
					if e := unit.CheckSpan(s); (e == api.OK) != isSpan(s) || e != api.OK && e != api.ErrArg {
						t.Fatal(s, e)
					}
				}
			}
		}
	}
	for _, s := range smallSpans(12) {
		if e := unit.CheckSpan(s); e != api.OK {
			t.Fatal(s, e)
		}
		if e := unit.CheckSpan(api.UnitSpan{Lo: s.Hi, Hi: s.Lo}); s.Lo != s.Hi && e != api.ErrArg {
			t.Fatal(s, e)
		}
	}
}

// carried carries a span over or back by the definition.
func carried(s api.UnitSpan, decrees []api.UnitSpan, back bool) (api.UnitSpan, api.Errno) {
	lo, hi := rat(s.Lo), rat(s.Hi)
	limit := big.NewInt(most)
	for i := range decrees {
		if back {
			d := decrees[len(decrees)-1-i]
			lo.Quo(lo, rat(d.Hi))
			hi.Quo(hi, rat(d.Lo))
		} else {
			lo.Mul(lo, rat(decrees[i].Lo))
			hi.Mul(hi, rat(decrees[i].Hi))
		}
		for _, n := range []*big.Int{lo.Num(), lo.Denom(), hi.Num(), hi.Denom()} {
			if n.Cmp(limit) > 0 {
				return api.UnitSpan{}, api.ErrOver
			}
		}
	}
	return span(lo.Num().Int64(), lo.Denom().Int64(), hi.Num().Int64(), hi.Denom().Int64()), api.OK
}

func TestCarryByDefinition(t *testing.T) {
	chance := rand.New(rand.NewSource(1))
	seen := map[api.Errno]int{}
	for range 20000 {
		s := someSpan(chance)
		decrees := make([]api.UnitSpan, chance.Intn(9))
		for i := range decrees {
			decrees[i] = someSpan(chance)
			if chance.Intn(2) == 0 { // small ones, so that many of them fit
				decrees[i] = smallSpans(3)[chance.Intn(len(smallSpans(3)))]
			}
		}
		over, e := carried(s, decrees, false)
		if got, f := unit.Carry(s, decrees); got != over || f != e {
			t.Fatal(s, decrees, got, f, "want", over, e)
		}
		back, e := carried(s, decrees, true)
		if got, f := unit.Back(s, decrees); got != back || f != e {
			t.Fatal(s, decrees, got, f, "want", back, e)
		}
		seen[e]++
	}
	if seen[api.OK] < 1000 || seen[api.ErrOver] < 1000 {
		t.Error(seen)
	}
}

// simplest looks for the simplest fraction, up to a Den; 0 / 0 if there is none.
func simplest(s api.UnitSpan, den int64) api.Ratio {
	for d := int64(1); d <= den; d++ {
		n := (s.Lo.Num*d + s.Lo.Den - 1) / s.Lo.Den
		if n*s.Hi.Den <= s.Hi.Num*d {
			return of(n, d)
		}
	}
	return none
}

func TestSimplestByDefinition(t *testing.T) {
	for _, s := range smallSpans(14) {
		if r, e := unit.Simplest(s); r != simplest(s, 14) || e != api.OK {
			t.Fatal(s, r, e)
		}
	}
	chance := rand.New(rand.NewSource(2))
	for range 4000 {
		s := someSpan(chance)
		want := simplest(s, 2000)
		if r, e := unit.Simplest(s); e != api.OK || want != none && r != want || !isFraction(r) || !has(s, r) {
			t.Fatal(s, r, e)
		}
	}
}

func TestCheckProofByDefinition(t *testing.T) {
	right := 0
	for _, s := range smallSpans(4) {
		for a := int64(-1); a <= 5; a++ {
			for b := int64(-1); b <= 5; b++ {
				for c := int64(-1); c <= 5; c++ {
					for d := int64(-1); d <= 5; d++ {
						right += checkProof(t, s, proof(a, b, c, d))
					}
				}
			}
		}
	}
	if right < 100 {
		t.Error(right)
	}
	numbers := []int64{-1 << 63, -1, 0, 1, 2, most - 2, most - 1, most, most + 1, 1 << 62, 1<<63 - 1}
	for _, s := range spans(exactly(1, 1), exactly(1, most), exactly(most, 1), exactly(most-1, most), span(1, most, most, 1)) {
		for _, a := range numbers {
			for _, b := range numbers {
				for _, c := range numbers {
					for _, d := range numbers {
						checkProof(t, s, proof(a, b, c, d))
					}
				}
			}
		}
	}
}

// checkProof compares CheckProof with the definition; it returns 1 for a right proof.
func checkProof(t *testing.T, s api.UnitSpan, p api.UnitProof) int {
	bound, e := int64(0), api.ErrSum
	switch {
	case p.Left.Num < 0 || p.Left.Num > most || p.Left.Den < 1 || p.Left.Den > most:
		e = api.ErrRange
	case p.Right.Num < 1 || p.Right.Num > most || p.Right.Den < 0 || p.Right.Den > most:
		e = api.ErrRange
	case isRight(s, p):
		bound, e = p.Left.Den+p.Right.Den, api.OK
	}
	if n, f := unit.CheckProof(s, p); n != bound || f != e {
		t.Fatal(s, p, n, f, "want", bound, e)
	}
	if e == api.OK {
		return 1
	}
	return 0
}

// followed follows a path from its end by the definition.
func followed(path []int64) (api.Ratio, api.Errno) {
	last := len(path) - 1
	for i, n := range path {
		if n < 0 || n == 0 && i > 0 || i > 0 && i == last && n < 2 {
			return none, api.ErrArg
		}
	}
	if len(path) == 1 && path[0] == 0 {
		return none, api.ErrArg
	}
	r := new(big.Rat).SetInt64(path[last])
	for i := last - 1; i >= 0; i-- {
		r.Inv(r)
		r.Add(r, new(big.Rat).SetInt64(path[i]))
	}
	limit := big.NewInt(most)
	if r.Num().Cmp(limit) > 0 || r.Denom().Cmp(limit) > 0 {
		return none, api.ErrOver
	}
	return of(r.Num().Int64(), r.Denom().Int64()), api.OK
}

func TestFollowByDefinition(t *testing.T) {
	var follow func(path []int64, room int)
	follow = func(path []int64, room int) {
		if len(path) > 0 {
			want, e := followed(path)
			if r, f := unit.Follow(path); r != want || f != e {
				t.Fatal(path, r, f, "want", want, e)
			}
		}
		for n := int64(-1); room > 0 && n <= 4; n++ {
			follow(append(slices.Clone(path), n), room-1)
		}
	}
	follow(nil, 5)
	chance := rand.New(rand.NewSource(3))
	seen := map[api.Errno]int{}
	for range 30000 {
		path := make([]int64, 1+chance.Intn(1+chance.Intn(64)))
		great := 1 + chance.Intn(62)
		for i := range path {
			path[i] = 1
			if chance.Intn(4) == 0 {
				path[i] = chance.Int63n(1 << chance.Intn(great))
			}
		}
		want, e := followed(path)
		if r, f := unit.Follow(path); r != want || f != e {
			t.Fatal(path, r, f, "want", want, e)
		}
		seen[e]++
	}
	if seen[api.OK] < 1000 || seen[api.ErrOver] < 1000 || seen[api.ErrArg] < 1000 {
		t.Error(seen)
	}
}

// next looks for the neighbour of a fraction among the least of each Den.
func next(r api.Ratio, den int64) api.Ratio {
	best := of(r.Num/r.Den+1, 1)
	for d := int64(2); d <= den; d++ {
		if n := r.Num*d/r.Den + 1; n*best.Den < best.Num*d {
			best = of(n, d)
		}
	}
	return best
}

func TestNextByDefinition(t *testing.T) {
	for _, r := range smallFractions(20) {
		for den := int64(1); den <= 25; den++ {
			if x, e := unit.Next(r, den); x != next(r, den) || e != api.OK {
				t.Fatal(r, den, x, e)
			}
		}
	}
	chance := rand.New(rand.NewSource(4))
	for range 20000 {
		r := someFraction(chance)
		if r.Num > 999999 {
			continue
		}
		den := 1 + chance.Int63n(1000)
		if x, e := unit.Next(r, den); x != next(r, den) || e != api.OK || !isFraction(x) {
			t.Fatal(r, den, x, e)
		}
	}
}
