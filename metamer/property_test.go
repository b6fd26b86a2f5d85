package metamer_test

import (
	"math/rand"
	"slices"
	"testing"

	"lampblack/api"
	"lampblack/metamer"
)

func contains(r api.Range, n int64) bool { return r.Lo <= n && n <= r.Hi }

func areWithin(numbers []int64, within []api.Range) bool {
	for i, r := range within {
		if !contains(r, numbers[i]) {
			return false
		}
	}
	return len(numbers) == len(within)
}

// areNarrower reports whether ranges lie in others.
func areNarrower(inner, outer []api.Range) bool {
	for i, r := range inner {
		if !contains(outer[i], r.Lo) || !contains(outer[i], r.Hi) {
			return false
		}
	}
	return len(inner) == len(outer)
}

func plus(one, two []int64) []int64 {
	var l []int64
	for i := range one {
		l = append(l, one[i]+two[i])
	}
	return l
}

func mustNumbers(t *testing.T, c api.MetamerCase, x api.MetamerTrue, chip []int64) []int64 {
	t.Helper()
	n, e := metamer.Numbers(c, x, chip)
	if len(n) != 3 || e != api.OK {
		t.Fatal(c, x, chip, n, e)
	}
	return n
}

// dim returns a case like another one of which one band gives nothing: its lamp
// is dark, or all its curves are 0.
func dim(chance *rand.Rand, c api.MetamerCase, band int) api.MetamerCase {
	c = copiedCase(c)
	if chance.Intn(2) == 0 {
		c.Lamp[band] = rg(0, 0)
		return c
	}
	for _, curve := range c.Eye {
		curve[band] = rg(0, 0)
	}
	return c
}

func copiedCase(c api.MetamerCase) api.MetamerCase {
	other := api.MetamerCase{Lamp: slices.Clone(c.Lamp)}
	for _, curve := range c.Eye {
		other.Eye = append(other.Eye, slices.Clone(curve))
	}
	return other
}

// someMatch returns a case and two chips that surely match by it, though they
// are not the same: they differ in one band that gives nothing, or in two that
// do the same.
func someMatch(chance *rand.Rand, bands int) (api.MetamerCase, []int64, []int64) {
	c := someCase(chance, bands, 100, 100)
	one := someNumbers(chance, bands, 400)
	two := slices.Clone(one)
	band := chance.Intn(bands)
	if bands > 1 && chance.Intn(2) == 0 {
		other := (band + 1) % bands
		// One band does twice as much as the other one, whatever is true.
		c.Lamp[band], c.Lamp[other] = rg(20, 20), rg(40, 40)
		for _, curve := range c.Eye {
			curve[band] = rg(curve[band].Lo, curve[band].Lo)
			curve[other] = curve[band]
		}
		two[band] += 2
		one[other]++
		return c, one, two
	}
	two[band] += 1 + chance.Int63n(100)
	return dim(chance, c, band), one, two
}

// P4.11: there is a truth by which two chips part, or they surely match; they
// do just if they are not apart.
func TestMatchOrPart(t *testing.T) {
	chance := rand.New(rand.NewSource(51))
	matches, parted := 0, 0
	for n := range 4000 {
		bands := 1 + chance.Intn(mostBands)
		c, one, two := someMatch(chance, bands)
		if n%2 == 0 {
			two[chance.Intn(bands)] += chance.Int63n(2)
		}
		apart := mustApart(t, c, one, two)
		none := slices.Equal(apart, make([]api.Range, 3))
		judgeParting(t, c, one, two, !none)
		if none {
			matches++
		} else {
			parted++
		}
		for range 5 {
			if none && part(t, c, someTruth(chance, c), one, two) {
				t.Fatal(c, one, two)
			}
		}
	}
	if matches < 2000 || parted < 500 {
		t.Error(matches, parted)
	}
}

// ending returns the truth by which the sums of numbers are the least, or the
// greatest ones.
func ending(c api.MetamerCase, numbers []int64, great bool) api.MetamerTrue {
	ends := func(within []api.Range) []int64 {
		var l []int64
		for b, r := range within {
			if great == (numbers[b] >= 0) {
				l = append(l, r.Hi)
			} else {
				l = append(l, r.Lo)
			}
		}
		return l
	}
	return api.MetamerTrue{Eye: rows(ends(c.Eye[0]), ends(c.Eye[1]), ends(c.Eye[2])), Lamp: ends(c.Lamp)}
}

func lows(l []api.Range) []int64 {
	var ends []int64
	for _, r := range l {
		ends = append(ends, r.Lo)
	}
	return ends
}

func highs(l []api.Range) []int64 {
	var ends []int64
	for _, r := range l {
		ends = append(ends, r.Hi)
	}
	return ends
}

// P4.12: what is true is in the spans, and in what Apart returns; the ends are
// those of truths.
func TestBoxed(t *testing.T) {
	chance := rand.New(rand.NewSource(52))
	for range 1000 {
		bands := 1 + chance.Intn(mostBands)
		c := someCase(chance, bands, 100, 100)
		one, two := someNumbers(chance, bands, mostChip), someNumbers(chance, bands, mostChip)
		spans, apart := mustSpans(t, c, one), mustApart(t, c, one, two)
		for range 8 {
			x := someTruth(chance, c)
			n := mustNumbers(t, c, x, one)
			if !areWithin(n, spans) || !areWithin(less(n, mustNumbers(t, c, x, two)), apart) {
				t.Fatal(c, x, one, two, n, spans, apart)
			}
		}
		least, greatest := ending(c, one, false), ending(c, one, true)
		if !slices.Equal(mustNumbers(t, c, least, one), lows(spans)) || !slices.Equal(mustNumbers(t, c, greatest, one), highs(spans)) {
			t.Fatal(c, one, spans)
		}
		least, greatest = ending(c, less(one, two), false), ending(c, less(one, two), true)
		low := less(mustNumbers(t, c, least, one), mustNumbers(t, c, least, two))
		high := less(mustNumbers(t, c, greatest, one), mustNumbers(t, c, greatest, two))
		if !slices.Equal(low, lows(apart)) || !slices.Equal(high, highs(apart)) {
			t.Fatal(c, one, two, apart)
		}
	}
}

// narrowed returns a case with some ranges that are narrower, or as they were.
func narrowed(chance *rand.Rand, c api.MetamerCase) api.MetamerCase {
	c = copiedCase(c)
	for _, l := range append(slices.Clone(c.Eye), c.Lamp) {
		for b, r := range l {
			if chance.Intn(2) == 0 {
				lo := r.Lo + chance.Int63n(r.Hi-r.Lo+1)
				l[b] = rg(lo, lo+chance.Int63n(r.Hi-lo+1))
			}
		}
	}
	return c
}

// P4.12: with narrower ranges nothing becomes wider, and chips that matched go
// on to match.
func TestNarrower(t *testing.T) {
	chance := rand.New(rand.NewSource(53))
	matched := 0
	for n := range 2000 {
		bands := 1 + chance.Intn(mostBands)
		c, one, two := someMatch(chance, bands)
		if n%2 == 0 {
			one, two = someNumbers(chance, bands, mostChip), someNumbers(chance, bands, mostChip)
		}
		inner := narrowed(chance, c)
		if !areNarrower(mustSpans(t, inner, one), mustSpans(t, c, one)) ||
			!areNarrower(mustApart(t, inner, one, two), mustApart(t, c, one, two)) {
			t.Fatal(c, inner, one, two)
		}
		if metamer.Surely(c, one, two) == api.OK {
			matched++
			if e := metamer.Surely(inner, one, two); e != api.OK {
				t.Fatal(c, inner, one, two, e)
			}
		}
	}
	if matched < 1000 {
		t.Error(matched)
	}
}

// P4.13: the numbers of the sum of two chips are the sums of their numbers.
func TestSums(t *testing.T) {
	chance := rand.New(rand.NewSource(54))
	for range 2000 {
		bands := 1 + chance.Intn(mostBands)
		c := someCase(chance, bands, 100, 100)
		x := someTruth(chance, c)
		one, two := someNumbers(chance, bands, mostChip/2), someNumbers(chance, bands, mostChip/2)
		sum := mustNumbers(t, c, x, plus(one, two))
		if !slices.Equal(sum, plus(mustNumbers(t, c, x, one), mustNumbers(t, c, x, two))) {
			t.Fatal(c, x, one, two, sum)
		}
	}
}

// pairs returns all pairs of chips with two bands and numbers up to another
// one that match by a truth, or that part.
func pairs(t *testing.T, c api.MetamerCase, x api.MetamerTrue, most int64) (match, parted [][2][]int64) {
	t.Helper()
	for l := range allWithin(sameRanges(4, rg(0, most))) {
		chips := slices.Clone(l)
		one, two := chips[:2:2], chips[2:]
		if part(t, c, x, one, two) {
			parted = append(parted, [2][]int64{one, two})
		} else {
			match = append(match, [2][]int64{one, two})
		}
	}
	return match, parted
}

// P4.13: sums of chips that match do, by the same truth; chips that part still
// do if a third one is added to both.
func TestSumsMatch(t *testing.T) {
	chance := rand.New(rand.NewSource(55))
	different := 0
	for range 30 {
		c := someCase(chance, 2, 3, 3)
		x := someTruth(chance, c)
		match, parted := pairs(t, c, x, 3)
		for range 200 {
			a, b := match[chance.Intn(len(match))], match[chance.Intn(len(match))]
			if !slices.Equal(a[0], a[1]) && !slices.Equal(b[0], b[1]) {
				different++
			}
			if part(t, c, x, plus(a[0], b[0]), plus(a[1], b[1])) {
				t.Fatal(c, x, a, b)
			}
		}
		for range min(200, len(parted)) {
			a, third := parted[chance.Intn(len(parted))], someNumbers(chance, 2, 900)
			if !part(t, c, x, plus(a[0], third), plus(a[1], third)) {
				t.Fatal(c, x, a, third)
			}
			if e := metamer.Surely(c, plus(a[0], third), plus(a[1], third)); e != api.ErrPart {
				t.Fatal(c, a, third, e)
			}
		}
	}
	if different < 500 {
		t.Error(different)
	}
}

// P4.13, by all truths: a third chip changes nothing in how two are apart.
func TestThirdChip(t *testing.T) {
	chance := rand.New(rand.NewSource(56))
	for range 1000 {
		bands := 1 + chance.Intn(mostBands)
		c, one, two := someMatch(chance, bands)
		if chance.Intn(2) == 0 {
			two = someNumbers(chance, bands, 400)
		}
		third := someNumbers(chance, bands, 400)
		if !slices.Equal(mustApart(t, c, one, two), mustApart(t, c, plus(one, third), plus(two, third))) {
			t.Fatal(c, one, two, third)
		}
	}
}

func mustMix(t *testing.T, p api.MetamerPalette, set int) []int64 {
	t.Helper()
	s, e := metamer.Mix(p, set)
	if len(s) != len(p.Pigments[0]) || e != api.OK {
		t.Fatal(p, set, s, e)
	}
	return s
}

func mustFit(t *testing.T, p api.MetamerPalette, measured []int64) []int {
	t.Helper()
	sets, e := metamer.Fit(p, measured)
	if e != api.OK || !slices.IsSorted(sets) {
		t.Fatal(p, measured, sets, e)
	}
	return sets
}

// measured returns what can be measured of a set: each number is off by up to
// Error.
func measured(chance *rand.Rand, t *testing.T, p api.MetamerPalette, set int) []int64 {
	t.Helper()
	l := mustMix(t, p, set)
	for b := range l {
		l[b] += chance.Int63n(2*p.Error+1) - p.Error
	}
	return l
}

// P4.14: if no two sets clash, the one that was measured is told; if two do,
// there is a measurement that fits both, and their spectra differ by at most
// twice Error.
func TestTold(t *testing.T) {
	chance := rand.New(rand.NewSource(57))
	clashes, palettes := 0, 1000
	for n := range palettes {
		bands, most := 1+chance.Intn(mostBands), []int64{2, 20, mostChip}[n%3]
		p := somePalette(chance, 1+chance.Intn(8), bands, most, chance.Int63n(min(1+most/5, mostError+1)))
		first, second, e := metamer.Clash(p)
		if e == api.OK {
			clashes++
			one, two := mustMix(t, p, first), mustMix(t, p, second)
			sets := mustFit(t, p, middle(one, two))
			if first >= second || differ(one, two, 2*p.Error) || !slices.Contains(sets, first) || !slices.Contains(sets, second) {
				t.Fatal(p, first, second, sets)
			}
			continue
		}
		for range 20 {
			set := chance.Intn(1 << len(p.Pigments))
			if sets := mustFit(t, p, measured(chance, t, p, set)); !slices.Equal(sets, []int{set}) {
				t.Fatal(p, set, sets)
			}
		}
	}
	if clashes < palettes/5 || clashes > palettes*4/5 {
		t.Error(clashes)
	}
}

// P4.14: two sets clash just if their spectra differ by at most twice Error.
func TestTwiceError(t *testing.T) {
	for off := range int64(mostError + 1) {
		for far := max(2*off-1, 0); far <= 2*off+2; far++ {
			p := api.MetamerPalette{Pigments: rows(list(0, far), list(500, 500)), Error: off}
			_, second, e := metamer.Clash(p)
			if far <= 2*off && (second != 1 || e != api.OK) || far > 2*off && e != api.ErrNone {
				t.Error(off, far, second, e)
			}
			both := mustFit(t, p, list(0, far/2))
			if far <= 2*off && !slices.Equal(both, []int{0, 1}) || far > 2*off && len(both) > 1 {
				t.Error(off, far, both)
			}
		}
	}
}
