package metamer_test

// What the chapter defines, written down once more in the plainest way, and
// compared with the functions on many small cases and palettes, and on some
// great ones.

import (
	"iter"
	"math/rand"
	"slices"
	"testing"

	"lampblack/api"
	"lampblack/metamer"
)

// allWithin yields all lists of numbers that are in the ranges at their places.
func allWithin(within []api.Range) iter.Seq[[]int64] {
	return func(yield func([]int64) bool) {
		l := make([]int64, len(within))
		for i, r := range within {
			l[i] = r.Lo
		}
		for yield(l) {
			i := len(l) - 1
			for ; i >= 0 && l[i] == within[i].Hi; i-- {
				l[i] = within[i].Lo
			}
			if i < 0 {
				return
			}
			l[i]++
		}
	}
}

// truths yields all truths of a case.
func truths(c api.MetamerCase) iter.Seq[api.MetamerTrue] {
	return func(yield func(api.MetamerTrue) bool) {
		n := len(c.Lamp)
		for l := range allWithin(slices.Concat(c.Eye[0], c.Eye[1], c.Eye[2], c.Lamp)) {
			if !yield(api.MetamerTrue{Eye: rows(l[:n], l[n:2*n], l[2*n:3*n]), Lamp: l[3*n:]}) {
				return
			}
		}
	}
}

// three returns the three numbers of what has a number for each band.
func three(x api.MetamerTrue, numbers []int64) []int64 {
	sums := make([]int64, 3)
	for k, curve := range x.Eye {
		for b, n := range numbers {
			sums[k] += curve[b] * x.Lamp[b] * n
		}
	}
	return sums
}

func less(one, two []int64) []int64 {
	var l []int64
	for b := range one {
		l = append(l, one[b]-two[b])
	}
	return l
}

// spansOf returns the least and the greatest three numbers by all truths.
func spansOf(c api.MetamerCase, numbers []int64) []api.Range {
	var l []api.Range
	for x := range truths(c) {
		sums := three(x, numbers)
		if l == nil {
			l = exact(sums...)
		}
		for k, n := range sums {
			l[k] = rg(min(l[k].Lo, n), max(l[k].Hi, n))
		}
	}
	return l
}

// judgeParting checks Surely and Parting, if it is known whether chips part.
func judgeParting(t *testing.T, c api.MetamerCase, one, two []int64, parted bool) {
	t.Helper()
	x, e := metamer.Parting(c, one, two)
	f := metamer.Surely(c, one, two)
	if parted && (e != api.OK || f != api.ErrPart || !part(t, c, x, one, two)) {
		t.Fatal(c, one, two, x, e, f)
	}
	if !parted && (e != api.ErrNone || f != api.OK || len(x.Eye) != 0 || len(x.Lamp) != 0) {
		t.Fatal(c, one, two, x, e, f)
	}
}

// judge compares all functions with two chips with the definitions, by all
// truths.
func judge(t *testing.T, c api.MetamerCase, one, two []int64) {
	t.Helper()
	if want, r := spansOf(c, one), mustSpans(t, c, one); !slices.Equal(r, want) {
		t.Fatal(c, one, r, want)
	}
	want := spansOf(c, less(one, two))
	if r := mustApart(t, c, one, two); !slices.Equal(r, want) {
		t.Fatal(c, one, two, r, want)
	}
	parted := false
	for x := range truths(c) {
		parted = parted || !slices.Equal(three(x, one), three(x, two))
	}
	judgeParting(t, c, one, two, parted)
}

func mustSpans(t *testing.T, c api.MetamerCase, chip []int64) []api.Range {
	t.Helper()
	r, e := metamer.Spans(c, chip)
	if len(r) != 3 || e != api.OK {
		t.Fatal(c, chip, r, e)
	}
	return r
}

func mustApart(t *testing.T, c api.MetamerCase, one, two []int64) []api.Range {
	t.Helper()
	r, e := metamer.Apart(c, one, two)
	if len(r) != 3 || e != api.OK {
		t.Fatal(c, one, two, r, e)
	}
	return r
}

// smallRanges returns all valid ranges with ends from 0 to a number.
func smallRanges(most int64) []api.Range {
	var l []api.Range
	for lo := range most + 1 {
		for hi := lo; hi <= most; hi++ {
			l = append(l, rg(lo, hi))
		}
	}
	return l
}

// P4.2 to P4.6 for one band: the lamp and the first curve have all ranges with
// ends up to 2, the second curve some of them, and the third one is the same in
// all cases.
func TestOneBand(t *testing.T) {
	for _, lamp := range smallRanges(2) {
		for _, first := range smallRanges(2) {
			for _, second := range []api.Range{first, rg(0, 0), rg(1, 1), rg(0, 1)} {
				c := api.MetamerCase{
					Eye:  [][]api.Range{{first}, {second}, {rg(1, 2)}},
					Lamp: []api.Range{lamp},
				}
				for one := range int64(4) {
					for two := range int64(4) {
						judge(t, c, list(one), list(two))
					}
				}
			}
		}
	}
}

// P4.2 to P4.6 for two bands, for all chips with numbers up to 2: the lamp, which
// is the same in both bands, and the first curve in the first band have all
// ranges with ends up to 2; the rest is the same in all cases.
func TestTwoBands(t *testing.T) {
	small := smallRanges(2)
	for _, lamp := range small {
		for _, curve := range small {
			c := evenCase(2, rg(0, 1), lamp)
			c.Eye[0], c.Eye[1] = []api.Range{curve, rg(1, 1)}, exact(0, 2)
			for chips := range allWithin(sameRanges(4, rg(0, 2))) {
				judge(t, c, chips[:2], chips[2:])
			}
		}
	}
}

// someRange returns a range with ends up to a number, no wider than another one.
func someRange(chance *rand.Rand, most, wide int64) api.Range {
	lo := chance.Int63n(most + 1)
	return rg(lo, min(most, lo+chance.Int63n(wide+1)))
}

func someRanges(chance *rand.Rand, n int, most, wide int64) []api.Range {
	var l []api.Range
	for range n {
		l = append(l, someRange(chance, most, wide))
	}
	return l
}

func someCase(chance *rand.Rand, bands int, most, wide int64) api.MetamerCase {
	c := api.MetamerCase{Lamp: someRanges(chance, bands, most, wide)}
	for range 3 {
		c.Eye = append(c.Eye, someRanges(chance, bands, most, wide))
	}
	return c
}

func someNumbers(chance *rand.Rand, n int, most int64) []int64 {
	var l []int64
	for range n {
		l = append(l, chance.Int63n(most+1))
	}
	return l
}

// someWithin returns numbers in the ranges at their places; often ends.
func someWithin(chance *rand.Rand, within []api.Range) []int64 {
	var l []int64
	for _, r := range within {
		switch chance.Intn(4) {
		case 0:
			l = append(l, r.Lo)
		case 1:
			l = append(l, r.Hi)
		default:
			l = append(l, r.Lo+chance.Int63n(r.Hi-r.Lo+1))
		}
	}
	return l
}

func someTruth(chance *rand.Rand, c api.MetamerCase) api.MetamerTrue {
	x := api.MetamerTrue{Lamp: someWithin(chance, c.Lamp)}
	for _, curve := range c.Eye {
		x.Eye = append(x.Eye, someWithin(chance, curve))
	}
	return x
}

// P4.2 to P4.6 for cases by all their truths.
func TestSomeSmallCases(t *testing.T) {
	chance := rand.New(rand.NewSource(41))
	for range 1500 {
		judge(t, someCase(chance, 2, 3, 1), someNumbers(chance, 2, 3), someNumbers(chance, 2, 3))
	}
	for range 40 {
		judge(t, someCase(chance, 3, 100, 1), someNumbers(chance, 3, 1000), someNumbers(chance, 3, 1000))
	}
	// Here chips match now and then, by all truths that there are.
	for range 3000 {
		bands := 1 + chance.Intn(4)
		judge(t, someCase(chance, bands, 2, 0), someNumbers(chance, bands, 2), someNumbers(chance, bands, 2))
	}
}

// cornered returns the least and the greatest sum of a curve: in each band one
// of the four products of ends is the least, and one is the greatest.
func cornered(curve, lamp []api.Range, numbers []int64) api.Range {
	var sum api.Range
	for b, n := range numbers {
		corners := list(curve[b].Lo*lamp[b].Lo*n, curve[b].Lo*lamp[b].Hi*n, curve[b].Hi*lamp[b].Lo*n, curve[b].Hi*lamp[b].Hi*n)
		sum = rg(sum.Lo+slices.Min(corners), sum.Hi+slices.Max(corners))
	}
	return sum
}

func corneredAll(c api.MetamerCase, numbers []int64) []api.Range {
	var l []api.Range
	for _, curve := range c.Eye {
		l = append(l, cornered(curve, c.Lamp, numbers))
	}
	return l
}

// P4.2 to P4.6 for great cases.
func TestGreatCases(t *testing.T) {
	chance := rand.New(rand.NewSource(42))
	for range 5000 {
		bands := 1 + chance.Intn(mostBands)
		c := someCase(chance, bands, 100, []int64{0, 2, 100}[chance.Intn(3)])
		one, two := someNumbers(chance, bands, mostChip), someNumbers(chance, bands, mostChip)
		if want, r := corneredAll(c, one), mustSpans(t, c, one); !slices.Equal(r, want) {
			t.Fatal(c, one, r, want)
		}
		want := corneredAll(c, less(one, two))
		if r := mustApart(t, c, one, two); !slices.Equal(r, want) {
			t.Fatal(c, one, two, r, want)
		}
		judgeParting(t, c, one, two, !slices.Equal(want, make([]api.Range, 3)))
		x := someTruth(chance, c)
		if n, e := metamer.Numbers(c, x, one); !slices.Equal(n, three(x, one)) || e != api.OK {
			t.Fatal(c, x, one, n, e)
		}
	}
}

// spectrumOf returns the spectrum of a set.
func spectrumOf(p api.MetamerPalette, set int) []int64 {
	sum := make([]int64, len(p.Pigments[0]))
	for i, pigment := range p.Pigments {
		if set&(1<<i) != 0 {
			for b, n := range pigment {
				sum[b] += n
			}
		}
	}
	return sum
}

// differ reports whether two lists differ by more than a number somewhere.
func differ(one, two []int64, most int64) bool {
	for b, n := range one {
		if n-two[b] > most || two[b]-n > most {
			return true
		}
	}
	return false
}

// fitting returns all sets that a measurement fits.
func fitting(p api.MetamerPalette, measured []int64) []int {
	var l []int
	for set := range 1 << len(p.Pigments) {
		if !differ(spectrumOf(p, set), measured, p.Error) {
			l = append(l, set)
		}
	}
	return l
}

// middle returns what lies in the middle of two spectra: if there is a
// measurement that fits both, this one does.
func middle(one, two []int64) []int64 {
	var l []int64
	for b := range one {
		l = append(l, (one[b]+two[b])/2)
	}
	return l
}

// firstClash returns the first two sets that clash, or 0 and 0.
func firstClash(p api.MetamerPalette) (int, int) {
	sets := 1 << len(p.Pigments)
	var spectra [][]int64
	for set := range sets {
		spectra = append(spectra, spectrumOf(p, set))
	}
	for first := range sets {
		for second := first + 1; second < sets; second++ {
			between := middle(spectra[first], spectra[second])
			if !differ(spectra[first], between, p.Error) && !differ(spectra[second], between, p.Error) {
				return first, second
			}
		}
	}
	return 0, 0
}

func judgeClash(t *testing.T, p api.MetamerPalette) bool {
	t.Helper()
	first, second := firstClash(p)
	want := api.OK
	if second == 0 {
		want = api.ErrNone
	}
	a, b, e := metamer.Clash(p)
	if a != first || b != second || e != want {
		t.Fatal(p, a, b, e, first, second, want)
	}
	return second != 0
}

func judgePalette(t *testing.T, p api.MetamerPalette) bool {
	t.Helper()
	for set := range 1 << len(p.Pigments) {
		if s, e := metamer.Mix(p, set); !slices.Equal(s, spectrumOf(p, set)) || e != api.OK {
			t.Fatal(p, set, s, e)
		}
	}
	return judgeClash(t, p)
}

func judgeFit(t *testing.T, p api.MetamerPalette, measured []int64) {
	t.Helper()
	if sets, e := metamer.Fit(p, measured); !slices.Equal(sets, fitting(p, measured)) || e != api.OK {
		t.Fatal(p, measured, sets, e)
	}
}

// P4.8 to P4.10 for all palettes with three pigments in one band, up to 6, and
// with two in two bands, up to 3.
func TestAllSmallPalettes(t *testing.T) {
	for off := range int64(3) {
		for l := range allWithin(sameRanges(3, rg(0, 6))) {
			p := api.MetamerPalette{Pigments: rows(l[:1], l[1:2], l[2:]), Error: off}
			judgePalette(t, p)
			for n := int64(-4); n < 22; n++ {
				judgeFit(t, p, list(n))
			}
		}
		for l := range allWithin(sameRanges(4, rg(0, 3))) {
			p := api.MetamerPalette{Pigments: rows(l[:2], l[2:]), Error: off}
			judgePalette(t, p)
			for measured := range allWithin(sameRanges(2, rg(-off, 6+off))) {
				judgeFit(t, p, measured)
			}
		}
	}
}

func somePalette(chance *rand.Rand, pigments, bands int, most, off int64) api.MetamerPalette {
	p := api.MetamerPalette{Error: off}
	for range pigments {
		p.Pigments = append(p.Pigments, someNumbers(chance, bands, most))
	}
	return p
}

// P4.8 to P4.10 for palettes of all sizes.
func TestSomePalettes(t *testing.T) {
	chance := rand.New(rand.NewSource(43))
	clashes, palettes := 0, 1500
	for n := range palettes {
		bands, most := 1+chance.Intn(mostBands), []int64{1, 9, 60, mostChip}[n%4]
		p := somePalette(chance, 1+chance.Intn(6), bands, most, chance.Int63n(min(1+most/4, mostError+1)))
		if judgePalette(t, p) {
			clashes++
		}
		for range 4 {
			measured := spectrumOf(p, chance.Intn(1<<len(p.Pigments)))
			for b := range measured {
				measured[b] += chance.Int63n(2*p.Error+3) - p.Error - 1
			}
			judgeFit(t, p, measured)
		}
	}
	if clashes < palettes/5 || clashes > palettes*4/5 {
		t.Error(clashes)
	}
}

// P4.8 to P4.10 for as many pigments as can be.
func TestGreatPalettes(t *testing.T) {
	chance := rand.New(rand.NewSource(44))
	clashes, palettes := 0, 30
	for n := range palettes {
		bands := []int{1, 2, 4, 8}[n%4]
		off := []int64{0, 3, 25}[n%3]
		p := somePalette(chance, 9+chance.Intn(4), bands, mostChip, off)
		// Some bands tell nothing, so that others must.
		for b := range bands {
			if chance.Intn(3) == 0 {
				for _, pigment := range p.Pigments {
					pigment[b] = 0
				}
			}
		}
		if judgeClash(t, p) {
			clashes++
		}
		judgeFit(t, p, spectrumOf(p, chance.Intn(1<<len(p.Pigments))))
	}
	if clashes < palettes/5 || clashes > palettes*4/5 {
		t.Error(clashes)
	}
}
