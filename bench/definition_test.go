package bench_test

// What the chapter defines, written down once more in the plainest way, and
// compared with the functions on all small arguments and many great ones.

import (
	"iter"
	"math/big"
	"math/rand"
	"slices"
	"testing"

	"lampblack/api"
	"lampblack/bench"
)

// exchanges tells for each pair whether it exchanges lamps of a row.
func exchanges(p []api.BenchPair, powers []int64) []bool {
	l := make([]bool, len(p))
	r := slices.Clone(powers)
	for i, q := range p {
		if r[q.Right] > r[q.Left] {
			r[q.Left], r[q.Right] = r[q.Right], r[q.Left]
			l[i] = true
		}
	}
	return l
}

// made returns the row that a programme makes of a row.
func made(p []api.BenchPair, powers []int64) []int64 {
	r := slices.Clone(powers)
	for _, q := range p {
		if r[q.Right] > r[q.Left] {
			r[q.Left], r[q.Right] = r[q.Right], r[q.Left]
		}
	}
	return r
}

func inOrder(r []int64) bool {
	for i := 1; i < len(r); i++ {
		if r[i] > r[i-1] {
			return false
		}
	}
	return true
}

func picked(r []int64, best int) bool {
	return slices.Min(r[:best]) >= slices.Max(r[best:])
}

// powerRows yields all rows of powers below a number, in lexicographic order.
func powerRows(lamps int, below int64) iter.Seq[[]int64] {
	return func(yield func([]int64) bool) {
		r := make([]int64, lamps)
		for yield(r) {
			i := lamps - 1
			for ; i >= 0 && r[i] == below-1; i-- {
				r[i] = 0
			}
			if i < 0 {
				return
			}
			r[i]++
		}
	}
}

// firstRow returns the first row of powers below a number that is not right.
func firstRow(lamps int, below int64, right func([]int64) bool) ([]int64, bool) {
	for r := range powerRows(lamps, below) {
		if !right(r) {
			return slices.Clone(r), true
		}
	}
	return nil, false
}

// wrongRow returns the first row of dark and bright lamps that fails a test.
func wrongRow(lamps int, p []api.BenchPair, best int) ([]int64, bool) {
	return firstRow(lamps, 2, func(r []int64) bool {
		if best == lamps {
			return inOrder(made(p, r))
		}
		return picked(made(p, r), best)
	})
}

// wrongMerge returns the first row of dark and bright lamps, in two parts that are in order, that is not put in order.
func wrongMerge(lamps int, p []api.BenchPair, first int) ([]int64, bool) {
	return firstRow(lamps, 2, func(r []int64) bool {
		return !inOrder(r[:first]) || !inOrder(r[first:]) || inOrder(made(p, r))
	})
}

// depth returns the depth of a programme by the definition of rounds.
func depth(p []api.BenchPair) int {
	rounds := make([]int, len(p))
	most := 0
	for i, q := range p {
		for j, before := range p[:i] {
			if q.Left == before.Left || q.Left == before.Right || q.Right == before.Left || q.Right == before.Right {
				rounds[i] = max(rounds[i], rounds[j])
			}
		}
		rounds[i]++
		most = max(most, rounds[i])
	}
	return most
}

// useless returns the pairs that exchange lamps on no row of powers below a number.
func useless(lamps int, p []api.BenchPair, below int64) []int {
	exchanged := make([]bool, len(p))
	for r := range powerRows(lamps, below) {
		for i, e := range exchanges(p, r) {
			exchanged[i] = exchanged[i] || e
		}
	}
	var l []int
	for i, e := range exchanged {
		if !e {
			l = append(l, i)
		}
	}
	return l
}

// allPairs returns all pairs for so many lamps.
func allPairs(lamps int) []api.BenchPair {
	var l []api.BenchPair
	for right := range lamps {
		for left := range right {
			l = append(l, api.BenchPair{Left: left, Right: right})
		}
	}
	return l
}

// programmes yields all programmes of at most so many pairs.
func programmes(lamps, pairs int) iter.Seq[[]api.BenchPair] {
	return func(yield func([]api.BenchPair) bool) {
		var grow func(p []api.BenchPair) bool
		grow = func(p []api.BenchPair) bool {
			if !yield(p) {
				return false
			}
			if len(p) == pairs {
				return true
			}
			for _, q := range allPairs(lamps) {
				if !grow(append(slices.Clone(p), q)) {
					return false
				}
			}
			return true
		}
		grow(nil)
	}
}

// someProgramme returns a programme: by chance, or one that puts rows in order
// but for what is done to it.
func someProgramme(chance *rand.Rand, lamps int) []api.BenchPair {
	pairs := allPairs(lamps)
	var p []api.BenchPair
	if chance.Intn(3) > 0 {
		p = bubbles(lamps)
		if chance.Intn(2) == 0 {
			p, _ = bench.Build(lamps)
		}
		for range chance.Intn(4) {
			at := chance.Intn(len(p))
			switch chance.Intn(3) {
			case 0:
				p[at] = pairs[chance.Intn(len(pairs))]
			case 1:
				p = slices.Insert(p, at, pairs[chance.Intn(len(pairs))])
			default:
				if len(p) > 1 {
					p = slices.Delete(p, at, at+1)
				}
			}
		}
		return p
	}
	for range chance.Intn(81) {
		p = append(p, pairs[chance.Intn(len(pairs))])
	}
	return p
}

func someRow(chance *rand.Rand, lamps int, below int64) []int64 {
	r := make([]int64, lamps)
	for i := range r {
		r[i] = chance.Int63n(below)
	}
	return r
}

func someRange(chance *rand.Rand, from, to int64) api.Range {
	a, b := from+chance.Int63n(to-from+1), from+chance.Int63n(to-from+1)
	return api.Range{Lo: min(a, b), Hi: max(a, b)}
}

// checkProgramme compares all functions of a programme with their definitions.
func checkProgramme(t *testing.T, lamps int, p []api.BenchPair) {
	t.Helper()
	if e := bench.CheckProgramme(lamps, p); e != api.OK {
		t.Fatal(lamps, p, e)
	}
	if n, e := bench.Depth(lamps, p); n != depth(p) || e != api.OK {
		t.Fatal(lamps, p, n, e)
	}
	for best := 1; best <= lamps; best++ {
		want, wrong := wrongRow(lamps, p, best)
		if r, e := bench.Test(lamps, p, best); !slices.Equal(r, want) || wrong != (e == api.OK) || !wrong != (e == api.ErrNone) {
			t.Fatal(lamps, p, best, r, e, "want", want)
		}
	}
	for first := 1; first < lamps; first++ {
		want, wrong := wrongMerge(lamps, p, first)
		if r, e := bench.Merge(lamps, p, first); !slices.Equal(r, want) || wrong != (e == api.OK) || !wrong != (e == api.ErrNone) {
			t.Fatal(lamps, p, first, r, e, "want", want)
		}
	}
	below := int64(2)
	if lamps <= 4 {
		below = int64(lamps)
	}
	want := useless(lamps, p, below)
	if l, e := bench.Useless(lamps, p); !slices.Equal(l, want) || e != api.OK {
		t.Fatal(lamps, p, l, e, "want", want)
	}
	var trimmed []api.BenchPair
	for i, q := range p {
		if !slices.Contains(want, i) {
			trimmed = append(trimmed, q)
		}
	}
	if l, e := bench.Trim(lamps, p); !slices.Equal(l, trimmed) || e != api.OK {
		t.Fatal(lamps, p, l, e, "want", trimmed)
	}
}

func TestSmallProgrammes(t *testing.T) {
	for lamps, pairs := range []int{2: 4, 3: 4, 4: 4} {
		if lamps < 2 {
			continue
		}
		for p := range programmes(lamps, pairs) {
			checkProgramme(t, lamps, p)
		}
	}
}

func TestSomeProgrammes(t *testing.T) {
	chance := rand.New(rand.NewSource(1))
	for lamps, times := range []int{2: 30, 3: 200, 4: 200, 5: 200, 6: 100, 7: 50, 8: 25, 9: 8, 10: 5, 11: 3, 12: 2} {
		for range times {
			checkProgramme(t, lamps, someProgramme(chance, lamps))
		}
	}
}

func TestRunByDefinition(t *testing.T) {
	chance := rand.New(rand.NewSource(2))
	for range 5000 {
		lamps := 2 + chance.Intn(11)
		p := someProgramme(chance, lamps)
		powers := someRow(chance, lamps, []int64{2, 5, 100001}[chance.Intn(3)])
		want := made(p, powers)
		if r, e := bench.Run(p, powers); !slices.Equal(r, want) || e != api.OK {
			t.Fatal(p, powers, r, e, "want", want)
		}
	}
}

// places tries all powers of all lamps.
func places(l []api.Range) []api.Range {
	powers := make([]int64, len(l))
	found := make([]api.Range, len(l))
	for i := range found {
		found[i].Lo = int64(len(l))
	}
	var try func(i int)
	try = func(i int) {
		if i < len(l) {
			for powers[i] = l[i].Lo; powers[i] <= l[i].Hi; powers[i]++ {
				try(i + 1)
			}
			return
		}
		for j, power := range powers {
			n := int64(0)
			for _, other := range powers {
				if other > power {
					n++
				}
			}
			found[j].Lo, found[j].Hi = min(found[j].Lo, n), max(found[j].Hi, n)
		}
	}
	try(0)
	return found
}

func TestPlacesByDefinition(t *testing.T) {
	chance := rand.New(rand.NewSource(3))
	for range 3000 {
		l := make([]api.Range, 1+chance.Intn(5))
		for i := range l {
			l[i] = someRange(chance, 0, 5)
		}
		want := places(l)
		if got, e := bench.Places(l); !slices.Equal(got, want) || e != api.OK {
			t.Fatal(l, got, e, "want", want)
		}
	}
}

func rat(r api.Ratio) *big.Rat { return big.NewRat(r.Num, r.Den) }

// powerOf returns the power of the lamp by a truth of a bar.
func powerOf(b api.BenchBar, x api.BenchTrue) *big.Rat {
	squared := new(big.Int).Mul(big.NewInt(x.Screen), big.NewInt(x.Screen))
	light := new(big.Rat).SetFrac(big.NewInt(x.Power), squared)
	light.Sub(light, big.NewRat(x.Stray, api.BenchPart))
	far := new(big.Rat).SetInt64(b.Long - x.Screen)
	light.Mul(light, far)
	light.Mul(light, far)
	if light.Sign() < 0 {
		light.SetInt64(0)
	}
	return light
}

// isLeast reports whether a ratio is one, and in least terms.
func isLeast(r api.Ratio) bool {
	return r.Den > 0 && rat(r).Denom().Cmp(big.NewInt(r.Den)) == 0
}

// someBar returns a valid bar on which the law of squares holds: a short one
// with narrow ranges, or any.
func someBar(chance *rand.Rand, short bool) api.BenchBar {
	long, power, stray := int64(mostLong), int64(mostPower), int64(mostStray)
	if short {
		long, power, stray = 12, 4, 1000
	}
	b := api.BenchBar{Long: 2 + chance.Int63n(long-1)}
	b.Power = someRange(chance, 1, 1+chance.Int63n(power))
	b.Screen = someRange(chance, 1, b.Long-1)
	b.Stray = someRange(chance, 0, chance.Int63n(stray+1))
	if short {
		b.Stray.Lo = max(b.Stray.Lo, b.Stray.Hi-3)
	}
	b.Near = 1 + chance.Int63n(min(b.Screen.Lo, b.Long-b.Screen.Hi))
	return b
}

// truths yields all truths of a bar.
func truths(b api.BenchBar) iter.Seq[api.BenchTrue] {
	return func(yield func(api.BenchTrue) bool) {
		for power := b.Power.Lo; power <= b.Power.Hi; power++ {
			for screen := b.Screen.Lo; screen <= b.Screen.Hi; screen++ {
				for stray := b.Stray.Lo; stray <= b.Stray.Hi; stray++ {
					if !yield(truth(power, screen, stray)) {
						return
					}
				}
			}
		}
	}
}

func TestShortBars(t *testing.T) {
	chance := rand.New(rand.NewSource(4))
	for range 500 {
		b := someBar(chance, true)
		var lo, hi *big.Rat
		for x := range truths(b) {
			want := powerOf(b, x)
			if r, e := bench.Value(b, x); e != api.OK || !isLeast(r) || rat(r).Cmp(want) != 0 {
				t.Fatal(b, x, r, e, "want", want)
			}
			if lo == nil || want.Cmp(lo) < 0 {
				lo = want
			}
			if hi == nil || want.Cmp(hi) > 0 {
				hi = want
			}
		}
		s, e := bench.Span(b)
		if e != api.OK || !isLeast(s.Lo) || !isLeast(s.Hi) || rat(s.Lo).Cmp(lo) != 0 || rat(s.Hi).Cmp(hi) != 0 {
			t.Fatal(b, s, e, "want", lo, hi)
		}
	}
}

// TestStrayBars has bars on which the power may be 0 by some truths only.
func TestStrayBars(t *testing.T) {
	chance := rand.New(rand.NewSource(5))
	dark := 0
	for range 300 {
		b := bar(200, 1, 1, 3, 10, 190, 0, 1000)
		b.Power = someRange(chance, 1, 5)
		b.Screen = someRange(chance, 10, 190)
		b.Stray = api.Range{Lo: chance.Int63n(1001)}
		b.Stray.Hi = min(b.Stray.Lo+1, 1000)
		s, e := bench.Span(b)
		if e != api.OK {
			t.Fatal(b, e)
		}
		lo, hi := false, false
		for x := range truths(b) {
			r := powerOf(b, x)
			if r.Cmp(rat(s.Lo)) < 0 || r.Cmp(rat(s.Hi)) > 0 {
				t.Fatal(b, x, r, s)
			}
			lo, hi = lo || r.Cmp(rat(s.Lo)) == 0, hi || r.Cmp(rat(s.Hi)) == 0
		}
		if !lo || !hi {
			t.Fatal(b, s)
		}
		if s.Lo.Num == 0 && s.Hi.Num > 0 {
			dark++
		}
	}
	if dark < 50 {
		t.Error(dark)
	}
}

func TestLongBars(t *testing.T) {
	chance := rand.New(rand.NewSource(6))
	for range 20000 {
		b := someBar(chance, false)
		x := someTruth(chance, b)
		if r, e := bench.Value(b, x); e != api.OK || !isLeast(r) || rat(r).Cmp(powerOf(b, x)) != 0 {
			t.Fatal(b, x, r, e)
		}
	}
}

// someTruth returns a truth of a bar.
func someTruth(chance *rand.Rand, b api.BenchBar) api.BenchTrue {
	of := func(r api.Range) int64 {
		switch chance.Intn(4) {
		case 0:
			return r.Lo
		case 1:
			return r.Hi
		}
		return r.Lo + chance.Int63n(r.Hi-r.Lo+1)
	}
	return truth(of(b.Power), of(b.Screen), of(b.Stray))
}

func TestCheckBarByDefinition(t *testing.T) {
	isRange := func(r api.Range, from, to int64) bool { return from <= r.Lo && r.Lo <= r.Hi && r.Hi <= to }
	numbers := []int64{-1 << 63, -1, 0, 1, 2, 3, 4, 5, 999, 1000, 1001, 4999, 5000, 5001, 100000, 100001, 1<<63 - 1}
	chance := rand.New(rand.NewSource(7))
	seen := map[api.Errno]int{}
	for range 200000 {
		b := someBar(chance, chance.Intn(2) == 0)
		fields := []*int64{&b.Long, &b.Near, &b.Power.Lo, &b.Power.Hi, &b.Screen.Lo, &b.Screen.Hi, &b.Stray.Lo, &b.Stray.Hi}
		for range chance.Intn(3) {
			*fields[chance.Intn(len(fields))] = numbers[chance.Intn(len(numbers))]
		}
		want := api.OK
		switch {
		case b.Long < 2 || b.Long > mostLong || b.Near < 1 || b.Near > b.Long,
			!isRange(b.Power, 1, mostPower), !isRange(b.Screen, 1, b.Long-1), !isRange(b.Stray, 0, mostStray):
			want = api.ErrArg
		case b.Screen.Lo < b.Near || b.Long-b.Screen.Hi < b.Near:
			want = api.ErrRule
		}
		if e := bench.CheckBar(b); e != want {
			t.Fatal(b, e, "want", want)
		}
		seen[want]++
	}
	if seen[api.OK] < 1000 || seen[api.ErrArg] < 1000 || seen[api.ErrRule] < 1000 {
		t.Error(seen)
	}
}
