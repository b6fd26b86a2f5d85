package metamer_test

import (
	"math"
	"math/rand"
	"slices"
	"testing"

	"lampblack/api"
	"lampblack/metamer"
)

// full returns a list with room behind it, in which something would be seen
// that is written there.
func full[T any](l []T, rest T) (part, room []T) {
	room = append(slices.Clone(l), rest, rest, rest)
	return room[:len(l)], room
}

// fullRows is full for all rows of a table.
func fullRows[T any](l [][]T, rest T) (part, room [][]T) {
	for _, row := range l {
		some, all := full(row, rest)
		part, room = append(part, some), append(room, all)
	}
	return part, room
}

func areSameRows[T comparable](one, two [][]T) bool { return slices.EqualFunc(one, two, slices.Equal) }

func copiedRows[T any](l [][]T) [][]T {
	var other [][]T
	for _, row := range l {
		other = append(other, slices.Clone(row))
	}
	return other
}

// callAll calls all functions.
func callAll(c api.MetamerCase, x api.MetamerTrue, one, two []int64, p api.MetamerPalette, set int) {
	metamer.CheckCase(c)
	metamer.Numbers(c, x, one)
	metamer.Spans(c, one)
	metamer.Apart(c, one, two)
	metamer.Surely(c, one, two)
	metamer.Parting(c, one, two)
	metamer.CheckPalette(p)
	metamer.Mix(p, set)
	metamer.Fit(p, one)
	metamer.Clash(p)
}

// R5: no argument is changed, nor what lies behind it.
func TestArgumentsAreKept(t *testing.T) {
	var c, caseRoom api.MetamerCase
	var x, truthRoom api.MetamerTrue
	var p, paletteRoom api.MetamerPalette
	c.Eye, caseRoom.Eye = fullRows(caseC().Eye, rg(7, 9))
	c.Lamp, caseRoom.Lamp = full(caseC().Lamp, rg(7, 9))
	x.Eye, truthRoom.Eye = fullRows(truthC(2).Eye, 77)
	x.Lamp, truthRoom.Lamp = full(truthC(2).Lamp, 77)
	p.Pigments, paletteRoom.Pigments = fullRows(rows(chipA(), list(9, 8, 7, 6), chipB()), 77)
	one, oneRoom := full(chipA(), 77)
	two, twoRoom := full(chipB(), 77)
	wholeCase := copiedCase(caseRoom)
	wholeTruth := api.MetamerTrue{Eye: copiedRows(truthRoom.Eye), Lamp: slices.Clone(truthRoom.Lamp)}
	wholePalette := copiedRows(paletteRoom.Pigments)
	wholeOne, wholeTwo := slices.Clone(oneRoom), slices.Clone(twoRoom)
	for set := range 9 {
		callAll(c, x, one, two, p, set)
		callAll(c, x, two, one, p, set)
	}
	if !areSameRows(caseRoom.Eye, wholeCase.Eye) || !slices.Equal(caseRoom.Lamp, wholeCase.Lamp) {
		t.Error(caseRoom)
	}
	if !areSame(truthRoom, wholeTruth) || !areSameRows(paletteRoom.Pigments, wholePalette) {
		t.Error(truthRoom, paletteRoom)
	}
	if !slices.Equal(oneRoom, wholeOne) || !slices.Equal(twoRoom, wholeTwo) {
		t.Error(oneRoom, twoRoom)
	}
}

// spoil writes over a list and what lies behind it.
func spoil[T any](l []T, rest T) {
	room := l[:cap(l)]
	for i := range room {
		room[i] = rest
	}
}

// isNew checks that a list shares no memory with that of an equal call, and
// that nothing of it is kept.
func isNew[T comparable](t *testing.T, name string, call func() []T, rest T) {
	t.Helper()
	one, two := call(), call()
	want := slices.Clone(two)
	spoil(one, rest)
	if three := call(); len(want) == 0 || !slices.Equal(two, want) || !slices.Equal(three, want) {
		t.Error(name, one, two, three)
	}
}

// R4, R5: lists share no memory with each other or with an argument, and
// nothing of them is kept.
func TestListsAreNew(t *testing.T) {
	c, x, one, two := caseC(), truthC(2), chipA(), chipB()
	p := api.MetamerPalette{Pigments: rows(chipA(), list(9, 8, 7, 6)), Error: 9}
	isNew(t, "Numbers", func() []int64 { l, _ := metamer.Numbers(c, x, one); return l }, 77)
	isNew(t, "Spans", func() []api.Range { l, _ := metamer.Spans(c, one); return l }, rg(7, 9))
	isNew(t, "Apart", func() []api.Range { l, _ := metamer.Apart(c, one, two); return l }, rg(7, 9))
	isNew(t, "Mix", func() []int64 { l, _ := metamer.Mix(p, 1); return l }, 77)
	isNew(t, "Fit", func() []int { l, _ := metamer.Fit(p, one); return l }, 77)
	isNew(t, "Lamp", func() []int64 { l, _ := metamer.Parting(c, one, two); return l.Lamp }, 77)
	for curve := range 3 {
		isNew(t, "curve", func() []int64 { l, _ := metamer.Parting(c, one, two); return l.Eye[curve] }, 77)
	}
	isNew(t, "number of curves", func() []int {
		l, _ := metamer.Parting(c, one, two)
		n := len(l.Eye)
		spoil(l.Eye, nil)
		return []int{n}
	}, 77)
	if !areSameRows(c.Eye, caseC().Eye) || !slices.Equal(c.Lamp, caseC().Lamp) || !areSame(x, truthC(2)) ||
		!areSameRows(p.Pigments, rows(chipA(), list(9, 8, 7, 6))) || !slices.Equal(one, chipA()) || !slices.Equal(two, chipB()) {
		t.Error(c, x, p, one, two)
	}
}

// R5: the lists of one truth share no memory with each other.
func TestListsOfTruth(t *testing.T) {
	for changed := range 4 {
		x, e := metamer.Parting(caseC(), chipA(), chipB())
		lists := append(slices.Clone(x.Eye), x.Lamp)
		want := copiedRows(lists)
		if len(lists) != 4 || e != api.OK {
			t.Fatal(x, e)
		}
		spoil(lists[changed], 77)
		for i, l := range lists {
			if i != changed && !slices.Equal(l, want[i]) {
				t.Error(changed, i, l)
			}
		}
	}
}

// result is what all functions return for a case and two chips.
type result struct {
	numbers      []int64
	spans, apart []api.Range
	x            api.MetamerTrue
	e            [5]api.Errno
}

func results(c api.MetamerCase, x api.MetamerTrue, one, two []int64) (r result) {
	r.numbers, r.e[0] = metamer.Numbers(c, x, one)
	r.spans, r.e[1] = metamer.Spans(c, one)
	r.apart, r.e[2] = metamer.Apart(c, one, two)
	r.x, r.e[3] = metamer.Parting(c, one, two)
	r.e[4] = metamer.Surely(c, one, two)
	return r
}

func (r result) equals(other result) bool {
	return slices.Equal(r.numbers, other.numbers) && slices.Equal(r.spans, other.spans) &&
		slices.Equal(r.apart, other.apart) && areSame(r.x, other.x) && r.e == other.e
}

// R4, R10: equal calls return equal results, whatever is called in between.
func TestEqualCalls(t *testing.T) {
	chance := rand.New(rand.NewSource(61))
	var again []func() bool
	for range 60 {
		bands := 1 + chance.Intn(mostBands)
		c, one, two := someMatch(chance, bands)
		if chance.Intn(2) == 0 {
			two = someNumbers(chance, bands, mostChip)
		}
		x := someTruth(chance, c)
		first := results(c, x, one, two)
		again = append(again, func() bool {
			return results(copiedCase(c), x, slices.Clone(one), slices.Clone(two)).equals(first)
		})
		p := somePalette(chance, 1+chance.Intn(9), bands, mostChip, 30)
		light := spectrumOf(p, 1)
		sets := mustFit(t, p, light)
		a, b, e := metamer.Clash(p)
		again = append(again, func() bool {
			a2, b2, e2 := metamer.Clash(api.MetamerPalette{Pigments: copiedRows(p.Pigments), Error: 30})
			return a == a2 && b == b2 && e == e2 && slices.Equal(sets, mustFit(t, p, slices.Clone(light)))
		})
	}
	slices.Reverse(again)
	for i, equal := range again {
		if !equal() {
			t.Error(i)
		}
	}
}

// R3: nil and empty lists are the same.
func TestNilAndEmpty(t *testing.T) {
	for _, c := range []api.MetamerCase{{}, {Eye: [][]api.Range{}, Lamp: []api.Range{}}, {Eye: [][]api.Range{nil, {}, nil}}} {
		if e := metamer.CheckCase(c); e != api.ErrMany {
			t.Error(c, e)
		}
	}
	for _, eye := range [][][]api.Range{nil, {}, {nil, nil, nil}, {{}, {}, {}}} {
		c := caseC()
		c.Eye = eye
		if e := metamer.CheckCase(c); e != api.ErrEqual {
			t.Error(c, e)
		}
	}
	for _, x := range []api.MetamerTrue{{}, {Eye: [][]int64{}, Lamp: []int64{}}, {Eye: rows(nil, list(), nil)}} {
		if n, e := metamer.Numbers(caseC(), x, chipA()); len(n) != 0 || e != api.ErrEqual {
			t.Error(x, n, e)
		}
	}
	for _, pigments := range [][][]int64{nil, {}, {nil}, {{}}, {nil, {1}}, {{}, {1}}} {
		if e := metamer.CheckPalette(api.MetamerPalette{Pigments: pigments}); e != api.ErrMany {
			t.Error(pigments, e)
		}
	}
	for _, pigment := range rows(nil, list()) {
		if e := metamer.CheckPalette(api.MetamerPalette{Pigments: rows(list(1), pigment)}); e != api.ErrEqual {
			t.Error(pigment, e)
		}
	}
}

// P1: all functions end, and do not panic, for all arguments.
func TestAnyNumber(t *testing.T) {
	numbers := list(math.MinInt64, math.MinInt64+1, -1<<32, -1, 0, 1, 100, 101, 1000, 1001, 1<<32, 1<<62, math.MaxInt64)
	for _, a := range numbers {
		for _, b := range numbers {
			c, x, p := caseC(), truthC(1), paletteP(b)
			callAll(c, x, list(a, b, a, b), list(b, a, a, 0), p, int(a))
			callAll(c, x, list(a), chipB(), paletteP(0), int(b))
			p.Pigments[1] = list(a)
			x.Lamp[0], x.Eye[1][1] = a, b
			callAll(c, x, chipA(), chipB(), p, 1)
			c.Eye[0][0] = rg(a, b)
			callAll(c, x, chipA(), chipB(), p, 1)
			c = caseC()
			c.Lamp[1] = rg(a, b)
			callAll(c, x, chipA(), chipB(), p, 1)
		}
	}
}

// P1: lists of all lengths.
func TestAnyLength(t *testing.T) {
	for _, n := range []int{0, 1, 2, 3, 4, 7, 8, 9, 12, 13, 1 << 20} {
		for _, m := range []int{0, 1, 3, 4, 8, 9, 12, 13} {
			c := api.MetamerCase{Eye: slices.Repeat([][]api.Range{make([]api.Range, n)}, m), Lamp: make([]api.Range, n)}
			x := api.MetamerTrue{Eye: slices.Repeat(rows(make([]int64, m)), m), Lamp: make([]int64, n)}
			p := api.MetamerPalette{Pigments: slices.Repeat(rows(make([]int64, n)), m)}
			chip, other := make([]int64, n), make([]int64, m)
			callAll(c, x, chip, other, p, m)
			callAll(c, x, other, chip, p, n)
			callAll(caseC(), x, chipA(), chip, paletteP(0), n)
			c.Lamp, x.Lamp = make([]api.Range, m), other
			callAll(c, x, other, other, p, m)
			c.Eye = make([][]api.Range, n)
			callAll(c, x, other, other, api.MetamerPalette{Pigments: make([][]int64, n)}, m)
		}
	}
}
