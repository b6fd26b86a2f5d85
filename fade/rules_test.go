package fade_test

import (
	"math"
	"slices"
	"testing"

	"lampblack/api"
	"lampblack/fade"
)

// full returns a list with room behind it, in which something would be seen that
// is written there.
func full[T any](l []T, rest T) (part, room []T) {
	room = append(slices.Clone(l), rest, rest, rest)
	return room[:len(l)], room
}

// spoil writes to a list, and behind it.
func spoil[T any](l []T, rest T) {
	l = l[:cap(l)]
	for i := range l {
		l[i] = rest
	}
}

// callAll calls all functions.
func callAll(c []api.FadeMark, l []api.FadeBlock, hours, limit int64, wools [][]api.FadeMark) {
	fade.CheckCard(c)
	fade.Pool(c)
	fade.CheckBlocks(c, l)
	fade.Value(c, hours)
	fade.Reach(c, limit)
	fade.Label(wools, c, limit)
}

// R5: no argument is changed, nor what lies behind it.
func TestArgumentsAreKept(t *testing.T) {
	mark, block := card(77, 77, 7)[0], proof(77, 77, 77, 77)[0]
	for _, some := range someCards(31, 300) {
		c, room := full(some, mark)
		blocks, _ := pool(t, some)
		l, roomOfBlocks := full(blocks, block)
		wool, roomOfWool := full(some, mark)
		wools, roomOfWools := full([][]api.FadeMark{wool, cardC()}, card(77, 7, 7))
		want, wantBlocks, wantWool := slices.Clone(room), slices.Clone(roomOfBlocks), slices.Clone(roomOfWool)
		callAll(c, l, 50, 5, wools)
		if !slices.Equal(room, want) || !slices.Equal(roomOfBlocks, wantBlocks) || !slices.Equal(roomOfWool, wantWool) {
			t.Error(room, roomOfBlocks, roomOfWool)
		}
		seven := card(77, 7, 7)
		for i, x := range [][]api.FadeMark{some, cardC(), seven, seven, seven} {
			if !slices.Equal(roomOfWools[i], x) {
				t.Error(i, roomOfWools)
			}
		}
	}
}

// R4, R5: lists that are returned share no memory with those of an equal call,
// and nothing of them is kept.
func TestResultsAreNew(t *testing.T) {
	for _, c := range someCards(32, 300) {
		one, e := pool(t, c)
		if e != api.OK {
			t.Fatal(c, e)
		}
		two, _ := pool(t, c)
		was := slices.Clone(two)
		spoil(one, proof(77, 77, 77, 77)[0])
		three, _ := pool(t, c)
		if !slices.Equal(two, was) || !slices.Equal(three, was) || !isProof(c, was) {
			t.Error(c, one, two, three)
		}
	}
}

// result is all that functions return.
type result struct {
	blocks []api.FadeBlock
	value  api.Ratio
	time   api.FadeTime
	label  api.Range
	e      [6]api.Errno
}

func results(c []api.FadeMark, l []api.FadeBlock, hours, limit int64, wools [][]api.FadeMark) (x result) {
	x.e[0] = fade.CheckCard(c)
	x.blocks, x.e[1] = fade.Pool(c)
	x.e[2] = fade.CheckBlocks(c, l)
	x.value, x.e[3] = fade.Value(c, hours)
	x.time, x.e[4] = fade.Reach(c, limit)
	x.label, x.e[5] = fade.Label(wools, c, limit)
	return x
}

func (x result) equals(y result) bool {
	return slices.Equal(x.blocks, y.blocks) && x.value == y.value && x.time == y.time && x.label == y.label && x.e == y.e
}

// R4, R10: equal calls return equal results, whatever is called in between.
func TestEqualCalls(t *testing.T) {
	var again []func() bool
	for i, c := range someCards(33, 600) {
		hours, limit := int64(i*17), int64(i%mostGrade)
		wools := [][]api.FadeMark{c, cardC()}
		first := results(c, blocksC(), hours, limit, wools)
		again = append(again, func() bool {
			return results(slices.Clone(c), blocksC(), hours, limit, wools).equals(first)
		})
	}
	slices.Reverse(again)
	for i, equal := range again {
		if !equal() {
			t.Error(i)
		}
	}
}

// R3: nil and empty lists are the same.
func TestNilAndEmpty(t *testing.T) {
	for _, l := range [][]api.FadeBlock{nil, {}} {
		for _, c := range [][]api.FadeMark{nil, {}} {
			if e := errorsOf(t, c, l, 1, 1); e != each(api.ErrMany) {
				t.Error(e)
			}
			if _, e := label(t, [][]api.FadeMark{c}, cardC(), 1); e != api.ErrMany {
				t.Error(e)
			}
		}
		if e := fade.CheckBlocks(cardC(), l); e != api.ErrSum {
			t.Error(e)
		}
	}
	for _, wools := range [][][]api.FadeMark{nil, {}} {
		if x, e := label(t, wools, cardC(), 1); x != span(0, 0) || e != api.OK {
			t.Error(x, e)
		}
	}
}

// P1: all functions end, and do not panic, for all arguments.
func TestAnyNumber(t *testing.T) {
	numbers := []int64{math.MinInt64, math.MinInt64 + 1, -1 << 32, -1, 0, 1, 2, 20, 21, 100, 101, mostHours, mostHours + 1, never, 1 << 32, math.MaxInt64 - 1, math.MaxInt64}
	for _, a := range numbers {
		for _, b := range numbers {
			for _, d := range numbers {
				c := card(5, 5, 5, a, b, d)
				l := proof(a, b, d, a, 5, 5, 5, 25, b, d, a, b)
				callAll(c, l, a, b, [][]api.FadeMark{c, cardC()})
				callAll(cardC(), l, a, b, [][]api.FadeMark{c, cardC()})
				callAll(cardC(), l, a, b, [][]api.FadeMark{cardC(), c})
				callAll(cardC(), append(blocksC()[:2], l...), a, b, nil)
			}
		}
	}
}

// P1: lists of all lengths.
func TestAnyLength(t *testing.T) {
	lengths := []int{0, 1, 2, 7, 8, 9, 23, 24, 25, 1 << 16}
	for _, n := range lengths {
		c := sameMarks(n, 5, 5, 5)
		for _, m := range lengths {
			wools := slices.Repeat([][]api.FadeMark{c}, m)
			callAll(c, make([]api.FadeBlock, m), 5, 5, wools)
			callAll(c, slices.Repeat(proof(5, 5, 5, 25), m), 5, 5, wools)
			callAll(cardC(), slices.Repeat(blocksC(), m), 5, 5, wools)
		}
	}
}
