package unit_test

import (
	"slices"
	"testing"

	"lampblack/api"
	"lampblack/unit"
)

// R5: no argument is changed.
func TestArgumentsAreKept(t *testing.T) {
	decrees := spans(span(1, 2, 3, 4), span(3, 4, 4, 5), exactly(10, 1))
	before := slices.Clone(decrees)
	unit.Carry(span(2, 1, 5, 2), decrees)
	unit.Back(span(2, 1, 5, 2), decrees)
	if !slices.Equal(decrees, before) {
		t.Error(decrees)
	}
	for _, path := range [][]int64{{0, 3, 5}, {4}, {0}, {1, 1}, {most + 1, 7}} {
		before := slices.Clone(path)
		unit.Follow(path)
		if !slices.Equal(path, before) {
			t.Error(path, before)
		}
	}
	room := append(make([]int64, 0, 4), 0, 3, 5)
	unit.Follow(room)
	if rest := room[:4]; rest[3] != 0 {
		t.Error(rest)
	}
}

// R4, R5: paths share no memory, and nothing of them is kept.
func TestPathsAreNew(t *testing.T) {
	one, _ := unit.Path(of(5, 16))
	two, _ := unit.Path(of(5, 16))
	for i := range one {
		one[i] = -1
	}
	one = append(one, -1)
	three, _ := unit.Path(of(5, 16))
	want := []int64{0, 3, 5}
	if !slices.Equal(two, want) || !slices.Equal(three, want) || len(one) != 4 {
		t.Error(one, two, three)
	}
}

// R4, R10: equal calls return equal results, whatever is called in between.
func TestEqualCalls(t *testing.T) {
	list := spans(span(31, 100, 8, 25), exactly(1, 1), span(1, most, 1, 2), span(2, 1, 1, 1), span(7, 2, 9, 2))
	type result struct {
		simplest, next api.Ratio
		proof          api.UnitProof
		over, back     api.UnitSpan
		e              [5]api.Errno
	}
	call := func(s api.UnitSpan) (r result) {
		r.simplest, r.e[0] = unit.Simplest(s)
		r.proof, r.e[1] = unit.Proof(s)
		r.next, r.e[2] = unit.Next(s.Lo, 7)
		r.over, r.e[3] = unit.Carry(s, list[:2])
		r.back, r.e[4] = unit.Back(s, list[:2])
		return r
	}
	var first []result
	for _, s := range list {
		first = append(first, call(s))
	}
	for i := len(list) - 1; i >= 0; i-- {
		if again := call(list[i]); again != first[i] {
			t.Error(list[i], first[i], again)
		}
	}
}

// P1: all functions end, and do not panic, for all arguments.
func TestAnyNumber(t *testing.T) {
	numbers := []int64{-1 << 63, -1<<63 + 1, -1 << 32, -1, 0, 1, 2, most, most + 1, 1 << 32, 1 << 62, 1<<63 - 1}
	for _, a := range numbers {
		for _, b := range numbers {
			unit.Path(of(a, b))
			unit.Follow([]int64{a, b})
			for _, c := range numbers {
				unit.Next(of(a, b), c)
				unit.Follow([]int64{a, b, c, a, b, c})
				for _, d := range numbers {
					s := span(a, b, c, d)
					unit.CheckSpan(s)
					unit.Simplest(s)
					unit.Proof(s)
					unit.CheckProof(s, proof(d, c, b, a))
					unit.CheckProof(exactly(1, 2), proof(a, b, c, d))
					unit.Carry(s, spans(s, s))
					unit.Back(exactly(1, 2), spans(s, exactly(most, 1), s))
				}
			}
		}
	}
	unit.Carry(exactly(1, 1), make([]api.UnitSpan, 1<<20))
	unit.Back(exactly(1, 1), make([]api.UnitSpan, 1<<20))
	unit.Follow(make([]int64, 1<<20))
}
