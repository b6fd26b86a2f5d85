package bench_test

import (
	"slices"
	"testing"

	"lampblack/api"
	"lampblack/bench"
)

// full returns a list with room behind it, in which something would be seen
// that is written there.
func full[T any](l []T, rest T) (list, room []T) {
	room = append(slices.Clone(l), rest, rest, rest)
	return room[:len(l)], room
}

// R5: no argument is changed, nor what lies behind it.
func TestArgumentsAreKept(t *testing.T) {
	pair := api.BenchPair{Left: 7, Right: 9}
	for _, before := range [][]api.BenchPair{pp(), qq(), same(3), append(pp(), pp()...)} {
		p, room := full(before, pair)
		powers, powerRoom := full(row(3, 5, 9), 77)
		wholePairs, wholePowers := slices.Clone(room), slices.Clone(powerRoom)
		bench.CheckProgramme(3, p)
		bench.Run(p, powers)
		bench.Depth(3, p)
		for n := range 5 {
			bench.Test(3, p, n)
			bench.Merge(3, p, n)
		}
		bench.Useless(3, p)
		bench.Trim(3, p)
		if !slices.Equal(room, wholePairs) || !slices.Equal(powerRoom, wholePowers) {
			t.Error(room, powerRoom)
		}
	}
	l, room := full(ranges(10, 12, 11, 15, 20, 20), api.Range{Lo: 7, Hi: 9})
	before := slices.Clone(room)
	bench.Places(l)
	if !slices.Equal(room, before) {
		t.Error(room)
	}
}

// checkNew checks that two results share no memory with each other, or with
// what a third call returns, nor with an argument.
func checkNew[T comparable](t *testing.T, call func() []T, other T, arguments ...[]T) {
	t.Helper()
	one, two := call(), call()
	want := slices.Clone(two)
	kept := make([][]T, len(arguments))
	for i, l := range arguments {
		kept[i] = slices.Clone(l)
	}
	room := one[:cap(one)]
	for i := range room {
		room[i] = other
	}
	if three := call(); len(want) == 0 || !slices.Equal(two, want) || !slices.Equal(three, want) {
		t.Error(one, two, three)
	}
	for i, l := range arguments {
		if !slices.Equal(l, kept[i]) {
			t.Error(l, kept[i])
		}
	}
}

// R4, R5: results are new memory, and nothing of them is kept.
func TestResultsAreNew(t *testing.T) {
	pair := api.BenchPair{Left: 77, Right: 99}
	powers, p, long := row(9, 5, 3), pp(), append(pp(), pp()...)
	got := func(l []int64, e api.Errno) []int64 { return l }
	checkNew(t, func() []int64 { return got(bench.Run(p, powers)) }, 77, powers)
	checkNew(t, func() []int64 { return got(bench.Run(nil, powers)) }, 77, powers)
	checkNew(t, func() []int64 { return got(bench.Test(3, nil, 3)) }, 77)
	checkNew(t, func() []int64 { return got(bench.Merge(3, nil, 1)) }, 77)
	checkNew(t, func() []int { l, _ := bench.Useless(3, long); return l }, 77)
	checkNew(t, func() []api.BenchPair { l, _ := bench.Trim(3, p); return l }, pair, p)
	checkNew(t, func() []api.BenchPair { l, _ := bench.Trim(3, long); return l }, pair, long)
	checkNew(t, func() []api.BenchPair { l, _ := bench.Build(12); return l }, pair)
	l := ranges(0, 0, 1, 1)
	checkNew(t, func() []api.Range { l, _ := bench.Places(l); return l }, api.Range{Lo: 77, Hi: 99}, l)
}

// R4, R10: equal calls return equal results, whatever is called in between.
func TestEqualCalls(t *testing.T) {
	type result struct {
		rows  [][]int64
		pairs [][]api.BenchPair
		spans []api.BenchSpan
		e     []api.Errno
	}
	call := func() result {
		var x result
		for _, p := range [][]api.BenchPair{pp(), qq(), rr(), programme(1, 0), same(81), nil} {
			for n := range 5 {
				r, e := bench.Test(3, p, n)
				s, f := bench.Merge(3, p, n)
				x.rows, x.e = append(x.rows, r, s), append(x.e, e, f)
			}
			trimmed, e := bench.Trim(3, p)
			r, f := bench.Run(p, row(3, 9, 5))
			x.pairs, x.rows, x.e = append(x.pairs, trimmed), append(x.rows, r), append(x.e, e, f)
		}
		for lamps := range 14 {
			p, e := bench.Build(lamps)
			x.pairs, x.e = append(x.pairs, p), append(x.e, e)
		}
		for _, b := range slices.Concat(rightBars(), wrongBars(), lawlessBars()) {
			s, e := bench.Span(b)
			x.spans, x.e = append(x.spans, s), append(x.e, e)
		}
		return x
	}
	one, two := call(), call()
	if !slices.EqualFunc(one.rows, two.rows, slices.Equal) || !slices.EqualFunc(one.pairs, two.pairs, slices.Equal) ||
		!slices.Equal(one.spans, two.spans) || !slices.Equal(one.e, two.e) {
		t.Error(one, two)
	}
}

// R3: nil and empty programmes are the same.
func TestNilAndEmpty(t *testing.T) {
	for _, p := range [][]api.BenchPair{nil, {}} {
		if e := bench.CheckProgramme(2, p); e != api.OK {
			t.Error(e)
		}
		if n, e := bench.Depth(2, p); n != 0 || e != api.OK {
			t.Error(n, e)
		}
		if r, e := bench.Run(p, row(1, 2)); !slices.Equal(r, row(1, 2)) || e != api.OK {
			t.Error(r, e)
		}
		if r, e := bench.Test(2, p, 1); !slices.Equal(r, row(0, 1)) || e != api.OK {
			t.Error(r, e)
		}
		if r, e := bench.Merge(2, p, 1); !slices.Equal(r, row(0, 1)) || e != api.OK {
			t.Error(r, e)
		}
		if l, e := bench.Useless(2, p); len(l) != 0 || e != api.OK {
			t.Error(l, e)
		}
		if l, e := bench.Trim(2, p); len(l) != 0 || e != api.OK {
			t.Error(l, e)
		}
	}
}
