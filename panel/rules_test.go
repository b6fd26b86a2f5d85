package panel_test

import (
	"math"
	"math/rand"
	"slices"
	"testing"

	"lampblack/api"
	"lampblack/panel"
)

// full returns a list with room behind it, in which something would be seen
// that is written there.
func full[T any](l []T, rest T) (part, room []T) {
	room = append(slices.Clone(l), rest, rest, rest)
	return room[:len(l)], room
}

// fullLists returns lists with room behind them, and all that is in them and
// behind them.
func fullLists(d [][]int) (part [][]int, seen func() []int) {
	part, room := full(d, list(77))
	var rooms [][]int
	for i, one := range part {
		beaten, roomOfOne := full(one, -77)
		part[i] = beaten
		rooms = append(rooms, roomOfOne)
	}
	return part, func() []int { return slices.Concat(slices.Concat(rooms, room[len(part):])...) }
}

// result is all that the functions return.
type result struct {
	slips, wins, order, short []int
	duels, grades, possible   [][]int
	circles                   int
	errors                    [12]api.Errno
}

func results(b api.PanelBook, d [][]int, inOrder, won, indexes []int) result {
	var x result
	e := &x.errors
	e[0] = panel.CheckBook(b)
	x.slips, e[1] = panel.Slips(b)
	x.duels, e[2] = panel.Duels(b)
	e[3] = panel.CheckDuels(d)
	x.wins, e[4] = panel.Wins(d)
	x.circles, e[5] = panel.Circles(d)
	x.order, e[6] = panel.Order(d)
	e[7] = panel.CheckOrder(d, inOrder)
	x.grades, e[8] = panel.Grades(d)
	x.possible, e[9] = panel.Possible(won)
	x.short, e[10] = panel.Short(won)
	e[11] = panel.CheckShort(won, indexes)
	return x
}

func (x result) equals(y result) bool {
	return x.circles == y.circles && x.errors == y.errors &&
		slices.Equal(x.slips, y.slips) && slices.Equal(x.wins, y.wins) && slices.Equal(x.order, y.order) && slices.Equal(x.short, y.short) &&
		equalLists(x.duels, y.duels) && equalLists(x.grades, y.grades) && equalLists(x.possible, y.possible)
}

// arguments is one for each argument of all functions.
type arguments struct {
	b                    api.PanelBook
	d                    [][]int
	order, wins, indexes []int
}

// someArguments returns random arguments of all sizes: lists of wins among them
// that are possible, and others that are not.
func someArguments(seed int64, n int) []arguments {
	chance := rand.New(rand.NewSource(seed))
	books, tables := someBooks(seed+1, n), someDuels(seed+2, n)
	var all []arguments
	for i, x := range tables {
		a := arguments{books[i], x.lists(), chance.Perm(len(x)), winsOf(x), nil}
		if chance.Intn(2) == 0 {
			a.wins[chance.Intn(len(x))] = chance.Intn(mostShades)
		}
		for index := range a.wins {
			if chance.Intn(3) > 0 {
				a.indexes = append(a.indexes, index)
			}
		}
		all = append(all, a)
	}
	return all
}

func (a arguments) call() result { return results(a.b, a.d, a.order, a.wins, a.indexes) }

func (a arguments) copied() arguments {
	a.b.Votes = slices.Clone(a.b.Votes)
	a.d, _ = fullLists(a.d)
	a.order, a.wins, a.indexes = slices.Clone(a.order), slices.Clone(a.wins), slices.Clone(a.indexes)
	return a
}

// R5: no argument is changed, nor what lies behind it.
func TestArgumentsAreKept(t *testing.T) {
	for _, a := range someArguments(21, 500) {
		var votes []api.PanelVote
		var rooms [3][]int
		a.b.Votes, votes = full(a.b.Votes, vote(-77, -77, -77))
		a.order, rooms[0] = full(a.order, -77)
		a.wins, rooms[1] = full(a.wins, -77)
		a.indexes, rooms[2] = full(a.indexes, -77)
		d, seen := fullLists(a.d)
		a.d = d
		seenAll := func() []int { return slices.Concat(seen(), rooms[0], rooms[1], rooms[2]) }
		was, wasVotes := seenAll(), slices.Clone(votes)
		a.call()
		if !slices.Equal(seenAll(), was) || !slices.Equal(votes, wasVotes) {
			t.Error(a)
		}
	}
}

// overwrite writes something into a list, and behind it as far as there is room.
func overwrite(l []int) {
	l = l[:cap(l)]
	for i := range l {
		l[i] = -77
	}
}

// R4, R5: lists that are returned share no memory with an argument, with each
// other, or with those of an equal call, and nothing of them is kept.
func TestResultsAreNew(t *testing.T) {
	for _, a := range someArguments(31, 300) {
		one, was := a.call(), a.copied().call()
		for _, l := range [][]int{one.slips, one.wins, one.order, one.short} {
			overwrite(l)
		}
		for _, several := range [][][]int{one.duels, one.grades, one.possible} {
			for i, l := range several {
				wasNext := slices.Clone(several[(i+1)%len(several)])
				overwrite(l)
				if len(several) > 1 && !slices.Equal(several[(i+1)%len(several)], wasNext) {
					t.Error(a, several)
				}
			}
		}
		if !a.call().equals(was) {
			t.Error(a)
		}
	}
}

// R4, R10: equal calls return equal results, whatever is called in between.
func TestEqualCalls(t *testing.T) {
	var again []func() bool
	for _, a := range someArguments(41, 300) {
		one := a.call()
		again = append(again, func() bool { return a.copied().call().equals(one) })
	}
	slices.Reverse(again)
	for i, equal := range again {
		if !equal() {
			t.Error(i)
		}
	}
}

// R3: nil and empty lists are the same.
func TestNilAndEmpty(t *testing.T) {
	for _, votes := range [][]api.PanelVote{nil, {}} {
		b := api.PanelBook{Shades: 2, Judges: 1, Votes: votes}
		if s, e := slips(t, b); !slices.Equal(s, list(0)) || e != api.OK {
			t.Error(s, e)
		}
		if d, e := duels(t, b); !equalLists(d, ranked(2)) || e != api.OK {
			t.Error(d, e)
		}
	}
	for _, none := range [][]int{nil, {}} {
		if e := duelErrors(t, lists(none), list(0)); e != [6]api.Errno{} {
			t.Error(e)
		}
		if e := duelErrors(t, lists(none), none); e != [6]api.Errno{5: api.ErrEqual} {
			t.Error(e)
		}
		if e := winErrors(t, none, none); e != [3]api.Errno{api.ErrMany, api.ErrMany, api.ErrMany} {
			t.Error(e)
		}
		if e := winErrors(t, list(0), none); e != [3]api.Errno{api.OK, api.ErrNone, api.ErrSum} {
			t.Error(e)
		}
	}
	for _, d := range [][][]int{nil, {}} {
		if e := panel.CheckDuels(d); e != api.ErrMany {
			t.Error(e)
		}
	}
}

// P1: all functions end, and do not panic, for all arguments.
func TestAnyNumber(t *testing.T) {
	numbers := []int{math.MinInt, math.MinInt + 1, -1 << 32, -1, 0, 1, 2, 3, 9, 10, 11, 12, 13, 45, 46, 1 << 32, math.MaxInt - 1, math.MaxInt}
	for _, a := range numbers {
		for _, b := range numbers {
			for _, c := range numbers {
				some := list(a, b, c)
				results(book(a, b, c), lists(some, some, some), some, some, some)
				results(book(a, b, c, vote(0, 1, 0)), lists(list(a), list(b), list(c)), some, list(0, 0, a), list(b, c))
				results(book(3, 12, 1, vote(a, b, c)), lists(list(a, b), list(2), list(c)), some, list(a, 1, b), list(c))
				results(book(a, 2, b, vote(c, 1, 0)), lists(list(1), list(2), list(0)), some, list(1, 1, 1), some)
			}
		}
	}
}

// P1: lists of all lengths.
func TestAnyLength(t *testing.T) {
	lengths := []int{0, 1, 2, 3, 9, 10, 11, 45, 79, 80, 81, 4096, 1 << 16}
	for _, n := range lengths {
		for _, m := range lengths {
			b := book(10, 12, 1, slices.Repeat([]api.PanelVote{vote(11, 9, 0)}, n)...)
			for _, some := range [][]int{allNumbers(m), make([]int, m), slices.Repeat(list(9), m)} {
				results(b, lists(some), some, some, allNumbers(n))
				results(b, lists(list(1), some), allNumbers(n), some, make([]int, n))
				results(b, make([][]int, n), some, make([]int, min(n, 10)), some)
				results(b, ranked(min(n, 11)), some, allNumbers(min(n, 10)), some)
			}
		}
	}
}
