package docket_test

import (
	"math"
	"math/rand"
	"slices"
	"strings"
	"testing"

	"lampblack/api"
	"lampblack/docket"
)

// full returns a list with room behind it, in which something would be seen
// that is written there.
func full[T any](l []T, rest T) (part, room []T) {
	room = append(slices.Clone(l), rest, rest, rest)
	return room[:len(l)], room
}

// fullCards returns cards with room behind them and their things, and what is in
// them and behind them.
func fullCards(l []api.DocketCard) (part []api.DocketCard, seen func() []api.DocketCard) {
	part, room := full(copied(l), card("out 77 77 0"))
	var rooms [][]int64
	for i, c := range part {
		things, roomOfThings := full(c.Things, -77)
		part[i].Things = things
		rooms = append(rooms, roomOfThings)
	}
	return part, func() []api.DocketCard {
		all := copied(room)
		for _, numbers := range rooms {
			all = append(all, api.DocketCard{Things: slices.Clone(numbers)})
		}
		return all
	}
}

// copied returns cards with things of their own.
func copied(l []api.DocketCard) []api.DocketCard {
	all := slices.Clone(l)
	for i, c := range all {
		all[i].Things = slices.Clone(c.Things)
	}
	return all
}

// result is all that the functions return.
type result struct {
	replayed                  []api.Errno
	things                    []api.DocketThing
	rounds                    [][]int64
	least, past, merged, read []api.DocketCard
	circle                    []int64
	file                      string
	errors                    [12]api.Errno
}

func results(a, b []api.DocketCard, thing int64, numbers []int64, file string) result {
	var x result
	e := &x.errors
	e[0] = docket.CheckDocket(a)
	x.replayed, e[1] = docket.Replay(a)
	x.things, e[2] = docket.State(a)
	x.rounds, e[3] = docket.Rounds(a)
	x.least, e[4] = docket.Least(a)
	x.past, e[5] = docket.Past(a, thing)
	e[6] = docket.Same(a, b)
	x.merged, e[7] = docket.Merge(a, b)
	e[8] = docket.CheckCircle(a, b, numbers)
	x.circle, e[9] = docket.Circle(a, b)
	x.file, e[10] = docket.Write(a)
	x.read, e[11] = docket.Read(file)
	for _, c := range a {
		docket.CheckCard(c)
	}
	return x
}

// lists returns all lists of cards of a result.
func (x result) lists() [][]api.DocketCard {
	return [][]api.DocketCard{x.least, x.past, x.merged, x.read}
}

func (x result) equals(y result) bool {
	return x.errors == y.errors && x.file == y.file &&
		slices.Equal(x.replayed, y.replayed) && slices.Equal(x.things, y.things) && slices.Equal(x.circle, y.circle) &&
		equalLists(x.rounds, y.rounds) && slices.EqualFunc(x.lists(), y.lists(), equalCards)
}

// arguments is one for each argument of all functions.
type arguments struct {
	a, b    []api.DocketCard
	thing   int64
	numbers []int64
	file    string
}

// someArguments returns random arguments of all sizes.
func someArguments(seed int64, n int) []arguments {
	chance := rand.New(rand.NewSource(seed))
	var all []arguments
	for i, l := range someDockets(seed+1, n) {
		if i%3 == 0 {
			l = someDocket(chance, chance.Intn(20), 1+chance.Int63n(8))
		}
		a, b := twoDockets(chance, l)
		numbers, _ := docket.Circle(a, b)
		file, _ := docket.Write(b)
		all = append(all, arguments{copied(a), copied(b), chance.Int63n(10), numbers, file})
	}
	return all
}

func (a arguments) call() result { return results(a.a, a.b, a.thing, a.numbers, a.file) }

func (a arguments) copied() arguments {
	a.a, a.b = copied(a.a), copied(a.b)
	a.numbers = slices.Clone(a.numbers)
	return a
}

// R5: no argument is changed, nor what lies behind it.
func TestArgumentsAreKept(t *testing.T) {
	for _, a := range someArguments(71, 500) {
		one, seenOne := fullCards(a.a)
		two, seenTwo := fullCards(a.b)
		numbers, room := full(a.numbers, -77)
		a.a, a.b, a.numbers = one, two, numbers
		wasOne, wasTwo, was := seenOne(), seenTwo(), slices.Clone(room)
		a.call()
		if !equalCards(seenOne(), wasOne) || !equalCards(seenTwo(), wasTwo) || !slices.Equal(room, was) {
			t.Error(a)
		}
	}
}

// overwrite writes something into a list, and behind it as far as there is room.
func overwrite[T any](l []T, something T) {
	l = l[:cap(l)]
	for i := range l {
		l[i] = something
	}
}

// overwriteCards does so with the things of cards, and sees to it that no card
// shares them with another one; then with the cards themselves.
func overwriteCards(t *testing.T, l []api.DocketCard) {
	t.Helper()
	for i, c := range l {
		was := copied(l)
		overwrite(c.Things, -77)
		if !equalCards(l[:i], was[:i]) || !equalCards(l[i+1:], was[i+1:]) {
			t.Error(l)
		}
	}
	overwrite(l, api.DocketCard{Number: -77})
}

// R4, R5: lists that are returned share no memory with an argument, with each
// other, or with those of an equal call, and nothing of them is kept.
func TestResultsAreNew(t *testing.T) {
	sizes := [4]int{}
	for _, a := range someArguments(81, 400) {
		one, was := a.call(), a.copied().call()
		overwrite(one.replayed, -77)
		overwrite(one.things, api.DocketThing{Number: -77})
		overwrite(one.circle, -77)
		for i, l := range one.rounds {
			wasNext := slices.Clone(one.rounds[(i+1)%len(one.rounds)])
			overwrite(l, -77)
			if len(one.rounds) > 1 && !slices.Equal(one.rounds[(i+1)%len(one.rounds)], wasNext) {
				t.Error(a)
			}
		}
		for i, l := range one.lists() {
			sizes[i] += len(l)
			overwriteCards(t, l)
		}
		if !a.call().equals(was) {
			t.Error(a)
		}
	}
	if slices.Min(sizes[:]) < 100 {
		t.Error(sizes)
	}
}

// R4, R10: equal calls return equal results, whatever is called in between.
func TestEqualCalls(t *testing.T) {
	var again []func() bool
	for _, a := range someArguments(91, 400) {
		one := a.call()
		again = append(again, func() bool { return a.copied().call().equals(one) })
	}
	slices.Reverse(again)
	for i, equal := range again {
		if !equal() {
			t.Error(i)
		}
	}
}

// R3: nil and empty lists are the same.
func TestNilAndEmpty(t *testing.T) {
	none, empty := []api.DocketCard(nil), []api.DocketCard{}
	for _, a := range [][]api.DocketCard{none, empty} {
		if e := docketErrors(t, a, 1); e != [7]api.Errno{} {
			t.Error(e)
		}
		for _, b := range [][]api.DocketCard{none, empty} {
			for _, numbers := range [][]int64{nil, {}} {
				if e := twoErrors(t, a, b, numbers); e != [4]api.Errno{2: api.ErrMany, 3: api.ErrNone} {
					t.Error(e)
				}
			}
		}
		if l, e := merge(t, a, docketD()); !equalCards(l, some(docketD(), 3, 5, 4, 9)) || e != api.OK {
			t.Error(l, e)
		}
		if e := docket.Same(a, docketD()); e != api.ErrEqual {
			t.Error(e)
		}
	}
	for _, things := range [][]int64{nil, {}} {
		for kind := api.DocketEnter; kind <= api.DocketClaim; kind++ {
			if e := docket.CheckCard(api.DocketCard{Number: 1, Kind: kind, Things: things}); e != api.ErrMany {
				t.Error(kind, e)
			}
		}
	}
}

// P1: all functions end, and do not panic, for all arguments.
func TestAnyNumber(t *testing.T) {
	numbers := []int64{math.MinInt64, math.MinInt64 + 1, -mostNumber - 1, -1, 0, 1, 2, 3, 7, mostHours + 1, mostPart, mostValue, mostNumber, mostNumber + 1, math.MaxInt64 - 1, math.MaxInt64}
	for _, a := range numbers {
		for _, b := range numbers {
			for _, c := range numbers {
				things := [][]int64{nil, list(a), list(a, b), list(a, b, c), list(c, b, a, 1)}
				var l []api.DocketCard
				for i, some := range things {
					for kind := -1; kind <= 7; kind++ {
						l = append(l, api.DocketCard{Number: int64(10*i + kind + 2), Kind: kind, Things: some, A: c})
					}
					l = append(l, api.DocketCard{Number: a, Kind: int(b), Things: some, A: c})
				}
				for _, one := range l {
					docket.CheckCard(one)
				}
				valid := slices.DeleteFunc(slices.Clone(l), func(d api.DocketCard) bool { return docket.CheckCard(d) != api.OK })
				backward := slices.Clone(valid)
				slices.Reverse(backward)
				results(l, valid, a, things[3], "")
				results(valid, l, b, things[4], "")
				results(valid, backward, c, things[3], "")
			}
		}
	}
}

// P1: lists and files of all lengths.
func TestAnyLength(t *testing.T) {
	lengths := []int{0, 1, 2, 3, 59, 60, 61, 62, 120, 121, 4095, 4096, 4097, 8192}
	for _, n := range lengths {
		for _, m := range lengths {
			a, b := outs(1, int64(n)), outs(int64(n), int64(n+m))
			file := strings.Repeat("out 1 1 0\n", n)
			if n > 200 && m > 200 {
				a, file = make([]api.DocketCard, n), strings.Repeat(" \n", n)
			}
			results(a, b, int64(m), make([]int64, m), file)
			results(b, a, 1, slices.Repeat(list(1, 2), m), strings.Repeat("\n", n))
			docket.CheckCard(api.DocketCard{Number: 1, Kind: api.DocketClaim, Things: make([]int64, n)})
		}
	}
}
