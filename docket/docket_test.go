package docket_test

import (
	"fmt"
	"math"
	"slices"
	"strconv"
	"strings"
	"testing"

	"lampblack/api"
	"lampblack/docket"
)

const (
	mostNumber = 1 << 40
	mostValue  = 1000000
	mostHours  = 10000
	mostPart   = 100000
	mostCards  = 60
	mostLong   = 4096
	mostText   = 65536
)

// words is the words of the kinds, and thingsOf how many things each one has.
var (
	words    = []string{"", "enter", "burn", "compare", "replace", "out", "claim"}
	thingsOf = []int{0, 1, 1, 2, 2, 1, 3}
)

// card returns a card by its line.
func card(line string) api.DocketCard {
	said := strings.Fields(line)
	c := api.DocketCard{Kind: slices.Index(words, said[0])}
	var numbers []int64
	for _, word := range said[1:] {
		n, err := strconv.ParseInt(word, 10, 64)
		if err != nil {
			panic(line)
		}
		numbers = append(numbers, n)
	}
	last := len(numbers) - 1
	c.Number, c.Things, c.A = numbers[0], numbers[1:last], numbers[last]
	return c
}

// cards returns cards by their lines.
func cards(lines ...string) []api.DocketCard {
	var l []api.DocketCard
	for _, line := range lines {
		l = append(l, card(line))
	}
	return l
}

// docketD and docketE return the dockets of the chapter's examples.
func docketD() []api.DocketCard {
	return cards("enter 5 1 100", "enter 3 2 40", "compare 4 2 1 500", "burn 9 1 7")
}
func docketE() []api.DocketCard { return some(docketD(), 3, 5, 9, 4) }

// some returns the cards of a docket with some Numbers, in the order of these.
func some(l []api.DocketCard, numbers ...int64) []api.DocketCard {
	var part []api.DocketCard
	for _, number := range numbers {
		part = append(part, l[slices.IndexFunc(l, func(c api.DocketCard) bool { return c.Number == number })])
	}
	return part
}

// outs returns a docket of cards with the Numbers from one on, that do not touch.
func outs(from, to int64) []api.DocketCard {
	var l []api.DocketCard
	for n := from; n <= to; n++ {
		l = append(l, card(fmt.Sprintf("out %d %d 0", n, n)))
	}
	return l
}

func numbersOf(l []api.DocketCard) []int64 {
	var numbers []int64
	for _, c := range l {
		numbers = append(numbers, c.Number)
	}
	return numbers
}

func list(numbers ...int64) []int64 { return numbers }

func thing(number, value, hours int64, out bool) api.DocketThing {
	return api.DocketThing{Number: number, Value: value, Hours: hours, Out: out}
}

func equalCard(c, d api.DocketCard) bool {
	return c.Number == d.Number && c.Kind == d.Kind && slices.Equal(c.Things, d.Things) && c.A == d.A
}
func equalCards(a, b []api.DocketCard) bool { return slices.EqualFunc(a, b, equalCard) }
func equalLists(a, b [][]int64) bool        { return slices.EqualFunc(a, b, slices.Equal) }

// The functions below call those of the package, and see to it that with an
// error every other result is its zero value (R2).

func listOr[T any](t *testing.T, call func() ([]T, api.Errno)) ([]T, api.Errno) {
	t.Helper()
	l, e := call()
	if e != api.OK && len(l) != 0 {
		t.Error(l, e)
	}
	return l, e
}

func replay(t *testing.T, l []api.DocketCard) ([]api.Errno, api.Errno) {
	t.Helper()
	return listOr(t, func() ([]api.Errno, api.Errno) { return docket.Replay(l) })
}

func state(t *testing.T, l []api.DocketCard) ([]api.DocketThing, api.Errno) {
	t.Helper()
	return listOr(t, func() ([]api.DocketThing, api.Errno) { return docket.State(l) })
}

func rounds(t *testing.T, l []api.DocketCard) ([][]int64, api.Errno) {
	t.Helper()
	return listOr(t, func() ([][]int64, api.Errno) { return docket.Rounds(l) })
}

func least(t *testing.T, l []api.DocketCard) ([]api.DocketCard, api.Errno) {
	t.Helper()
	return listOr(t, func() ([]api.DocketCard, api.Errno) { return docket.Least(l) })
}

func past(t *testing.T, l []api.DocketCard, thing int64) ([]api.DocketCard, api.Errno) {
	t.Helper()
	return listOr(t, func() ([]api.DocketCard, api.Errno) { return docket.Past(l, thing) })
}

func merge(t *testing.T, a, b []api.DocketCard) ([]api.DocketCard, api.Errno) {
	t.Helper()
	return listOr(t, func() ([]api.DocketCard, api.Errno) { return docket.Merge(a, b) })
}

func circle(t *testing.T, a, b []api.DocketCard) ([]int64, api.Errno) {
	t.Helper()
	return listOr(t, func() ([]int64, api.Errno) { return docket.Circle(a, b) })
}

func write(t *testing.T, l []api.DocketCard) (string, api.Errno) {
	t.Helper()
	file, e := docket.Write(l)
	if e != api.OK && file != "" {
		t.Error(l, file, e)
	}
	return file, e
}

func read(t *testing.T, file string) ([]api.DocketCard, api.Errno) {
	t.Helper()
	return listOr(t, func() ([]api.DocketCard, api.Errno) { return docket.Read(file) })
}

// docketErrors returns the errors of all functions with one docket, that of Past
// last.
func docketErrors(t *testing.T, l []api.DocketCard, thing int64) [7]api.Errno {
	t.Helper()
	var e [7]api.Errno
	e[0] = docket.CheckDocket(l)
	_, e[1] = replay(t, l)
	_, e[2] = state(t, l)
	_, e[3] = rounds(t, l)
	_, e[4] = least(t, l)
	_, e[5] = write(t, l)
	_, e[6] = past(t, l, thing)
	return e
}

// twoErrors returns the errors of all functions with two dockets: Same, Merge,
// CheckCircle and Circle.
func twoErrors(t *testing.T, a, b []api.DocketCard, numbers []int64) [4]api.Errno {
	t.Helper()
	var e [4]api.Errno
	e[0] = docket.Same(a, b)
	_, e[1] = merge(t, a, b)
	e[2] = docket.CheckCircle(a, b, numbers)
	_, e[3] = circle(t, a, b)
	return e
}

// P12.1
func TestCheckCard(t *testing.T) {
	for _, x := range []struct {
		line string
		e    api.Errno
	}{
		{"enter 1 1 1", api.OK},
		{"enter 1099511627776 1099511627776 1000000", api.OK},
		{"burn 1 1 1", api.OK},
		{"burn 1 1 10000", api.OK},
		{"compare 1 1 2 1", api.OK},
		{"compare 1 1099511627776 1 100000", api.OK},
		{"replace 1 2 1 0", api.OK},
		{"out 1 1 0", api.OK},
		{"claim 1 1 2 3 0", api.OK},
		{"claim 1 3 2 1 1000000", api.OK},

		{"enter 0 1 1", api.ErrArg},
		{"enter -1 1 1", api.ErrArg},
		{"enter 1099511627777 1 1", api.ErrArg},

		{"enter 1 1", api.ErrMany},
		{"enter 1 1 2 1", api.ErrMany},
		{"burn 1 1", api.ErrMany},
		{"burn 1 1 2 1", api.ErrMany},
		{"compare 1 1 1", api.ErrMany},
		{"compare 1 1 2 3 1", api.ErrMany},
		{"replace 1 1 0", api.ErrMany},
		{"replace 1 1 2 3 0", api.ErrMany},
		{"out 1 0", api.ErrMany},
		{"out 1 1 2 0", api.ErrMany},
		{"claim 1 1 2 0", api.ErrMany},
		{"claim 1 1 2 3 4 0", api.ErrMany},

		{"enter 1 0 1", api.ErrRange},
		{"burn 1 -1 1", api.ErrRange},
		{"out 1 1099511627777 0", api.ErrRange},
		{"compare 1 0 1 1", api.ErrRange},
		{"replace 1 1 0 0", api.ErrRange},
		{"claim 1 1 1099511627777 2 0", api.ErrRange},
		{"claim 1 1 2 0 0", api.ErrRange},

		{"compare 1 2 2 1", api.ErrRule},
		{"replace 1 1 1 0", api.ErrRule},
		{"claim 1 1 1 2 0", api.ErrRule},
		{"claim 1 1 2 1 0", api.ErrRule},
		{"claim 1 2 1 1 0", api.ErrRule},

		{"enter 1 1 0", api.ErrArg},
		{"enter 1 1 -1", api.ErrArg},
		{"enter 1 1 1000001", api.ErrArg},
		{"burn 1 1 0", api.ErrArg},
		{"burn 1 1 10001", api.ErrArg},
		{"compare 1 1 2 0", api.ErrArg},
		{"compare 1 1 2 100001", api.ErrArg},
		{"replace 1 2 1 1", api.ErrArg},
		{"replace 1 2 1 -1", api.ErrArg},
		{"out 1 1 1", api.ErrArg},
		{"out 1 1 -1", api.ErrArg},
		{"claim 1 1 2 3 -1", api.ErrArg},
		{"claim 1 1 2 3 1000001", api.ErrArg},

		// what is named first comes first
		{"enter 0 0", api.ErrArg},
		{"enter 1 0 0 0", api.ErrMany},
		{"compare 1 0 0 0", api.ErrRange},
		{"compare 1 1099511627777 1099511627777 0", api.ErrRange},
		{"claim 1 1 1 0 -1", api.ErrRange},
		{"compare 1 2 2 0", api.ErrRule},
	} {
		if e := docket.CheckCard(card(x.line)); e != x.e {
			t.Error(x.line, e)
		}
	}
	for _, kind := range []int{math.MinInt, -1, 0, 7, math.MaxInt} {
		for _, things := range [][]int64{nil, list(1), list(0, 0)} {
			if e := docket.CheckCard(api.DocketCard{Number: 1, Kind: kind, Things: things, A: 1}); e != api.ErrArg {
				t.Error(kind, things, e)
			}
		}
	}
}

// P12.2, and that all functions with dockets return its errors first.
func TestCheckDocket(t *testing.T) {
	bad := cards("enter 1 1 0")
	for i, x := range []struct {
		l []api.DocketCard
		e api.Errno
	}{
		{nil, api.OK},
		{docketD(), api.OK},
		{outs(1, mostCards), api.OK},
		{outs(1, mostCards+1), api.ErrMany},
		{slices.Concat(bad, bad, outs(1, mostCards-1)), api.ErrMany},
		{slices.Concat(outs(1, mostCards-1), bad), api.ErrArg},
		{cards("enter 1 1 1", "enter 1 0 1", "enter 1 1 0"), api.ErrRange},
		{cards("enter 1 1 1", "enter 1 1 0", "enter 1 0 1"), api.ErrArg},
		{cards("compare 1 1 1 1", "enter 2 1 2 1"), api.ErrRule},
		{cards("enter 2 1 2 1", "compare 1 1 1 1"), api.ErrMany},
		{cards("enter 1 1 1", "enter 1 1 1"), api.ErrHave},
		{cards("enter 1 1 1", "enter 2 1 1", "burn 1 3 1"), api.ErrHave},
		{slices.Concat(outs(1, mostCards-1), outs(1, 1)), api.ErrHave},
		{slices.Concat(outs(1, mostCards-1), outs(mostCards-1, mostCards-1)), api.ErrHave},
	} {
		e := x.e
		if got := docketErrors(t, x.l, 1); got != [7]api.Errno{e, e, e, e, e, e, e} {
			t.Error(i, got)
		}
		if e == api.OK {
			continue
		}
		if got := docketErrors(t, x.l, 0); got[6] != e {
			t.Error(i, got)
		}
		if got := twoErrors(t, x.l, outs(1, mostCards+1), nil); got != [4]api.Errno{e, e, e, e} {
			t.Error(i, got)
		}
		if got := twoErrors(t, cards("enter 1 1 2"), x.l, nil); got != [4]api.Errno{e, e, e, e} {
			t.Error(i, got)
		}
	}
}

// P12.3, P12.4: the chapter's example, and what each kind needs and changes.
func TestReplay(t *testing.T) {
	for i, x := range []struct {
		l      []api.DocketCard
		errors []api.Errno
		things []api.DocketThing
	}{
		{nil, nil, nil},
		{docketD(), make([]api.Errno, 4), []api.DocketThing{thing(1, 100, 7, false), thing(2, 50, 0, false)}},
		{
			cards("enter 1 7 5", "enter 2 7 6", "enter 3 2 1000000", "out 4 2 0", "enter 5 2 3"),
			[]api.Errno{api.OK, api.ErrHave, api.OK, api.OK, api.ErrHave},
			[]api.DocketThing{thing(2, 1000000, 0, true), thing(7, 5, 0, false)},
		},
		{
			cards("burn 1 7 5", "enter 2 7 6", "burn 3 7 10000", "burn 4 7 1", "out 5 7 0", "burn 6 7 1"),
			[]api.Errno{api.ErrNone, api.OK, api.OK, api.ErrOver, api.OK, api.ErrState},
			[]api.DocketThing{thing(7, 6, 10000, true)},
		},
		{
			cards("enter 1 7 6", "burn 2 7 4000", "burn 3 7 6001", "burn 4 7 6000"),
			[]api.Errno{api.OK, api.OK, api.ErrOver, api.OK},
			[]api.DocketThing{thing(7, 6, 10000, false)},
		},
		{
			// rounded down
			cards("enter 1 1 999", "enter 2 2 5", "burn 3 2 8", "compare 4 2 1 999", "compare 5 1 2 2", "compare 6 1 2 1", "compare 7 2 1 999"),
			[]api.Errno{api.OK, api.OK, api.OK, api.OK, api.OK, api.ErrOver, api.ErrOver},
			[]api.DocketThing{thing(1, 1, 0, false), thing(2, 998, 8, false)},
		},
		{
			cards("enter 1 1 10000", "enter 2 2 10001", "enter 3 3 1", "compare 4 3 2 100000", "compare 5 3 1 100000", "compare 6 1 3 1000"),
			[]api.Errno{api.OK, api.OK, api.OK, api.ErrOver, api.OK, api.OK},
			[]api.DocketThing{thing(1, 1000000, 0, false), thing(2, 10001, 0, false), thing(3, 1000000, 0, false)},
		},
		{
			// the value of another thing, not its own one, and no hours
			cards("enter 1 1 300", "enter 2 2 5", "burn 3 1 9", "compare 4 2 1 2500", "replace 5 1 3 0", "burn 6 3 2"),
			make([]api.Errno, 6),
			[]api.DocketThing{thing(1, 300, 9, true), thing(2, 750, 0, false), thing(3, 300, 2, false)},
		},
		{
			cards("replace 1 1 2 0", "enter 2 1 4", "replace 3 1 2 0", "replace 4 1 3 0", "replace 5 2 1 0", "replace 6 2 3 0"),
			[]api.Errno{api.ErrNone, api.OK, api.OK, api.ErrState, api.ErrHave, api.OK},
			[]api.DocketThing{thing(1, 4, 0, true), thing(2, 4, 0, true), thing(3, 4, 0, false)},
		},
		{
			// y has entered, and x is not there
			cards("enter 1 2 4", "replace 2 1 2 0", "enter 3 1 4", "replace 4 1 2 0", "out 5 1 0", "replace 6 1 2 0"),
			[]api.Errno{api.OK, api.ErrNone, api.OK, api.ErrHave, api.OK, api.ErrState},
			[]api.DocketThing{thing(1, 4, 0, true), thing(2, 4, 0, false)},
		},
		{
			cards("out 1 1 0", "enter 2 1 4", "out 3 1 0", "out 4 1 0"),
			[]api.Errno{api.ErrNone, api.OK, api.OK, api.ErrState},
			[]api.DocketThing{thing(1, 4, 0, true)},
		},
		{
			cards("enter 1 1 10", "enter 2 2 20", "enter 3 3 35", "claim 4 1 2 3 4", "claim 5 1 2 3 5", "claim 6 1 3 2 24", "claim 7 1 3 2 25", "claim 8 3 2 1 45"),
			[]api.Errno{api.OK, api.OK, api.OK, api.ErrClaim, api.OK, api.ErrClaim, api.OK, api.OK},
			[]api.DocketThing{thing(1, 10, 0, false), thing(2, 20, 0, false), thing(3, 35, 0, false)},
		},
		{
			cards("enter 1 1 1000000", "enter 2 2 1000000", "enter 3 3 1", "claim 4 1 2 3 1000000", "claim 5 1 3 2 0", "claim 6 1 3 2 1"),
			[]api.Errno{api.OK, api.OK, api.OK, api.ErrClaim, api.ErrClaim, api.OK},
			[]api.DocketThing{thing(1, 1000000, 0, false), thing(2, 1000000, 0, false), thing(3, 1, 0, false)},
		},
	} {
		if errors, e := replay(t, x.l); !slices.Equal(errors, x.errors) || e != api.OK {
			t.Error(i, errors, e)
		}
		if things, e := state(t, x.l); !slices.Equal(things, x.things) || e != api.OK {
			t.Error(i, things, e)
		}
	}
}

// P12.3: things have to be there in the order in which they are named.
func TestThere(t *testing.T) {
	before := cards("enter 1 1 1", "enter 2 2 1", "enter 3 3 1", "enter 4 8 1", "out 5 8 0", "enter 6 9 1", "out 7 9 0")
	for _, x := range []struct {
		line string
		e    api.Errno
	}{
		{"compare 10 1 2 1000", api.OK},
		{"compare 10 7 1 1000", api.ErrNone},
		{"compare 10 1 7 1000", api.ErrNone},
		{"compare 10 8 1 1000", api.ErrState},
		{"compare 10 1 8 1000", api.ErrState},
		{"compare 10 7 8 1000", api.ErrNone},
		{"compare 10 8 7 1000", api.ErrState},
		{"compare 10 8 9 1000", api.ErrState},
		{"compare 10 6 7 1", api.ErrNone},
		{"compare 10 1 2 999", api.ErrOver},
		{"replace 10 7 1 0", api.ErrNone},
		{"replace 10 8 1 0", api.ErrState},
		{"replace 10 1 2 0", api.ErrHave},
		{"replace 10 1 8 0", api.ErrHave},
		{"replace 10 1 7 0", api.OK},
		{"claim 10 1 2 3 1", api.OK},
		{"claim 10 1 2 3 0", api.ErrClaim},
		{"claim 10 7 2 3 0", api.ErrNone},
		{"claim 10 1 7 3 0", api.ErrNone},
		{"claim 10 1 2 7 0", api.ErrNone},
		{"claim 10 8 2 3 0", api.ErrState},
		{"claim 10 1 8 3 0", api.ErrState},
		{"claim 10 1 2 8 0", api.ErrState},
		{"claim 10 7 8 9 0", api.ErrNone},
		{"claim 10 8 7 6 0", api.ErrState},
		{"claim 10 1 7 8 0", api.ErrNone},
		{"claim 10 1 8 7 0", api.ErrState},
		{"burn 10 7 1", api.ErrNone},
		{"burn 10 8 10000", api.ErrState},
		{"out 10 7 0", api.ErrNone},
		{"out 10 8 0", api.ErrState},
		{"enter 10 8 1", api.ErrHave},
		{"enter 10 1 1", api.ErrHave},
		{"enter 10 7 1", api.OK},
	} {
		l := append(slices.Clone(before), card(x.line))
		errors, e := replay(t, l)
		if e != api.OK || len(errors) != 8 || errors[7] != x.e {
			t.Error(x.line, errors, e)
		}
		was, _ := state(t, before)
		if now, e := state(t, l); x.e != api.OK && !slices.Equal(now, was) || e != api.OK {
			t.Error(x.line, now, e)
		}
	}
}

// P12.5, P12.6
func TestRoundsAndLeast(t *testing.T) {
	for i, x := range []struct {
		l      []api.DocketCard
		rounds [][]int64
		least  []int64
	}{
		{nil, nil, nil},
		{cards("out 9 1 0"), [][]int64{list(9)}, list(9)},
		{docketD(), [][]int64{list(3, 5), list(4), list(9)}, list(3, 5, 4, 9)},
		{docketE(), [][]int64{list(3, 5), list(9), list(4)}, list(3, 5, 9, 4)},
		{cards("out 9 1 0", "out 8 1 0", "out 7 1 0"), [][]int64{list(9), list(8), list(7)}, list(9, 8, 7)},
		{cards("out 9 1 0", "out 8 2 0", "out 7 3 0"), [][]int64{list(7, 8, 9)}, list(7, 8, 9)},
		// a card whose round is that of another one, though it could come first
		{cards("out 9 1 0", "out 5 1 0", "out 8 2 0", "out 7 2 0", "out 2 7 0"), [][]int64{list(2, 8, 9), list(5, 7)}, list(2, 8, 7, 9, 5)},
		{cards("enter 8 1 1", "enter 7 2 1", "replace 1 1 3 0", "compare 2 2 3 1", "burn 6 2 1", "burn 5 3 1"), [][]int64{list(7, 8), list(1), list(2), list(5, 6)}, list(7, 8, 1, 2, 5, 6)},
	} {
		if got, e := rounds(t, x.l); !equalLists(got, x.rounds) || e != api.OK {
			t.Error(i, got, e)
		}
		if got, e := least(t, x.l); !equalCards(got, some(x.l, x.least...)) || e != api.OK {
			t.Error(i, numbersOf(got), e)
		}
	}
}

// P12.7
func TestPast(t *testing.T) {
	long := cards("enter 1 1 9", "enter 2 2 9", "enter 3 3 9", "enter 4 4 9", "compare 5 2 1 9", "compare 6 4 3 9", "burn 7 1 1", "compare 8 3 2 9", "burn 9 4 1", "out 10 2 0")
	for i, x := range []struct {
		l     []api.DocketCard
		thing int64
		past  []int64
		e     api.Errno
	}{
		{docketD(), 1, list(5, 3, 4, 9), api.OK},
		{docketD(), 2, list(5, 3, 4), api.OK},
		{docketE(), 2, list(3, 5, 9, 4), api.OK},
		{docketE(), 1, list(3, 5, 9, 4), api.OK},
		{docketD(), 3, nil, api.OK},
		{docketD(), mostNumber, nil, api.OK},
		{docketD(), 0, nil, api.ErrRange},
		{docketD(), -1, nil, api.ErrRange},
		{docketD(), mostNumber + 1, nil, api.ErrRange},
		{nil, 1, nil, api.OK},
		{nil, 0, nil, api.ErrRange},
		{long, 1, list(1, 2, 5, 7), api.OK},
		{long, 2, list(1, 2, 3, 4, 5, 6, 8, 10), api.OK},
		{long, 3, list(1, 2, 3, 4, 5, 6, 8), api.OK},
		{long, 4, list(3, 4, 6, 9), api.OK},
	} {
		if got, e := past(t, x.l, x.thing); !equalCards(got, some(x.l, x.past...)) || e != x.e {
			t.Error(i, numbersOf(got), e)
		}
	}
}

// P12.8
func TestSame(t *testing.T) {
	d := docketD()
	other := func(line string) []api.DocketCard {
		return append(cards("enter 5 1 100", "enter 3 2 40", "burn 9 1 7"), card(line))
	}
	for i, x := range []struct {
		a, b []api.DocketCard
		e    api.Errno
	}{
		{nil, nil, api.OK},
		{d, d, api.OK},
		{d, docketE(), api.ErrOrder},
		{docketE(), d, api.ErrOrder},
		{d, some(d, 3, 5, 4, 9), api.OK},
		{d, some(d, 3, 4, 5, 9), api.ErrOrder},
		{d, nil, api.ErrEqual},
		{nil, d, api.ErrEqual},
		{d, d[:3], api.ErrEqual},
		{d[:3], d, api.ErrEqual},
		{d, other("compare 4 2 1 500"), api.ErrOrder},
		{d, other("compare 6 2 1 500"), api.ErrEqual},
		{d, other("compare 4 2 1 501"), api.ErrEqual},
		{d, other("compare 4 1 2 500"), api.ErrEqual},
		{d, other("compare 4 2 3 500"), api.ErrEqual},
		{d, other("burn 4 2 500"), api.ErrEqual},
		{cards("enter 1 1 5"), cards("burn 1 1 5"), api.ErrEqual},
	} {
		if e := docket.Same(x.a, x.b); e != x.e {
			t.Error(i, e)
		}
	}
}

// P12.9
func TestMerge(t *testing.T) {
	d := docketD()
	for i, x := range []struct {
		a, b, merged []api.DocketCard
		e            api.Errno
	}{
		{nil, nil, nil, api.OK},
		{d, nil, some(d, 3, 5, 4, 9), api.OK},
		{nil, d, some(d, 3, 5, 4, 9), api.OK},
		{d, d, some(d, 3, 5, 4, 9), api.OK},
		{d, docketE(), nil, api.ErrOrder},
		{some(d, 5, 4), some(d, 3, 4), some(d, 3, 5, 4), api.OK},
		{some(d, 5), some(d, 9), nil, api.ErrRule},
		{some(d, 5, 4, 9), some(d, 3), nil, api.ErrRule},
		{some(d, 5, 3), some(d, 9, 4), nil, api.ErrRule},
		// 5 is known to come before the last one, but only since it comes before the one between
		{some(d, 5, 3, 4), some(d, 3, 4, 9), some(d, 3, 5, 4, 9), api.OK},
		{some(d, 5, 9), some(d, 9, 4), some(d, 5, 9, 4), api.OK},
		{d, cards("compare 4 2 1 501"), nil, api.ErrEqual},
		{d, cards("enter 9 1 7"), nil, api.ErrEqual},
		{d, cards("burn 9 2 7"), nil, api.ErrEqual},
		{d, cards("burn 10 2 7"), nil, api.ErrRule},
		{outs(1, 40), outs(21, 60), outs(1, 60), api.OK},
		{outs(21, 60), outs(1, 40), outs(1, 60), api.OK},
		{outs(1, 60), outs(1, 60), outs(1, 60), api.OK},
		{outs(1, 60), outs(61, 61), nil, api.ErrMany},
		{outs(1, 1), outs(2, 61), nil, api.ErrMany},
		{outs(1, 60), outs(61, 120), nil, api.ErrMany},
		// a circle of four, of cards of which no two are in a different order
		{cards("burn 1 1 1", "compare 2 1 2 1", "burn 3 2 1"), cards("burn 3 2 1", "compare 4 2 1 1", "burn 1 1 1"), nil, api.ErrOrder},
	} {
		if got, e := merge(t, x.a, x.b); !equalCards(got, x.merged) || e != x.e {
			t.Error(i, numbersOf(got), e)
		}
	}
}

// P12.9, R1: errors come in the order in which they are named.
func TestMergeErrors(t *testing.T) {
	swapped := cards("burn 2 1 1", "burn 1 1 1")
	inOrder := cards("burn 1 1 1", "burn 2 1 1")
	untold := cards("burn 100 2 1")
	for i, x := range []struct {
		a, b []api.DocketCard
		e    api.Errno
	}{
		{slices.Concat(inOrder, outs(101, 140)), slices.Concat(swapped, outs(201, 240), cards("out 101 1 0")), api.ErrEqual},
		{slices.Concat(inOrder, untold, outs(101, 140)), slices.Concat(swapped, cards("burn 99 2 1"), outs(201, 240)), api.ErrMany},
		{slices.Concat(inOrder, untold), slices.Concat(swapped, cards("burn 99 2 1")), api.ErrOrder},
		{slices.Concat(inOrder, untold), slices.Concat(inOrder, cards("burn 99 2 1")), api.ErrRule},
	} {
		if _, e := merge(t, x.a, x.b); e != x.e {
			t.Error(i, e)
		}
	}
}

// P12.10
func TestCircle(t *testing.T) {
	d, e := docketD(), docketE()
	one := cards("burn 1 1 1", "compare 2 1 2 1", "burn 3 2 1")
	two := cards("burn 3 2 1", "compare 4 2 1 1", "burn 1 1 1")
	inOrder, swapped := cards("burn 1 1 1", "burn 2 1 1"), cards("burn 2 1 1", "burn 1 1 1")
	round := slices.Repeat(list(4, 9), mostLong/2)
	for i, x := range []struct {
		a, b    []api.DocketCard
		numbers []int64
		e       api.Errno
	}{
		{d, e, list(4, 9, 4), api.OK},
		{d, e, list(9, 4, 9), api.OK},
		{d, e, list(9, 4, 9, 4, 9), api.OK},
		{e, d, list(9, 4, 9), api.OK},
		{d, e, nil, api.ErrMany},
		{d, e, list(4), api.ErrMany},
		{d, e, list(4, 4), api.ErrMany},
		{d, e, list(9, 4), api.ErrMany},
		{d, e, append(slices.Clone(round[1:]), 9)[:mostLong-1], api.OK},
		{d, e, round, api.ErrSum},
		{d, e, append(slices.Clone(round), 4), api.ErrMany},
		{d, e, list(4, 9, 4, 9), api.ErrSum},
		{d, e, list(4, 4, 4), api.ErrSum},
		{d, e, list(5, 4, 5), api.ErrSum},
		{d, e, list(5, 9, 4), api.ErrSum},
		{d, e, list(5, 3, 5), api.ErrSum},
		{d, e, list(0, 0, 0), api.ErrSum},
		{d, e, list(4, 9, 8), api.ErrSum},
		{d, e, list(8, 9, 8), api.ErrSum},
		{d, e, list(4, 8, 4), api.ErrSum},
		{d, e, list(math.MinInt64, 9, math.MaxInt64), api.ErrSum},
		{d, d, list(4, 9, 4), api.ErrSum},
		{nil, nil, list(4, 9, 4), api.ErrSum},
		{inOrder, swapped, list(1, 2, 1), api.OK},
		{inOrder, swapped, list(2, 8, 2), api.ErrSum},
		{inOrder, swapped, list(8, 2, 8), api.ErrSum},
		{inOrder, swapped, list(1, 8, 1), api.ErrSum},
		{one, two, list(1, 2, 3, 4, 1), api.OK},
		{one, two, list(3, 4, 1, 2, 3), api.OK},
		{two, one, list(3, 4, 1, 2, 3), api.OK},
		{one, two, list(1, 3, 1), api.ErrSum},
		{one, two, list(2, 4, 2), api.ErrSum},
		{one, two, list(1, 4, 3, 2, 1), api.ErrSum},
		{one, two, list(1, 2, 4, 1), api.ErrSum},
		{d, cards("enter 9 1 7"), nil, api.ErrEqual},
		{d, cards("enter 9 1 7"), list(4, 9, 4), api.ErrEqual},
	} {
		if got := docket.CheckCircle(x.a, x.b, x.numbers); got != x.e {
			t.Error(i, got)
		}
	}
	for i, x := range []struct {
		a, b   []api.DocketCard
		length int
		e      api.Errno
	}{
		{d, e, 3, api.OK},
		{e, d, 3, api.OK},
		{one, two, 5, api.OK},
		{two, one, 5, api.OK},
		{d, d, 0, api.ErrNone},
		{nil, nil, 0, api.ErrNone},
		{d, nil, 0, api.ErrNone},
		{some(d, 5), some(d, 9), 0, api.ErrNone},
		{outs(1, 60), outs(61, 120), 0, api.ErrNone},
		{d, cards("enter 9 1 7"), 0, api.ErrEqual},
	} {
		got, e := circle(t, x.a, x.b)
		if len(got) != x.length || e != x.e || e == api.OK && docket.CheckCircle(x.a, x.b, got) != api.OK {
			t.Error(i, got, e)
		}
	}
}

// P12.10: dockets with more cards together than one docket can have.
func TestCircleOfMany(t *testing.T) {
	a := slices.Concat(cards("burn 200 1 1", "burn 300 1 1"), outs(1, 58))
	b := slices.Concat(cards("burn 300 1 1", "burn 200 1 1"), outs(1001, 1058))
	got, e := circle(t, a, b)
	if !slices.Equal(got, list(200, 300, 200)) && !slices.Equal(got, list(300, 200, 300)) || e != api.OK {
		t.Error(got, e)
	}
	if _, e := merge(t, a, b); e != api.ErrMany {
		t.Error(e)
	}
}

// P12.11
func TestFile(t *testing.T) {
	d := docketD()
	const file = "enter 5 1 100\nenter 3 2 40\ncompare 4 2 1 500\nburn 9 1 7\n"
	if got, e := write(t, d); got != file || e != api.OK {
		t.Error(got, e)
	}
	if got, e := read(t, file); !equalCards(got, d) || e != api.OK {
		t.Error(got, e)
	}
	all := cards("enter 1 1099511627776 1000000", "burn 2 1 1", "compare 3 2 1 7", "replace 4 9 8 0", "out 5 1 0", "claim 1099511627776 3 2 1 0")
	const allFile = "enter 1 1099511627776 1000000\nburn 2 1 1\ncompare 3 2 1 7\nreplace 4 9 8 0\nout 5 1 0\nclaim 1099511627776 3 2 1 0\n"
	if got, e := write(t, all); got != allFile || e != api.OK {
		t.Error(got, e)
	}
	if got, e := read(t, allFile); !equalCards(got, all) || e != api.OK {
		t.Error(got, e)
	}
	if got, e := write(t, nil); got != "" || e != api.OK {
		t.Error(got, e)
	}
	if got, e := read(t, ""); len(got) != 0 || e != api.OK {
		t.Error(got, e)
	}
}

// P12.11
func TestReadErrors(t *testing.T) {
	line := func(n int) string { return fmt.Sprintf("out %d 1 0\n", n) }
	var many strings.Builder
	for n := 1; n <= mostCards+1; n++ {
		many.WriteString(line(n))
	}
	long := strings.Repeat(line(10), mostText/11)
	long += strings.Repeat(" ", mostText-len(long)-1) + "\n"
	for i, x := range []struct {
		file string
		e    api.Errno
	}{
		{"out 1 2 0\n", api.OK},
		{"out 1 2 0", api.ErrForm},
		{"out 1 2 0\n\n", api.ErrForm},
		{"\nout 1 2 0\n", api.ErrForm},
		{"\n", api.ErrForm},
		{" ", api.ErrForm},
		{"out 1 2 0\nout 2 2 0", api.ErrForm},
		{"out 1 2 0\r\n", api.ErrForm},
		{" out 1 2 0\n", api.ErrForm},
		{"out 1 2 0 \n", api.ErrForm},
		{"out  1 2 0\n", api.ErrForm},
		{"out 1  2 0\n", api.ErrForm},
		{"out 1\t2 0\n", api.ErrForm},
		{"out 1 2\n", api.ErrForm},
		{"out 1 2 3 0\n", api.ErrForm},
		{"out\n", api.ErrForm},
		{"out \n", api.ErrForm},
		{"replace 1 2 0\n", api.ErrForm},
		{"claim 1 2 3 0\n", api.ErrForm},
		{"Out 1 2 0\n", api.ErrForm},
		{"outs 1 2 0\n", api.ErrForm},
		{"ou 1 2 0\n", api.ErrForm},
		{" 1 2 0\n", api.ErrForm},
		{"5 1 2 0\n", api.ErrForm},
		{"out 01 2 0\n", api.ErrForm},
		{"out 1 2 00\n", api.ErrForm},
		{"out 1 2 -0\n", api.ErrForm},
		{"out 1 +2 0\n", api.ErrForm},
		{"out 1 -02 0\n", api.ErrForm},
		{"out 1 2. 0\n", api.ErrForm},
		{"out 1 0x2 0\n", api.ErrForm},
		{"out 1 1_2 0\n", api.ErrForm},
		{"out 1 - 0\n", api.ErrForm},
		{"out a 2 0\n", api.ErrForm},
		{"out 1 2 a\n", api.ErrForm},
		{"out 1 ２ 0\n", api.ErrForm},
		{"out 1099511627777 2 0\n", api.ErrForm},
		{"out 1 1099511627777 0\n", api.ErrForm},
		{"out 1 2 1099511627777\n", api.ErrForm},
		{"out -1099511627777 2 0\n", api.ErrForm},
		{"out 9223372036854775808 2 0\n", api.ErrForm},
		{"out 18446744073709551617 2 0\n", api.ErrForm},
		{"out -9223372036854775808 2 0\n", api.ErrForm},

		// of the form, but no docket
		{"out 1099511627776 1099511627776 0\n", api.OK},
		{"out 0 2 0\n", api.ErrArg},
		{"out -1 2 0\n", api.ErrArg},
		{"out -1099511627776 2 0\n", api.ErrArg},
		{"out 1 0 0\n", api.ErrRange},
		{"out 1 -1099511627776 0\n", api.ErrRange},
		{"out 1 2 1\n", api.ErrArg},
		{"out 1 2 1099511627776\n", api.ErrArg},
		{"out 1 2 -1099511627776\n", api.ErrArg},
		{"replace 1 2 2 0\n", api.ErrRule},
		{"out 1 2 0\nout 1 2 0\n", api.ErrHave},
		{many.String(), api.ErrMany},
		{strings.TrimSuffix(many.String(), line(mostCards+1)), api.OK},

		// what is named first comes first
		{"out 0 2 0\nout 1 2 x\n", api.ErrForm},
		{many.String() + "\n", api.ErrForm},
		{long, api.ErrForm},
		{long + "\n", api.ErrLong},
		{"out 1 2 0\n" + strings.Repeat("\n", mostText-9), api.ErrLong},
		{strings.Repeat("x", mostText), api.ErrForm},
		{strings.Repeat("x", mostText+1), api.ErrLong},
		{strings.Repeat("out 1 1 0 ", mostText/10) + "\n", api.ErrForm},
		// as many lines as can be
		{strings.Repeat(line(1), mostText/10), api.ErrMany},
		{strings.Repeat(line(0), mostText/10), api.ErrMany},
	} {
		if _, e := read(t, x.file); e != x.e {
			t.Error(i, e)
		}
	}
}
