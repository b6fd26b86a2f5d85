package panel_test

import (
	"math"
	"slices"
	"testing"

	"lampblack/api"
	"lampblack/panel"
)

const (
	mostShades = 10
	mostJudges = 12
	mostVotes  = 80
	mostSlack  = 45
)

// list returns its numbers, lists its lists.
func list(numbers ...int) []int      { return numbers }
func lists(several ...[]int) [][]int { return several }

func vote(judge, deeper, paler int) api.PanelVote {
	return api.PanelVote{Judge: judge, Deeper: deeper, Paler: paler}
}

func book(shades, judges, slack int, votes ...api.PanelVote) api.PanelBook {
	return api.PanelBook{Shades: shades, Judges: judges, Slack: slack, Votes: votes}
}

// bookB and duelsD return the book and the duels of the chapter's examples.
func bookB() api.PanelBook {
	return book(3, 2, 0, vote(0, 0, 1), vote(0, 1, 2), vote(0, 2, 0), vote(1, 0, 1), vote(1, 1, 0))
}
func duelsD() [][]int { return lists(list(1), list(2, 3), list(0, 3), list(0)) }

// ranked returns the duels in which each of some shades beats all later ones.
func ranked(shades int) [][]int {
	d := make([][]int, shades)
	for shade := range d {
		for other := shade + 1; other < shades; other++ {
			d[shade] = append(d[shade], other)
		}
	}
	return d
}

func equalLists(a, b [][]int) bool { return slices.EqualFunc(a, b, slices.Equal) }

// The functions below call those of the package, and see to it that with an
// error every other result is its zero value (R2).

func numbersOr[T any](t *testing.T, call func() ([]T, api.Errno)) ([]T, api.Errno) {
	t.Helper()
	found, e := call()
	if e != api.OK && len(found) != 0 {
		t.Error(found, e)
	}
	return found, e
}

func slips(t *testing.T, b api.PanelBook) ([]int, api.Errno) {
	t.Helper()
	return numbersOr(t, func() ([]int, api.Errno) { return panel.Slips(b) })
}

func duels(t *testing.T, b api.PanelBook) ([][]int, api.Errno) {
	t.Helper()
	return numbersOr(t, func() ([][]int, api.Errno) { return panel.Duels(b) })
}

func wins(t *testing.T, d [][]int) ([]int, api.Errno) {
	t.Helper()
	return numbersOr(t, func() ([]int, api.Errno) { return panel.Wins(d) })
}

func circles(t *testing.T, d [][]int) (int, api.Errno) {
	t.Helper()
	n, e := panel.Circles(d)
	if e != api.OK && n != 0 {
		t.Error(d, n, e)
	}
	return n, e
}

func order(t *testing.T, d [][]int) ([]int, api.Errno) {
	t.Helper()
	return numbersOr(t, func() ([]int, api.Errno) { return panel.Order(d) })
}

func grades(t *testing.T, d [][]int) ([][]int, api.Errno) {
	t.Helper()
	return numbersOr(t, func() ([][]int, api.Errno) { return panel.Grades(d) })
}

func possible(t *testing.T, won []int) ([][]int, api.Errno) {
	t.Helper()
	return numbersOr(t, func() ([][]int, api.Errno) { return panel.Possible(won) })
}

func short(t *testing.T, won []int) ([]int, api.Errno) {
	t.Helper()
	return numbersOr(t, func() ([]int, api.Errno) { return panel.Short(won) })
}

// bookErrors returns the errors of all functions with a book.
func bookErrors(t *testing.T, b api.PanelBook) [3]api.Errno {
	t.Helper()
	var e [3]api.Errno
	e[0] = panel.CheckBook(b)
	_, e[1] = slips(t, b)
	_, e[2] = duels(t, b)
	return e
}

// duelErrors returns the errors of all functions with duels, that of CheckOrder
// last.
func duelErrors(t *testing.T, d [][]int, inOrder []int) [6]api.Errno {
	t.Helper()
	var e [6]api.Errno
	e[0] = panel.CheckDuels(d)
	_, e[1] = wins(t, d)
	_, e[2] = circles(t, d)
	_, e[3] = order(t, d)
	_, e[4] = grades(t, d)
	e[5] = panel.CheckOrder(d, inOrder)
	return e
}

// winErrors returns the errors of all functions with wins.
func winErrors(t *testing.T, won, indexes []int) [3]api.Errno {
	t.Helper()
	var e [3]api.Errno
	_, e[0] = possible(t, won)
	_, e[1] = short(t, won)
	e[2] = panel.CheckShort(won, indexes)
	return e
}

// P11.1: what is no valid book. All functions return its error before all others.
func TestBadBooks(t *testing.T) {
	fine, wrong := vote(1, 0, 1), vote(-1, 0, 1)
	manyVotes := func(n int, v api.PanelVote) []api.PanelVote { return slices.Repeat([]api.PanelVote{v}, n) }
	for i, x := range []struct {
		b api.PanelBook
		e api.Errno
	}{
		{book(3, 2, 0, manyVotes(mostVotes+1, fine)...), api.ErrMany},
		{book(3, 2, 0, manyVotes(1<<16, fine)...), api.ErrMany},
		// How many votes there are is looked at first.
		{book(3, 2, 0, manyVotes(mostVotes+1, wrong)...), api.ErrMany},
		{book(0, 2, 0, manyVotes(mostVotes+1, fine)...), api.ErrMany},
		{book(3, 0, 0, manyVotes(mostVotes+1, fine)...), api.ErrMany},
		{book(3, 2, -1, manyVotes(mostVotes+1, fine)...), api.ErrMany},

		{api.PanelBook{}, api.ErrArg},
		{book(0, 2, 0), api.ErrArg},
		{book(-1, 2, 0), api.ErrArg},
		{book(mostShades+1, 2, 0), api.ErrArg},
		{book(math.MaxInt, 2, 0), api.ErrArg},
		{book(math.MinInt, 2, 0), api.ErrArg},
		{book(3, 0, 0), api.ErrArg},
		{book(3, -1, 0), api.ErrArg},
		{book(3, mostJudges+1, 0), api.ErrArg},
		{book(3, math.MaxInt, 0), api.ErrArg},
		{book(3, math.MinInt, 0), api.ErrArg},
		{book(3, 2, -1), api.ErrArg},
		{book(3, 2, mostSlack+1), api.ErrArg},
		{book(3, 2, math.MaxInt), api.ErrArg},
		{book(3, 2, math.MinInt), api.ErrArg},
		{book(3, 2, 0, vote(-1, 0, 1)), api.ErrArg},
		{book(3, 2, 0, vote(2, 0, 1)), api.ErrArg},
		{book(3, 2, 0, vote(math.MaxInt, 0, 1)), api.ErrArg},
		{book(3, 2, 0, vote(0, -1, 1)), api.ErrArg},
		{book(3, 2, 0, vote(0, 3, 1)), api.ErrArg},
		{book(3, 2, 0, vote(0, 0, -1)), api.ErrArg},
		{book(3, 2, 0, vote(0, 0, 3)), api.ErrArg},
		{book(3, 2, 0, vote(0, 0, math.MinInt)), api.ErrArg},
		{book(3, 2, 0, vote(0, 0, 0)), api.ErrArg},
		{book(3, 2, 0, vote(0, 2, 2)), api.ErrArg},
		{book(1, 1, 0, vote(0, 0, 0)), api.ErrArg},
		{book(1, 1, 0, vote(0, 0, 1)), api.ErrArg},
		{book(3, 2, 0, fine, fine, wrong), api.ErrArg},
		{book(3, 2, 0, append(manyVotes(mostVotes-1, fine), wrong)...), api.ErrArg},
		{book(2, 1, 0, fine), api.ErrArg},
	} {
		if e := bookErrors(t, x.b); e != [3]api.Errno{x.e, x.e, x.e} {
			t.Error(i, e)
		}
	}
}

// P11.1: the limits of books, votes that say nothing or something else, and the
// chapter's example.
func TestSlipsAndDuels(t *testing.T) {
	for i, x := range []struct {
		b     api.PanelBook
		slips []int
		d     [][]int
	}{
		{bookB(), list(0, 1), lists(list(1), list(2), list(0))},
		{book(1, 1, 0), list(0), lists(nil)},
		{book(1, mostJudges, mostSlack), make([]int, mostJudges), lists(nil)},
		{book(mostShades, 1, mostSlack), list(0), ranked(mostShades)},
		{book(2, 1, 0), list(0), lists(list(1), nil)},
		{book(2, 1, 0, vote(0, 1, 0)), list(0), lists(nil, list(0))},
		{book(2, 1, 0, slices.Repeat([]api.PanelVote{vote(0, 1, 0)}, mostVotes)...), list(0), lists(nil, list(0))},
		// The judges with the numbers at both ends count as the others do.
		{book(2, mostJudges, 0, vote(mostJudges-1, 1, 0)), make([]int, mostJudges), lists(nil, list(0))},
		// A word is one, however many votes it comes from.
		{book(2, 3, 0, vote(0, 0, 1), vote(0, 0, 1), vote(0, 0, 1), vote(1, 1, 0), vote(2, 1, 0)), list(0, 0, 0), lists(nil, list(0))},
		// As many words for both: the lesser number wins, in whatever order they are.
		{book(2, 2, 0, vote(0, 1, 0), vote(1, 0, 1)), list(0, 0), lists(list(1), nil)},
		{book(2, 2, 0, vote(0, 0, 1), vote(1, 1, 0)), list(0, 0), lists(list(1), nil)},
		// A slip is one, however many votes it comes from, and is no word.
		{book(2, 1, 0, vote(0, 1, 0), vote(0, 0, 1), vote(0, 1, 0)), list(1), lists(list(1), nil)},
		{book(2, 1, 1, vote(0, 1, 0), vote(0, 0, 1), vote(0, 1, 0)), list(1), lists(list(1), nil)},
		{book(2, 2, 1, vote(0, 0, 1), vote(0, 1, 0), vote(1, 1, 0)), list(1, 0), lists(nil, list(0))},
		// With as many slips as Slack a judge counts, with one more it does not.
		{book(3, 1, 1, vote(0, 0, 1), vote(0, 1, 0), vote(0, 2, 1)), list(1), lists(list(1, 2), nil, list(1))},
		{book(3, 1, 0, vote(0, 0, 1), vote(0, 1, 0), vote(0, 2, 1)), list(1), ranked(3)},
		{book(3, 1, 2, vote(0, 0, 1), vote(0, 1, 0), vote(0, 1, 2), vote(0, 2, 1), vote(0, 2, 0)), list(2), lists(list(1), list(2), list(0))},
		{book(3, 1, 1, vote(0, 0, 1), vote(0, 1, 0), vote(0, 1, 2), vote(0, 2, 1), vote(0, 2, 0)), list(2), ranked(3)},
		// Votes of different judges against each other are no slip.
		{book(2, 3, 0, vote(0, 0, 1), vote(1, 1, 0), vote(2, 1, 0)), list(0, 0, 0), lists(nil, list(0))},
	} {
		s, e := slips(t, x.b)
		if !slices.Equal(s, x.slips) || e != api.OK {
			t.Error(i, s, e)
		}
		d, e := duels(t, x.b)
		if !equalLists(d, x.d) || e != api.OK || panel.CheckBook(x.b) != api.OK {
			t.Error(i, d, e)
		}
	}
}

// P11.1: so many slips as there is room for, with a Slack of as many and one less.
func TestManySlips(t *testing.T) {
	var votes []api.PanelVote
	for deeper := range mostShades {
		for paler := range mostShades {
			if deeper+paler >= 5 && deeper != paler {
				votes = append(votes, vote(0, deeper, paler))
			}
		}
	}
	n := len(votes) / 2
	votes = append(votes, vote(0, 2, 1), vote(0, 9, 8))
	if len(votes) != mostVotes {
		t.Error(len(votes))
	}
	for _, x := range []struct {
		slack int
		two   []int
	}{{n - 1, list(3, 4, 5, 6, 7, 8, 9)}, {n, list(1, 3, 4, 5, 6, 7, 8, 9)}, {mostSlack, list(1, 3, 4, 5, 6, 7, 8, 9)}} {
		b := book(mostShades, 1, x.slack, votes...)
		if s, e := slips(t, b); !slices.Equal(s, list(n)) || e != api.OK {
			t.Error(x.slack, s, e)
		}
		if d, e := duels(t, b); e != api.OK || !slices.Equal(d[2], x.two) {
			t.Error(x.slack, d, e)
		}
	}
}

// P11.2: what are no duels. All functions return its error before all others.
func TestBadDuels(t *testing.T) {
	for i, x := range []struct {
		d [][]int
		e api.Errno
	}{
		{nil, api.ErrMany},
		{lists(), api.ErrMany},
		{ranked(mostShades + 1), api.ErrMany},
		{make([][]int, 1<<16), api.ErrMany},
		{slices.Repeat(lists(list(-1)), mostShades+1), api.ErrMany},

		{lists(list(1)), api.ErrRange},
		{lists(list(-1)), api.ErrRange},
		{lists(list(2), nil), api.ErrRange},
		{lists(list(-1, 1), nil), api.ErrRange},
		{lists(list(math.MaxInt), nil), api.ErrRange},
		{lists(list(math.MinInt, 1), nil), api.ErrRange},
		{lists(list(1, 1), nil), api.ErrRange},
		{lists(list(2, 1), list(2), nil), api.ErrRange},
		{lists(list(1, 2), list(2), list(3)), api.ErrRange},
		{lists(list(1, 2), list(2), nil, list(0, 2, 1)), api.ErrRange},
		{lists(make([]int, 1<<16), nil), api.ErrRange},
		// All numbers are looked at before who beats whom.
		{lists(nil, nil, list(3)), api.ErrRange},
		{lists(list(1), list(0), list(1, 0)), api.ErrRange},
		{lists(list(0), list(2, 2), nil), api.ErrRange},

		{lists(nil, nil), api.ErrRule},
		{lists(list(1), list(0)), api.ErrRule},
		{lists(list(1, 2), nil, nil), api.ErrRule},
		{lists(list(1, 2), list(0, 2), nil), api.ErrRule},
		{lists(list(1, 2), list(2), list(1)), api.ErrRule},
		{lists(list(1, 2), list(2), list(0)), api.ErrRule},
		{make([][]int, mostShades), api.ErrRule},
		{append(ranked(mostShades)[:mostShades-1], list(8)), api.ErrRule},
		{append(ranked(mostShades)[:mostShades-2], nil, nil), api.ErrRule},
		// No shade beats itself.
		{lists(list(0)), api.ErrRule},
		{lists(list(0, 1), nil), api.ErrRule},
		{lists(list(1), list(1)), api.ErrRule},
		{lists(list(0), list(1)), api.ErrRule},
		{append(ranked(mostShades)[:mostShades-1], list(9)), api.ErrRule},
	} {
		for _, inOrder := range [][]int{nil, list(0), list(0, 1), list(0, 0), list(-1), make([]int, len(x.d)), make([]int, 1<<16)} {
			if e := duelErrors(t, x.d, inOrder); e != [6]api.Errno{x.e, x.e, x.e, x.e, x.e, x.e} {
				t.Error(i, len(inOrder), e)
			}
		}
	}
}

// P11.2, P11.4: with the chapter's examples.
func TestWinsCirclesAndGrades(t *testing.T) {
	for i, x := range []struct {
		d       [][]int
		wins    []int
		circles int
		grades  [][]int
	}{
		{duelsD(), list(1, 2, 2, 1), 2, lists(list(0, 1, 2, 3))},
		{lists(list(1), list(2), list(0)), list(1, 1, 1), 1, lists(list(0, 1, 2))},
		{lists(list(2), list(0), list(1)), list(1, 1, 1), 1, lists(list(0, 1, 2))},
		{lists(list(1, 2), list(2), nil), list(2, 1, 0), 0, lists(list(0), list(1), list(2))},
		{lists(nil, list(0), list(0, 1)), list(0, 1, 2), 0, lists(list(2), list(1), list(0))},
		{lists(nil), list(0), 0, lists(list(0))},
		{lists(nil, list(0)), list(0, 1), 0, lists(list(1), list(0))},
		{lists(list(1), nil), list(1, 0), 0, lists(list(0), list(1))},
		{ranked(mostShades), list(9, 8, 7, 6, 5, 4, 3, 2, 1, 0), 0, lists(list(0), list(1), list(2), list(3), list(4), list(5), list(6), list(7), list(8), list(9))},
		// 1 is behind the circle of 0, 2 and 4, and 3 ahead of it.
		{lists(list(1, 2), nil, list(1, 4), list(0, 1, 2, 4), list(0, 1)), list(2, 0, 2, 4, 2), 1, lists(list(3), list(0, 2, 4), list(1))},
		// Each of five beats the next two ones.
		{lists(list(1, 2), list(2, 3), list(3, 4), list(0, 4), list(0, 1)), list(2, 2, 2, 2, 2), 5, lists(list(0, 1, 2, 3, 4))},
		// Two circles, one behind the other one.
		{lists(list(2), list(0, 2, 3, 5), list(3), list(0), list(0, 1, 2, 3), list(0, 2, 3, 4)), list(1, 4, 1, 1, 4, 4), 2, lists(list(1, 4, 5), list(0, 2, 3))},
	} {
		if e := panel.CheckDuels(x.d); e != api.OK {
			t.Error(i, e)
		}
		if w, e := wins(t, x.d); !slices.Equal(w, x.wins) || e != api.OK {
			t.Error(i, w, e)
		}
		if n, e := circles(t, x.d); n != x.circles || e != api.OK {
			t.Error(i, n, e)
		}
		if g, e := grades(t, x.d); !equalLists(g, x.grades) || e != api.OK {
			t.Error(i, g, e)
		}
	}
}

// P11.3: with the chapter's examples.
func TestCheckOrder(t *testing.T) {
	for i, x := range []struct {
		d       [][]int
		inOrder []int
		e       api.Errno
	}{
		{duelsD(), list(0, 1, 2, 3), api.OK},
		{duelsD(), list(2, 3, 0, 1), api.OK},
		{duelsD(), list(3, 2, 1, 0), api.ErrRule},
		{duelsD(), list(0, 1, 3, 2), api.ErrRule},
		{duelsD(), list(1, 0, 2, 3), api.ErrRule},
		{duelsD(), list(0, 1, 2, 2), api.ErrRange},
		{duelsD(), list(0, 1, 2, 4), api.ErrRange},
		{duelsD(), list(-1, 0, 1, 2), api.ErrRange},
		{duelsD(), list(0, 1, 2, math.MaxInt), api.ErrRange},
		{duelsD(), list(math.MinInt, 1, 2, 3), api.ErrRange},
		// All numbers are looked at before who beats whom.
		{duelsD(), list(3, 2, 1, 1), api.ErrRange},
		{duelsD(), list(3, 3, 3, 3), api.ErrRange},
		{duelsD(), nil, api.ErrEqual},
		{duelsD(), list(0, 1, 2), api.ErrEqual},
		{duelsD(), list(0, 1, 2, 3, 0), api.ErrEqual},
		{duelsD(), list(0, 0, 9), api.ErrEqual},
		{duelsD(), list(-1, -1, -1, -1, -1), api.ErrEqual},
		{duelsD(), make([]int, 1<<16), api.ErrEqual},
		{lists(nil), list(0), api.OK},
		{lists(nil), list(1), api.ErrRange},
		{lists(nil), nil, api.ErrEqual},
		{ranked(mostShades), list(0, 1, 2, 3, 4, 5, 6, 7, 8, 9), api.OK},
		{ranked(mostShades), list(0, 1, 2, 3, 4, 5, 6, 7, 9, 8), api.ErrRule},
		{ranked(mostShades), list(0, 1, 2, 3, 4, 5, 6, 7, 8, 10), api.ErrRange},
	} {
		if e := panel.CheckOrder(x.d, x.inOrder); e != x.e {
			t.Error(i, e)
		}
	}
}

// P11.5: what is no list of wins. All functions return its error before all others.
func TestBadWins(t *testing.T) {
	for i, x := range []struct {
		wins []int
		e    api.Errno
	}{
		{nil, api.ErrMany},
		{list(), api.ErrMany},
		{make([]int, mostShades+1), api.ErrMany},
		{slices.Repeat(list(5), mostShades+1), api.ErrMany},
		{slices.Repeat(list(-1), mostShades+1), api.ErrMany},
		{make([]int, 1<<16), api.ErrMany},
		{list(-1), api.ErrRange},
		{list(mostShades), api.ErrRange},
		{list(math.MaxInt), api.ErrRange},
		{list(math.MinInt), api.ErrRange},
		{list(1, 1, 1, -1), api.ErrRange},
		{list(0, 10, 1), api.ErrRange},
		{append(make([]int, mostShades-1), mostShades), api.ErrRange},
		{list(math.MaxInt, math.MaxInt, 2), api.ErrRange},
	} {
		for _, indexes := range [][]int{nil, list(0), list(1, 0), list(-1), list(99), make([]int, 1<<16)} {
			if e := winErrors(t, x.wins, indexes); e != [3]api.Errno{x.e, x.e, x.e} {
				t.Error(i, len(indexes), e)
			}
		}
	}
}

// P11.5: with the chapter's examples.
func TestCheckShort(t *testing.T) {
	for i, x := range []struct {
		wins, indexes []int
		e             api.Errno
	}{
		{list(0, 0, 3), list(0, 1), api.OK},
		{list(0, 0, 3), list(0, 2), api.ErrSum},
		{list(2, 2, 0), list(0, 1, 2), api.OK},
		{list(2, 2, 0), list(0, 1), api.ErrSum},
		{list(2, 2, 0), list(2), api.ErrSum},
		{list(1, 1, 1), list(0, 1, 2), api.ErrSum},
		{list(0, 1, 1), list(0, 1, 2), api.OK},
		{list(0), nil, api.ErrSum},
		{list(0), list(0), api.ErrSum},
		{list(1), list(0), api.OK},
		{list(1), nil, api.ErrSum},
		{list(9), list(0), api.OK},
		// There is just so much that four indexes are not short.
		{list(1, 1, 2, 2, 9), list(0, 1, 2, 3), api.ErrSum},
		{list(1, 1, 1, 2, 9), list(0, 1, 2, 3), api.OK},
		{list(1, 1, 1, 2, 9), list(0, 1, 2, 4), api.ErrSum},
		{list(1, 1, 1, 2, 9), list(0, 1, 2, 3, 4), api.OK},
		{slices.Repeat(list(9), mostShades), list(0, 1, 2, 3, 4, 5, 6, 7, 8, 9), api.OK},
		{slices.Repeat(list(9), mostShades), list(0, 1, 2, 3, 4, 5, 6, 7, 8), api.ErrSum},
		{list(0, 1, 2, 3, 4, 5, 6, 7, 8, 9), list(0, 1, 2, 3, 4, 5, 6, 7, 8, 9), api.ErrSum},
		{list(0, 1, 2, 3, 4, 5, 6, 7, 8, 8), list(0, 1, 2, 3, 4, 5, 6, 7, 8, 9), api.OK},
		{list(0, 0, 3), list(1, 0), api.ErrRange},
		{list(0, 0, 3), list(0, 0), api.ErrRange},
		{list(0, 0, 3), list(0, 3), api.ErrRange},
		{list(0, 0, 3), list(-1, 0), api.ErrRange},
		{list(0, 0, 3), list(0, 1, 1), api.ErrRange},
		{list(0, 0, 3), list(0, 1, 2, 3), api.ErrRange},
		{list(0, 0, 3), list(math.MinInt, math.MaxInt), api.ErrRange},
		{list(0, 0, 3), make([]int, 1<<16), api.ErrRange},
		{list(1), list(1), api.ErrRange},
	} {
		if e := panel.CheckShort(x.wins, x.indexes); e != x.e {
			t.Error(i, e)
		}
	}
}

// P11.5: with the chapter's examples.
func TestPossible(t *testing.T) {
	for i, x := range []struct {
		wins []int
		e    api.Errno
	}{
		{list(1, 1, 1), api.OK},
		{list(0), api.OK},
		{list(0, 1), api.OK},
		{list(1, 2, 2, 1), api.OK},
		{list(2, 2, 2, 2, 2), api.OK},
		{list(9, 0, 8, 1, 7, 2, 6, 3, 5, 4), api.OK},
		{list(5, 5, 5, 5, 5, 4, 4, 4, 4, 4), api.OK},
		{list(1), api.ErrPlan},
		{list(1, 1), api.ErrPlan},
		{list(0, 0), api.ErrPlan},
		{list(2, 2, 0), api.ErrPlan},
		{list(0, 0, 3), api.ErrPlan},
		{list(0, 1, 1), api.ErrPlan},
		{list(0, 0, 3, 3), api.ErrPlan},
		{list(3, 3, 0, 0), api.ErrPlan},
		{list(9, 9, 7, 6, 5, 4, 3, 2, 0, 0), api.ErrPlan},
		{make([]int, mostShades), api.ErrPlan},
		{slices.Repeat(list(9), mostShades), api.ErrPlan},
	} {
		d, e := possible(t, x.wins)
		if e != x.e || e == api.OK && (panel.CheckDuels(d) != api.OK || !slices.Equal(winsOf(tableOf(d)), x.wins)) {
			t.Error(i, d, e)
		}
		if indexes, e := short(t, x.wins); (e == api.OK) == (x.e == api.OK) || e == api.OK && panel.CheckShort(x.wins, indexes) != api.OK {
			t.Error(i, indexes, e)
		}
	}
}
