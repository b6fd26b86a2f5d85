package docket_test

import (
	"cmp"
	"fmt"
	"math/rand"
	"slices"
	"testing"

	"lampblack/api"
	"lampblack/docket"
)

// outcome returns what a docket does, as a text: for each card, increasing by Number,
// with which error it is refused, and the state.
func outcome(t *testing.T, l []api.DocketCard) string {
	t.Helper()
	errors, e := replay(t, l)
	things, f := state(t, l)
	if e != api.OK || f != api.OK {
		t.Error(l, e, f)
	}
	var all []string
	for i, c := range l {
		all = append(all, fmt.Sprintf("%015d %d", c.Number, errors[i]))
	}
	slices.Sort(all)
	return fmt.Sprint(all, things)
}

// history returns the rounds and the least docket of a docket, as texts.
func history(t *testing.T, l []api.DocketCard) (inRounds, inLeast string) {
	t.Helper()
	all, e := rounds(t, l)
	first, f := least(t, l)
	if e != api.OK || f != api.OK {
		t.Error(l, e, f)
	}
	return fmt.Sprint(all), fmt.Sprint(first)
}

// seeHistories sees to it that two dockets with the same cards have the same rounds
// and the same least dockets just if they have the same history; and then the same
// outcome, too. It returns whether they have.
func seeHistories(t *testing.T, a, b []api.DocketCard) bool {
	t.Helper()
	e := docket.Same(a, b)
	inRounds, inLeast := history(t, a)
	inRoundsOfOther, inLeastOfOther := history(t, b)
	if e != api.OK && e != api.ErrOrder || (e == api.OK) != (inRounds == inRoundsOfOther) || (e == api.OK) != (inLeast == inLeastOfOther) {
		t.Error(a, b, e)
	}
	if e == api.OK && outcome(t, a) != outcome(t, b) {
		t.Error(a, b)
	}
	return e == api.OK
}

// P12.12: two cards beside each other that do not touch are exchanged, or two that
// do.
func TestExchanges(t *testing.T) {
	same, others := 0, 0
	for _, l := range someDockets(51, 300) {
		for i := 1; i < len(l); i++ {
			one := slices.Clone(l)
			one[i-1], one[i] = l[i], l[i-1]
			is := seeHistories(t, l, one)
			if is == touch(l[i-1], l[i]) {
				t.Error(l, i)
			}
			if is {
				same++
			} else {
				others++
			}
		}
	}
	if same < 500 || others < 500 {
		t.Error(same, others)
	}
}

// P12.12: many exchanges, and any order.
func TestOneHistory(t *testing.T) {
	chance := rand.New(rand.NewSource(52))
	for _, l := range someDockets(53, 600) {
		if !seeHistories(t, l, shuffled(chance, l)) {
			t.Error(l)
		}
		one := slices.Clone(l)
		chance.Shuffle(len(one), func(i, j int) { one[i], one[j] = one[j], one[i] })
		seeHistories(t, l, one)
	}
	for range 60 {
		l := someDocket(chance, chance.Intn(6), 1+chance.Int63n(6))
		for one := range orders(l) {
			seeHistories(t, l, one)
		}
	}
}

// P12.13
func TestRoundsAreHistories(t *testing.T) {
	for _, l := range someDockets(54, 1000) {
		all, e := rounds(t, l)
		if e != api.OK {
			t.Fatal(l, e)
		}
		var before []api.DocketCard
		for _, numbers := range all {
			round := some(l, numbers...)
			for i, c := range round {
				touches := func(d api.DocketCard) bool { return touch(c, d) }
				if slices.ContainsFunc(round[:i], touches) || before != nil && !slices.ContainsFunc(before, touches) {
					t.Error(l, all, c)
				}
			}
			if !slices.IsSorted(numbers) || len(numbers) == 0 {
				t.Error(l, all)
			}
			before = round
		}
		if e := docket.Same(l, some(l, slices.Concat(all...)...)); e != api.OK {
			t.Error(l, all, e)
		}
	}
}

// P12.14
func TestPastIsEnough(t *testing.T) {
	entered := 0
	for _, l := range someDockets(55, 600) {
		for number := int64(1); number <= 31; number++ {
			before, e := past(t, l, number)
			things, f := state(t, l)
			thingsBefore, g := state(t, before)
			if e != api.OK || f != api.OK || g != api.OK {
				t.Fatal(l, number, e, f, g)
			}
			isIt := func(x api.DocketThing) bool { return x.Number == number }
			i, j := slices.IndexFunc(things, isIt), slices.IndexFunc(thingsBefore, isIt)
			if (i < 0) != (j < 0) || i >= 0 && things[i] != thingsBefore[j] {
				t.Error(l, number)
			}
			if i >= 0 {
				entered++
			}
		}
	}
	if entered < 1000 {
		t.Error(entered)
	}
}

// P12.15: what is merged has parts with the histories of both dockets.
func TestMergedHistories(t *testing.T) {
	chance := rand.New(rand.NewSource(56))
	merged := 0
	for _, l := range someDockets(57, 1500) {
		a, b := twoDockets(chance, l)
		both, e := merge(t, a, b)
		if e != api.OK {
			continue
		}
		merged++
		for _, one := range [][]api.DocketCard{a, b} {
			numbers := numbersOf(both)
			numbers = slices.DeleteFunc(numbers, func(n int64) bool { return indexOf(one, n) < 0 })
			if e := docket.Same(one, some(both, numbers...)); e != api.OK {
				t.Error(a, b, numbersOf(both), e)
			}
		}
		again, e := merge(t, b, a)
		if !equalCards(again, both) || e != api.OK {
			t.Error(a, b, e)
		}
	}
	if merged < 300 {
		t.Error(merged)
	}
}

// P12.15: parts of a docket in one of which are any two that touch.
func TestMergedParts(t *testing.T) {
	chance := rand.New(rand.NewSource(58))
	for _, l := range someDockets(59, 1500) {
		isIn := map[int64]bool{}
		for _, c := range l {
			isIn[c.Number] = chance.Intn(4) > 0
		}
		// each card that is not in one part is in the other one, with all that it touches
		var a, b []api.DocketCard
		for _, c := range l {
			if isIn[c.Number] {
				a = append(a, c)
			}
			if slices.ContainsFunc(l, func(d api.DocketCard) bool { return !isIn[d.Number] && touch(c, d) }) {
				b = append(b, c)
			}
		}
		want, e := least(t, l)
		got, f := merge(t, shuffled(chance, a), shuffled(chance, b))
		if !equalCards(got, want) || e != api.OK || f != api.OK {
			t.Error(l, a, b, numbersOf(got), e, f)
		}
		if found, e := circle(t, a, b); e != api.ErrNone {
			t.Error(l, a, b, found, e)
		}
	}
}

// P12.15: two dockets contradict each other just if there is a circle, which Merge
// and Circle say alike.
func TestContradictions(t *testing.T) {
	chance := rand.New(rand.NewSource(60))
	for range 8000 {
		a, b := twoDockets(chance, someDocket(chance, chance.Intn(20), 1+chance.Int63n(8)))
		_, e := merge(t, a, b)
		found, f := circle(t, a, b)
		if (e == api.ErrOrder) != (f == api.OK) || (e == api.ErrEqual) != (f == api.ErrEqual) {
			t.Error(a, b, e, f)
		}
		if f == api.OK && (docket.CheckCircle(a, b, found) != api.OK || docket.CheckCircle(b, a, found) != api.OK) {
			t.Error(a, b, found)
		}
	}
}

// P12.16
func TestFiled(t *testing.T) {
	for _, l := range someDockets(61, 2000) {
		file, e := write(t, l)
		got, f := read(t, file)
		if !equalCards(got, l) || e != api.OK || f != api.OK {
			t.Error(l, file, got, e, f)
		}
	}
	chance := rand.New(rand.NewSource(62))
	accepted := 0
	for _, l := range someDockets(63, 4000) {
		file, _ := write(t, l)
		file = changed(chance, file)
		got, e := read(t, file)
		if e != api.OK {
			continue
		}
		accepted++
		if again, e := write(t, got); again != file || e != api.OK {
			t.Errorf("%q %q %d", file, again, e)
		}
	}
	if accepted < 300 {
		t.Error(accepted)
	}
}

// P12.16: numbers as great as they can be.
func TestGreatFile(t *testing.T) {
	var l []api.DocketCard
	for i := range int64(mostCards) {
		l = append(l, api.DocketCard{Number: mostNumber - i, Kind: api.DocketClaim, Things: list(mostNumber, mostNumber-1-i, mostNumber-100), A: mostValue})
	}
	file, e := write(t, l)
	if got, f := read(t, file); !equalCards(got, l) || e != api.OK || f != api.OK {
		t.Error(got, e, f)
	}
	slices.SortFunc(l, func(c, d api.DocketCard) int { return cmp.Compare(d.Number, c.Number) })
	if all, e := rounds(t, l); len(all) != mostCards || e != api.OK {
		t.Error(all, e)
	}
}
