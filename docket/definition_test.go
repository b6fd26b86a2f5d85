package docket_test

import (
	"cmp"
	"fmt"
	"iter"
	"math/big"
	"math/rand"
	"regexp"
	"slices"
	"strings"
	"testing"

	"lampblack/api"
	"lampblack/docket"
)

// The definitions of the chapter, as plainly as they can be written.

func touch(c, d api.DocketCard) bool {
	return slices.ContainsFunc(c.Things, func(thing int64) bool { return slices.Contains(d.Things, thing) })
}

// replayOf returns the errors of all cards, and all things that entered.
func replayOf(l []api.DocketCard) ([]api.Errno, []api.DocketThing) {
	things := map[int64]*api.DocketThing{}
	var errors []api.Errno
	for _, c := range l {
		errors = append(errors, replayCard(things, c))
	}
	var all []api.DocketThing
	for _, x := range things {
		all = append(all, *x)
	}
	slices.SortFunc(all, func(x, y api.DocketThing) int { return cmp.Compare(x.Number, y.Number) })
	return errors, all
}

func replayCard(things map[int64]*api.DocketThing, c api.DocketCard) api.Errno {
	there := map[int]int{api.DocketBurn: 1, api.DocketCompare: 2, api.DocketReplace: 1, api.DocketOut: 1, api.DocketClaim: 3}[c.Kind]
	for _, number := range c.Things[:there] {
		if things[number] == nil {
			return api.ErrNone
		}
		if things[number].Out {
			return api.ErrState
		}
	}
	x := things[c.Things[0]]
	switch c.Kind {
	case api.DocketEnter:
		if x != nil {
			return api.ErrHave
		}
		things[c.Things[0]] = &api.DocketThing{Number: c.Things[0], Value: c.A}
	case api.DocketBurn:
		if x.Hours+c.A > mostHours {
			return api.ErrOver
		}
		x.Hours += c.A
	case api.DocketCompare:
		value := things[c.Things[1]].Value * c.A / 1000
		if value < 1 || value > mostValue {
			return api.ErrOver
		}
		x.Value = value
	case api.DocketReplace:
		if things[c.Things[1]] != nil {
			return api.ErrHave
		}
		things[c.Things[1]] = &api.DocketThing{Number: c.Things[1], Value: x.Value}
		x.Out = true
	case api.DocketOut:
		x.Out = true
	case api.DocketClaim:
		both, one := x.Value+things[c.Things[1]].Value, things[c.Things[2]].Value
		if both-one > c.A || one-both > c.A {
			return api.ErrClaim
		}
	}
	return api.OK
}

func haveSameCards(a, b []api.DocketCard) bool {
	in := func(l []api.DocketCard) func(api.DocketCard) bool {
		return func(c api.DocketCard) bool {
			return slices.ContainsFunc(l, func(d api.DocketCard) bool { return equalCard(c, d) })
		}
	}
	not := func(is func(api.DocketCard) bool) func(api.DocketCard) bool {
		return func(c api.DocketCard) bool { return !is(c) }
	}
	return !slices.ContainsFunc(a, not(in(b))) && !slices.ContainsFunc(b, not(in(a)))
}

func indexOf(l []api.DocketCard, number int64) int {
	return slices.IndexFunc(l, func(c api.DocketCard) bool { return c.Number == number })
}

// haveSameHistory reports whether dockets have the same history.
func haveSameHistory(a, b []api.DocketCard) bool {
	if !haveSameCards(a, b) {
		return false
	}
	for i, c := range a {
		for _, d := range a[:i] {
			if touch(c, d) && indexOf(b, d.Number) > indexOf(b, c.Number) {
				return false
			}
		}
	}
	return true
}

// roundsOf returns the rounds of a docket.
func roundsOf(l []api.DocketCard) [][]int64 {
	round := make([]int, len(l))
	var all [][]int64
	for i, c := range l {
		round[i] = 1
		for j, d := range l[:i] {
			if touch(c, d) {
				round[i] = max(round[i], round[j]+1)
			}
		}
		for len(all) < round[i] {
			all = append(all, nil)
		}
		all[round[i]-1] = append(all[round[i]-1], c.Number)
	}
	for _, numbers := range all {
		slices.Sort(numbers)
	}
	return all
}

// pastOf returns the past of a thing in a docket.
func pastOf(l []api.DocketCard, thing int64) []api.DocketCard {
	in := make([]bool, len(l))
	for i, c := range l {
		in[i] = slices.Contains(c.Things, thing)
	}
	for range l {
		for i, c := range l {
			for j, d := range l[:i] {
				in[j] = in[j] || in[i] && touch(c, d)
			}
		}
	}
	var all []api.DocketCard
	for i, c := range l {
		if in[i] {
			all = append(all, c)
		}
	}
	return all
}

// pair is two Numbers.
type pair [2]int64

// direct returns the pairs of cards that touch of which one comes before the other
// one in one of some dockets.
func direct(dockets ...[]api.DocketCard) map[pair]bool {
	all := map[pair]bool{}
	for _, l := range dockets {
		for i, c := range l {
			for _, d := range l[:i] {
				if touch(c, d) {
					all[pair{d.Number, c.Number}] = true
				}
			}
		}
	}
	return all
}

// together returns the cards of two dockets, each one once.
func together(a, b []api.DocketCard) []api.DocketCard {
	all := slices.Clone(a)
	for _, c := range b {
		if indexOf(a, c.Number) < 0 {
			all = append(all, c)
		}
	}
	return all
}

// known returns the pairs of cards of which one is known to come before the other
// one.
func known(a, b []api.DocketCard) map[pair]bool {
	all := direct(a, b)
	numbers := numbersOf(together(a, b))
	for _, between := range numbers {
		for _, first := range numbers {
			if !all[pair{first, between}] {
				continue
			}
			for _, last := range numbers {
				if all[pair{between, last}] {
					all[pair{first, last}] = true
				}
			}
		}
	}
	return all
}

// contradict reports whether some card is known to come before itself.
func contradict(l []api.DocketCard, before map[pair]bool) bool {
	return slices.ContainsFunc(l, func(c api.DocketCard) bool { return before[pair{c.Number, c.Number}] })
}

func agree(a, b []api.DocketCard) bool {
	return !slices.ContainsFunc(a, func(c api.DocketCard) bool {
		return slices.ContainsFunc(b, func(d api.DocketCard) bool { return c.Number == d.Number && !equalCard(c, d) })
	})
}

func isCircle(a, b []api.DocketCard, numbers []int64) bool {
	all := direct(a, b)
	for i := 1; i < len(numbers); i++ {
		if !all[pair{numbers[i-1], numbers[i]}] {
			return false
		}
	}
	return len(numbers) >= 3 && numbers[0] == numbers[len(numbers)-1]
}

// mergeError returns the error of Merge for dockets.
func mergeError(a, b []api.DocketCard) api.Errno {
	all := together(a, b)
	switch {
	case !agree(a, b):
		return api.ErrEqual
	case len(all) > mostCards:
		return api.ErrMany
	}
	before := known(a, b)
	if contradict(all, before) {
		return api.ErrOrder
	}
	for i, c := range all {
		for _, d := range all[:i] {
			if touch(c, d) && !before[pair{c.Number, d.Number}] && !before[pair{d.Number, c.Number}] {
				return api.ErrRule
			}
		}
	}
	return api.OK
}

// isInOrder reports whether each card of a docket comes after all that are known
// to come before it.
func isInOrder(l []api.DocketCard, before map[pair]bool) bool {
	for i, c := range l {
		for _, d := range l[:i] {
			if before[pair{c.Number, d.Number}] {
				return false
			}
		}
	}
	return true
}

// isLeast reports whether a docket in order is the least one: whether for none of
// its places there is a card with a lesser Number, later, that could stand there
// with all those before this place left as they are.
func isLeast(l []api.DocketCard, before map[pair]bool) bool {
	for i, c := range l {
		for _, d := range l[i+1:] {
			needs := slices.ContainsFunc(l[i:], func(other api.DocketCard) bool { return before[pair{other.Number, d.Number}] })
			if d.Number < c.Number && !needs {
				return false
			}
		}
	}
	return true
}

// orders yields all orders of cards.
func orders(l []api.DocketCard) iter.Seq[[]api.DocketCard] {
	return func(yield func([]api.DocketCard) bool) {
		if len(l) == 0 {
			yield(nil)
			return
		}
		for i, c := range l {
			for rest := range orders(slices.Delete(slices.Clone(l), i, i+1)) {
				if !yield(append([]api.DocketCard{c}, rest...)) {
					return
				}
			}
		}
	}
}

// leastOf returns the least order of cards in which each one comes after all that
// are known to come before it, by all orders.
func leastOf(l []api.DocketCard, before map[pair]bool) []api.DocketCard {
	sorted := slices.SortedFunc(slices.Values(l), func(c, d api.DocketCard) int { return cmp.Compare(c.Number, d.Number) })
	for one := range orders(sorted) {
		if isInOrder(one, before) {
			return one
		}
	}
	return nil
}

// someCard returns a valid card with a Number, of things up to one, with values and
// hours that often are at a limit.
func someCard(chance *rand.Rand, number, things int64) api.DocketCard {
	c := api.DocketCard{Number: number, Kind: 1 + chance.Intn(6)}
	for thingsOf[c.Kind] > int(things) {
		c.Kind = 1 + chance.Intn(6)
	}
	for _, i := range chance.Perm(int(things))[:thingsOf[c.Kind]] {
		c.Things = append(c.Things, int64(i)+1)
	}
	least := []int64{0, 1, 1, 1, 0, 0, 0}[c.Kind]
	most := []int64{0, mostValue, mostHours, mostPart, 0, 0, mostValue}[c.Kind]
	switch chance.Intn(4) {
	case 0:
		c.A = []int64{least, most}[chance.Intn(2)]
	case 1:
		c.A = least + chance.Int63n(most-least+1)
	default:
		c.A = min(most, least+chance.Int63n(2000))
	}
	return c
}

// someDocket returns a docket of so many cards, of things up to one. Most things
// enter at its beginning, and few of them go out.
func someDocket(chance *rand.Rand, size int, things int64) []api.DocketCard {
	var l []api.DocketCard
	for i, number := range chance.Perm(size + 5)[:size] {
		c := someCard(chance, int64(number)+1, things)
		if (c.Kind == api.DocketOut || c.Kind == api.DocketReplace) && chance.Intn(3) > 0 {
			c = someCard(chance, c.Number, things)
		}
		if int64(i) < things && chance.Intn(5) > 0 {
			c = api.DocketCard{Number: c.Number, Kind: api.DocketEnter, Things: list(int64(i) + 1), A: 1 + chance.Int63n(3000)}
		}
		l = append(l, c)
	}
	return l
}

// someDockets returns dockets of all sizes.
func someDockets(seed int64, n int) [][]api.DocketCard {
	chance := rand.New(rand.NewSource(seed))
	all := [][]api.DocketCard{nil, docketD(), docketE()}
	for len(all) < n {
		all = append(all, someDocket(chance, chance.Intn(mostCards+1), 1+chance.Int63n(30)),
			someDocket(chance, chance.Intn(12), 1+chance.Int63n(6)))
	}
	return all
}

// shuffled returns a docket after many exchanges of two cards beside each other
// that do not touch.
func shuffled(chance *rand.Rand, l []api.DocketCard) []api.DocketCard {
	one := slices.Clone(l)
	for range len(l) * len(l) {
		i := 1 + chance.Intn(len(l))
		if i < len(l) && !touch(one[i-1], one[i]) {
			one[i-1], one[i] = one[i], one[i-1]
		}
	}
	return one
}

// part returns some cards of a docket: of so many, about one is left out.
func part(chance *rand.Rand, l []api.DocketCard, of int) []api.DocketCard {
	return slices.DeleteFunc(slices.Clone(l), func(api.DocketCard) bool { return chance.Intn(of) == 0 })
}

// twoDockets returns two dockets that often have many cards in common: two parts
// of one, in orders that are the same, but for some exchanges.
func twoDockets(chance *rand.Rand, l []api.DocketCard) (a, b []api.DocketCard) {
	a, b = part(chance, l, 1+chance.Intn(6)), part(chance, shuffled(chance, l), 2+chance.Intn(6))
	if len(b) > 1 && chance.Intn(2) == 0 {
		for range chance.Intn(4) {
			i, j := chance.Intn(len(b)), chance.Intn(len(b))
			b[i], b[j] = b[j], b[i]
		}
	}
	if chance.Intn(8) == 0 {
		b = shuffled(chance, l)
	}
	if chance.Intn(10) == 0 && len(b) > 0 {
		i := chance.Intn(len(b))
		b[i] = someCard(chance, b[i].Number, 6)
	}
	if chance.Intn(5) == 0 {
		for i := range b {
			b[i].Number += int64(chance.Intn(2)) * 1000
		}
	}
	return a, b
}

// seeReplay sees to it that a docket is replayed as it is defined.
func seeReplay(t *testing.T, l []api.DocketCard) {
	t.Helper()
	errors, things := replayOf(l)
	if got, e := replay(t, l); !slices.Equal(got, errors) || e != api.OK {
		t.Error(l, got, errors, e)
	}
	if got, e := state(t, l); !slices.Equal(got, things) || e != api.OK {
		t.Error(l, got, things, e)
	}
}

// smallCards returns all cards of three things, but for the Number, with one
// A for each kind.
func smallCards() []api.DocketCard {
	lines := func(kind string, numbers ...string) []api.DocketCard {
		var l []api.DocketCard
		for _, one := range numbers {
			l = append(l, card(kind+" 1 "+one))
		}
		return l
	}
	return slices.Concat(
		lines("enter", "1 2", "2 5", "3 2"),
		lines("burn", "1 5001", "2 5001", "3 3000"),
		lines("compare", "1 2 400", "1 3 2500", "2 1 600", "2 3 500", "3 1 499", "3 2 100000"),
		lines("replace", "1 2 0", "1 3 0", "2 1 0", "2 3 0", "3 1 0", "3 2 0"),
		lines("out", "1 0", "2 0", "3 0"),
		lines("claim", "1 2 3 4", "1 3 2 1", "2 1 3 5", "2 3 1 4", "3 1 2 0", "3 2 1 6"))
}

// P12.3, P12.4: all dockets of four cards of three things.
func TestAllSmallReplays(t *testing.T) {
	small := smallCards()
	l := make([]api.DocketCard, 4)
	n := len(small)
	for at := range n * n * n * n {
		for i, rest := 0, at; i < len(l); i, rest = i+1, rest/n {
			l[i] = small[rest%n]
			l[i].Number = int64(i) + 1
		}
		seeReplay(t, l)
	}
}

// P12.3, P12.4: dockets of all sizes.
func TestReplayOfAllSizes(t *testing.T) {
	seen := map[api.Errno]int{}
	for _, l := range someDockets(1, 4000) {
		seeReplay(t, l)
		errors, _ := replayOf(l)
		for _, e := range errors {
			seen[e]++
		}
	}
	for _, e := range []api.Errno{api.OK, api.ErrHave, api.ErrNone, api.ErrState, api.ErrOver, api.ErrClaim} {
		if seen[e] < 300 {
			t.Error(e, seen[e])
		}
	}
}

// P12.5, P12.6, P12.7: dockets of all sizes.
func TestHistoriesOfAllSizes(t *testing.T) {
	for _, l := range someDockets(2, 1500) {
		if got, e := rounds(t, l); !equalLists(got, roundsOf(l)) || e != api.OK {
			t.Error(l, got, e)
		}
		before := direct(l)
		got, e := least(t, l)
		if !haveSameHistory(l, got) || len(got) != len(l) || !isLeast(got, before) || e != api.OK {
			t.Error(l, numbersOf(got), e)
		}
		for thing := int64(1); thing < 32; thing += 5 {
			if got, e := past(t, l, thing); !equalCards(got, pastOf(l, thing)) || e != api.OK {
				t.Error(l, thing, numbersOf(got), e)
			}
		}
	}
}

// P12.6: the least docket of all with the same history, by all orders.
func TestLeastOfAllOrders(t *testing.T) {
	chance := rand.New(rand.NewSource(3))
	for range 1500 {
		l := someDocket(chance, chance.Intn(7), 1+chance.Int63n(6))
		var want []api.DocketCard
		for one := range orders(l) {
			if haveSameHistory(l, one) && (want == nil || slices.Compare(numbersOf(one), numbersOf(want)) < 0) {
				want = one
			}
		}
		if got, e := least(t, l); !equalCards(got, want) || e != api.OK {
			t.Error(l, numbersOf(got), e)
		}
	}
}

// P12.8: a docket and all its orders, and pairs of dockets of all sizes.
func TestSameByDefinition(t *testing.T) {
	chance := rand.New(rand.NewSource(4))
	seen := map[api.Errno]int{}
	see := func(a, b []api.DocketCard) {
		want := api.OK
		if !haveSameCards(a, b) {
			want = api.ErrEqual
		} else if !haveSameHistory(a, b) {
			want = api.ErrOrder
		}
		seen[want]++
		if e := docket.Same(a, b); e != want {
			t.Error(a, b, e, want)
		}
	}
	for range 100 {
		l := someDocket(chance, chance.Intn(6), 1+chance.Int63n(12))
		for one := range orders(l) {
			see(l, one)
		}
	}
	for _, l := range someDockets(5, 1000) {
		see(twoDockets(chance, l))
		see(l, shuffled(chance, l))
		if len(l) > 0 {
			b, i := shuffled(chance, l), chance.Intn(len(l))
			b[i] = someCard(chance, b[i].Number, 8)
			see(l, b)
			see(l, b[1:])
			see(b[1:], l)
		}
	}
	for _, e := range []api.Errno{api.OK, api.ErrEqual, api.ErrOrder} {
		if seen[e] < 500 {
			t.Error(e, seen[e])
		}
	}
}

// seeTwo sees to it that what is returned for two dockets is as it is defined, and
// returns the error of Merge.
func seeTwo(t *testing.T, a, b []api.DocketCard) api.Errno {
	t.Helper()
	want := mergeError(a, b)
	before, all := known(a, b), together(a, b)
	got, e := merge(t, a, b)
	if e != want {
		t.Error(a, b, e, want)
	}
	if e == api.OK && (!haveSameCards(got, all) || len(got) != len(all) || !isInOrder(got, before) || !isLeast(got, before)) {
		t.Error(a, b, numbersOf(got))
	}
	found, e := circle(t, a, b)
	switch {
	case want == api.ErrEqual && e == api.ErrEqual:
	case want == api.ErrEqual || contradict(all, before) != (e == api.OK) || e != api.OK && e != api.ErrNone:
		t.Error(a, b, found, e)
	case e == api.OK && (!isCircle(a, b, found) || docket.CheckCircle(a, b, found) != api.OK):
		t.Error(a, b, found)
	}
	return want
}

// P12.9, P12.10: small dockets, by all orders of their cards.
func TestTwoSmallDockets(t *testing.T) {
	chance := rand.New(rand.NewSource(6))
	seen := map[api.Errno]int{}
	for range 10000 {
		a, b := twoDockets(chance, someDocket(chance, chance.Intn(7), 1+chance.Int63n(5)))
		want := seeTwo(t, a, b)
		seen[want]++
		if got, _ := merge(t, a, b); want == api.OK && len(got) < 8 && !equalCards(got, leastOf(together(a, b), known(a, b))) {
			t.Error(a, b, numbersOf(got))
		}
	}
	for _, e := range []api.Errno{api.OK, api.ErrEqual, api.ErrOrder, api.ErrRule} {
		if seen[e] < 200 {
			t.Error(e, seen[e])
		}
	}
}

// P12.9, P12.10: dockets of all sizes.
func TestTwoDocketsOfAllSizes(t *testing.T) {
	chance := rand.New(rand.NewSource(7))
	seen := map[api.Errno]int{}
	for _, l := range someDockets(8, 1500) {
		a, b := twoDockets(chance, l)
		seen[seeTwo(t, a, b)]++
	}
	for _, e := range []api.Errno{api.OK, api.ErrEqual, api.ErrMany, api.ErrOrder, api.ErrRule} {
		if seen[e] < 20 {
			t.Error(e, seen[e])
		}
	}
}

// P12.10: dockets that contradict each other, though no two cards that touch are
// in a different order.
func TestLongCircles(t *testing.T) {
	chance := rand.New(rand.NewSource(9))
	seen := 0
	for range 12000 {
		// cards that do not touch, and others in one docket that touch several of them
		both := outs(1, 2+chance.Int63n(3))
		a, b := slices.Clone(both), slices.Clone(both)
		for number := range 2 + chance.Int63n(4) {
			x, y := chance.Int63n(4), chance.Int63n(3)
			a = append(a, card(fmt.Sprintf("replace %d %d %d 0", 100+number, 1+x, 1+(x+1+y)%4)))
			x, y = chance.Int63n(4), chance.Int63n(3)
			b = append(b, card(fmt.Sprintf("replace %d %d %d 0", 200+number, 1+x, 1+(x+1+y)%4)))
		}
		chance.Shuffle(len(a), func(i, j int) { a[i], a[j] = a[j], a[i] })
		chance.Shuffle(len(b), func(i, j int) { b[i], b[j] = b[j], b[i] })
		before := direct(a, b)
		isShort := false
		for x := range before {
			isShort = isShort || before[pair{x[1], x[0]}]
		}
		if !isShort && contradict(together(a, b), known(a, b)) {
			seen++
			seeTwo(t, a, b)
		}
	}
	if seen < 200 {
		t.Error(seen)
	}
}

// P12.10: lists of Numbers that are circles, and others.
func TestCheckCircleByDefinition(t *testing.T) {
	chance := rand.New(rand.NewSource(10))
	right := 0
	for range 12000 {
		a, b := twoDockets(chance, someDocket(chance, chance.Intn(12), 1+chance.Int63n(3)))
		numbers := numbersOf(together(a, b))
		found, e := circle(t, a, b)
		if e != api.OK || chance.Intn(4) == 0 {
			for range chance.Intn(6) {
				found = append(found, append(numbers, 999)[chance.Intn(len(numbers)+1)])
			}
		} else if chance.Intn(2) == 0 {
			found[chance.Intn(len(found))] = numbers[chance.Intn(len(numbers))]
		} else {
			found = append(slices.Clone(found), found[1:]...)
		}
		want := api.OK
		switch {
		case !agree(a, b):
			want = api.ErrEqual
		case len(found) < 3:
			want = api.ErrMany
		case !isCircle(a, b, found):
			want = api.ErrSum
		default:
			right++
		}
		if e := docket.CheckCircle(a, b, found); e != want {
			t.Error(a, b, found, e, want)
		}
	}
	if right < 200 {
		t.Error(right)
	}
}

// isFile reports whether a text is the file of a list of cards with numbers that
// are not too great.
func isFile(file string) bool {
	const number = ` (?:0|-?[1-9][0-9]*)`
	form := regexp.MustCompile(fmt.Sprintf(`\A(?:(?:(?:enter|burn|out)(?:%[1]s){3}|(?:compare|replace)(?:%[1]s){4}|claim(?:%[1]s){5})\n)*\z`, number))
	if !form.MatchString(file) {
		return false
	}
	for _, word := range strings.Fields(file) {
		n, is := new(big.Int).SetString(word, 10)
		if is && n.CmpAbs(big.NewInt(mostNumber)) > 0 {
			return false
		}
	}
	return true
}

// changed returns a file with something written into it, or left out, or with one
// word in the place of another one.
func changed(chance *rand.Rand, file string) string {
	if said := strings.Fields(file); len(said) > 0 && chance.Intn(2) == 0 {
		return strings.Replace(file, " "+said[chance.Intn(len(said))], " "+said[chance.Intn(len(said))], 1)
	}
	from := chance.Intn(len(file) + 1)
	to := min(len(file), from+chance.Intn(3))
	pieces := []string{"", "", " ", "\n", "0", "1", "-", "-1", "9", "00", "e", "out", "out 7 7 0\n", "1099511627776", "1099511627777", "out 1 2 0\nburn 1 2 x\n", "\r", "\x00"}
	return file[:from] + pieces[chance.Intn(len(pieces))] + file[to:]
}

// P12.11: files that are somewhat wrong, and others that are not.
func TestReadByDefinition(t *testing.T) {
	chance := rand.New(rand.NewSource(11))
	seen := map[api.Errno]int{}
	for i, l := range slices.Repeat(someDockets(12, 2000), 5) {
		file, e := write(t, l[:min(len(l), 1+i%20)])
		if e != api.OK || !isFile(file) {
			t.Fatal(l, file, e)
		}
		for range 1 + chance.Intn(2) {
			file = changed(chance, file)
		}
		got, e := read(t, file)
		if isFile(file) == (e == api.ErrForm) {
			t.Errorf("%q %d", file, e)
		}
		if e == api.ErrForm {
			seen[e]++
			continue
		}
		l := cards(strings.Split(strings.TrimSuffix(file, "\n"), "\n")[:strings.Count(file, "\n")]...)
		want := docket.CheckDocket(l)
		seen[want]++
		if e != want || e == api.OK && !equalCards(got, l) {
			t.Errorf("%q %v %d", file, got, e)
		}
	}
	for _, e := range []api.Errno{api.OK, api.ErrForm, api.ErrArg, api.ErrRange, api.ErrRule, api.ErrHave} {
		if seen[e] < 20 {
			t.Error(e, seen[e])
		}
	}
}
