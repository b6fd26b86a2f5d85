package eye_test

import (
	"math/rand"
	"slices"
	"testing"

	"lampblack/api"
	"lampblack/eye"
)

// strongest returns, for each Guess up to the whole, the most Eye of all sets with
// at most this Guess.
func strongest(all []api.EyeOdds, whole int64) []int64 {
	most := make([]int64, whole+1)
	for _, o := range all {
		for guess := whole; guess >= o.Guess; guess-- {
			most[guess] = max(most[guess], most[guess-o.Guess]+o.Eye)
		}
	}
	return most
}

// strongestBySets returns the same by trying all sets.
func strongestBySets(all []api.EyeOdds, whole int64) []int64 {
	most := make([]int64, whole+1)
	for _, set := range allSets(len(all)) {
		o := sumOf(all, set)
		for guess := o.Guess; guess <= whole; guess++ {
			most[guess] = max(most[guess], o.Eye)
		}
	}
	return most
}

// allSets returns all sets of so many outcomes.
func allSets(size int) [][]int {
	sets := [][]int{nil}
	for number := range size {
		for _, s := range sets {
			sets = append(sets, append(slices.Clone(s), number))
		}
	}
	return sets
}

// P10.10: whatever a threshold proves is the strongest set, by all sets of small
// tests.
func TestStrongestOfAllSets(t *testing.T) {
	chance := rand.New(rand.NewSource(11))
	proved, weak := 0, 0
	for range 150 {
		p := someTest(chance, 3, 3, 3)
		all := allOdds(p)
		if len(all) > 9 {
			continue
		}
		most := strongestBySets(all, wholeOf(p))
		if !slices.Equal(most, strongest(all, wholeOf(p))) {
			t.Fatal(p)
		}
		for _, at := range smallThresholds(wholeOf(p)) {
			for _, set := range allSets(len(all)) {
				o := sumOf(all, set)
				isWeak := o.Eye < most[o.Guess]
				e := checkBest(t, p, set, at)
				if e == api.OK && isWeak {
					t.Error(p, set, at)
				}
				if e == api.OK {
					proved++
				}
				if isWeak {
					weak++
				}
			}
		}
		seeStrongest(t, p, most)
	}
	if proved < 1000 || weak < 1000 {
		t.Error(proved, weak)
	}
}

// P10.10: what Best returns is the strongest set of its Guess, and its threshold
// proves it.
func TestStrongest(t *testing.T) {
	for _, p := range someTests(12, 200) {
		if wholeOf(p) <= 2000 {
			seeStrongest(t, p, strongest(allOdds(p), wholeOf(p)))
		}
	}
}

// seeStrongest sees to it that the sets that Best returns have as much Eye as any
// set with at most their Guess, and that their thresholds prove them.
func seeStrongest(t *testing.T, p []api.EyePlate, most []int64) {
	t.Helper()
	for guess := range int64(len(most)) {
		if guess > 40 && guess%37 != 0 {
			continue
		}
		set, at, e := best(t, p, guess)
		if proof := checkBest(t, p, set, at); e != api.OK || proof != api.OK {
			t.Error(p, guess, set, at, e, proof)
		}
		o, e := sum(t, p, set)
		if e != api.OK || o.Guess > guess || o.Eye != most[o.Guess] {
			t.Error(p, guess, set, o, e)
		}
	}
}

// isPart reports whether all numbers of a set are in another one.
func isPart(set, whole []int) bool {
	for _, number := range set {
		if !slices.Contains(whole, number) {
			return false
		}
	}
	return true
}

// P10.11
func TestNested(t *testing.T) {
	chance := rand.New(rand.NewSource(13))
	grown := 0
	for _, p := range someTests(14, 200) {
		all := allOdds(p)
		thresholds := thresholdsOf(all)
		for range 10 {
			thresholds = append(thresholds, someThreshold(chance, all))
		}
		slices.SortFunc(thresholds, inOrder)
		var before []int
		for i, at := range thresholds {
			found, e := region(t, p, at)
			if e != api.OK || i > 0 && !isPart(found, before) {
				t.Error(p, at, found, e)
			}
			before = found
		}
		mosts := someMosts(chance, all)
		slices.Sort(mosts)
		before = nil
		for _, most := range mosts {
			found, _, e := best(t, p, most)
			if e != api.OK || len(found) < len(before) {
				t.Error(p, most, found, e)
			}
			if len(found) > len(before) {
				grown++
			}
			before = found
		}
		everything := allNumbers(len(all))
		n, _ := whole(t, p)
		if o, e := sum(t, p, everything); o != odds(n, n) || e != api.OK {
			t.Error(p, o, e)
		}
	}
	if grown < 300 {
		t.Error(grown)
	}
}

func allNumbers(size int) []int {
	var numbers []int
	for number := range size {
		numbers = append(numbers, number)
	}
	return numbers
}

// merged returns a plate whose first two answers, in any order of answers, that
// are in the same proportion are counted as one, or false if there are none, or
// if just one answer would be left.
func merged(chance *rand.Rand, x api.EyePlate) (api.EyePlate, bool) {
	n := len(x.Guess)
	for _, i := range chance.Perm(n) {
		for j := range n {
			if n == 2 || i == j || x.Guess[i]*x.Eye[j] != x.Guess[j]*x.Eye[i] {
				continue
			}
			one := plate(slices.Clone(x.Guess), slices.Clone(x.Eye))
			one.Guess[i] += one.Guess[j]
			one.Eye[i] += one.Eye[j]
			return plate(slices.Delete(one.Guess, j, j+1), slices.Delete(one.Eye, j, j+1)), true
		}
	}
	return x, false
}

// proportional returns a plate with two answers in the same proportion.
func proportional(chance *rand.Rand) api.EyePlate {
	guess, seen := chance.Int63n(3), chance.Int63n(3)
	x := plate(list(guess, 2*guess, 1+seen, seen), list(seen, 2*seen, guess, 1+guess))
	if rest := total(x.Guess) - total(x.Eye); rest > 0 {
		x.Eye[2] += rest
	} else {
		x.Guess[3] -= rest
	}
	return x
}

// P10.12: the order of plates, and answers in the same proportion, do not matter.
func TestOrderAndProportion(t *testing.T) {
	chance := rand.New(rand.NewSource(15))
	count := 0
	for _, p := range someTests(16, 300) {
		if chance.Intn(2) == 0 && len(p) < mostPlates {
			p = append(slices.Clone(p), proportional(chance))
		}
		mosts := someMosts(chance, allOdds(p))
		mixedUp := slices.Clone(p)
		chance.Shuffle(len(p), func(i, j int) { mixedUp[i], mixedUp[j] = mixedUp[j], mixedUp[i] })
		seeSame(t, p, mixedUp, mosts)
		for i, x := range p {
			one, ok := merged(chance, x)
			if !ok {
				continue
			}
			count++
			other := slices.Clone(p)
			other[i] = one
			seeSame(t, p, other, mosts)
		}
	}
	if count < 200 {
		t.Error(count)
	}
}

// seeSame sees to it that the sets that Best returns for two tests have the same
// odds.
func seeSame(t *testing.T, p, other []api.EyePlate, mosts []int64) {
	t.Helper()
	for _, most := range mosts {
		one, oneAt, e := best(t, p, most)
		two, twoAt, otherError := best(t, other, most)
		oneOdds, _ := sum(t, p, one)
		twoOdds, _ := sum(t, other, two)
		if oneOdds != twoOdds || oneAt != twoAt || e != api.OK || otherError != api.OK {
			t.Error(p, other, most, one, two, oneAt, twoAt, e, otherError)
		}
	}
}

// P10.13
func TestTails(t *testing.T) {
	chances := allChances()
	slices.SortFunc(chances, inOrder)
	for _, x := range allPlans() {
		before := ratio(0, 1)
		for _, chance := range chances {
			r, e := tail(t, x, chance)
			if e != api.OK || x.Right == 0 && r != ratio(1, 1) || less(r, before) || less(ratio(1, 1), r) {
				t.Error(x, chance, r, e)
			}
			before = r
			if x.Right == 0 {
				continue
			}
			fewer := api.EyePlan{Plates: x.Plates, Right: x.Right - 1}
			if more, e := tail(t, fewer, chance); e != api.OK || less(more, r) {
				t.Error(x, chance, r, more, e)
			}
			if x.Plates > 1 {
				seeOneLess(t, x, chance, r)
			}
		}
	}
}

// seeOneLess sees to it that a tail is made of those with one plate less. With as
// many right as there were plates before, it is never the case without the last.
func seeOneLess(t *testing.T, x api.EyePlan, chance, r api.Ratio) {
	t.Helper()
	isRight, _ := tail(t, api.EyePlan{Plates: x.Plates - 1, Right: x.Right - 1}, chance)
	isWrong := ratio(0, 1)
	if x.Right < x.Plates {
		isWrong, _ = tail(t, api.EyePlan{Plates: x.Plates - 1, Right: x.Right}, chance)
	}
	whole := power(chance.Den, x.Plates)
	right := chance.Num * isRight.Num * (whole / chance.Den / isRight.Den)
	wrong := (chance.Den - chance.Num) * isWrong.Num * (whole / chance.Den / isWrong.Den)
	if right+wrong != r.Num*(whole/r.Den) || whole%r.Den != 0 {
		t.Error(x, chance, r, isRight, isWrong)
	}
}

// P10.14: by the tails that the package itself returns.
func TestPlansKeepOdds(t *testing.T) {
	chance := rand.New(rand.NewSource(17))
	chances, plans := allChances(), allPlans()
	found, fewer := 0, 0
	for range 3000 {
		guess, sees := chances[chance.Intn(len(chances))], chances[chance.Intn(len(chances))]
		some := plans[chance.Intn(len(plans))]
		some.Right = max(1, some.Right)
		guessed, _ := tail(t, some, guess)
		seen, _ := tail(t, some, sees)
		most, miss := printed(chance, guessed, false), printed(chance, seen, true)
		x, e := plan(t, guess, sees, most, miss)
		if e != api.OK {
			continue
		}
		found++
		for _, y := range plans {
			g, _ := eye.Tail(y, guess)
			s, _ := eye.Tail(y, sees)
			if y == x && !keeps(g, s, most, miss) || y.Plates < x.Plates && keeps(g, s, most, miss) {
				t.Error(guess, sees, most, miss, x, y)
			}
		}
		y, e := plan(t, guess, sees, greater(chance, most), greater(chance, miss))
		if e != api.OK || y.Plates > x.Plates {
			t.Error(guess, sees, most, miss, x, y, e)
		}
		if y.Plates < x.Plates {
			fewer++
		}
	}
	if found < 500 || fewer < 100 {
		t.Error(found, fewer)
	}
}

// greater returns printed odds that are greater, or just as great.
func greater(chance *rand.Rand, r api.Ratio) api.Ratio {
	for range 5 {
		den := 1 + chance.Int63n(mostOdds)
		if other := quickLowest(chance.Int63n(den+1), den); less(r, other) {
			return other
		}
	}
	return r
}
