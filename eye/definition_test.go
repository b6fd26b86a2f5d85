package eye_test

import (
	"math/big"
	"math/bits"
	"math/rand"
	"slices"
	"testing"

	"lampblack/api"
)

// The definitions of the chapter, as plainly as they can be written.

// sizeOf returns how many outcomes there are.
func sizeOf(p []api.EyePlate) int {
	size := 1
	for _, x := range p {
		size *= len(x.Guess)
	}
	return size
}

// answersOf returns the answers of an outcome: the last plate counts the ones.
func answersOf(p []api.EyePlate, number int) []int {
	answers := make([]int, len(p))
	for i := len(p) - 1; i >= 0; i-- {
		answers[i] = number % len(p[i].Guess)
		number /= len(p[i].Guess)
	}
	return answers
}

func oddsOf(p []api.EyePlate, answers []int) api.EyeOdds {
	o := odds(1, 1)
	for i, a := range answers {
		o.Guess *= p[i].Guess[a]
		o.Eye *= p[i].Eye[a]
	}
	return o
}

// allOdds returns the odds of all outcomes by their numbers.
func allOdds(p []api.EyePlate) []api.EyeOdds {
	var all []api.EyeOdds
	for number := range sizeOf(p) {
		all = append(all, oddsOf(p, answersOf(p, number)))
	}
	return all
}

func sumOf(all []api.EyeOdds, set []int) api.EyeOdds {
	var sum api.EyeOdds
	for _, number := range set {
		sum.Guess += all[number].Guess
		sum.Eye += all[number].Eye
	}
	return sum
}

func wholeOf(p []api.EyePlate) int64 {
	whole := int64(1)
	for _, x := range p {
		whole *= total(x.Guess)
	}
	return whole
}

func isAbove(o api.EyeOdds, t api.Ratio) bool { return o.Eye*t.Den > o.Guess*t.Num }
func isBelow(o api.EyeOdds, t api.Ratio) bool { return o.Eye*t.Den < o.Guess*t.Num }

func regionOf(all []api.EyeOdds, t api.Ratio) []int {
	var region []int
	for number, o := range all {
		if isAbove(o, t) {
			region = append(region, number)
		}
	}
	return region
}

func isProof(all []api.EyeOdds, set []int, t api.Ratio) bool {
	for number, o := range all {
		if isAbove(o, t) && !slices.Contains(set, number) || isBelow(o, t) && slices.Contains(set, number) {
			return false
		}
	}
	return true
}

// lowest returns a ratio in least terms, by trying all numbers that could divide.
func lowest(num, den int64) api.Ratio {
	for n := min(num, den); n > 1; n-- {
		if num%n == 0 && den%n == 0 {
			return ratio(num/n, den/n)
		}
	}
	if num == 0 {
		return ratio(0, 1)
	}
	return ratio(num, den)
}

// inOrder returns what is below 0 if a ratio is less than another one, and above 0
// if it is greater, whatever their numbers are.
func inOrder(a, b api.Ratio) int { return big.NewRat(a.Num, a.Den).Cmp(big.NewRat(b.Num, b.Den)) }

func less(a, b api.Ratio) bool { return inOrder(a, b) < 0 }

// smallThresholds returns all thresholds with numbers up to n, and a great one.
func smallThresholds(n int64) []api.Ratio {
	thresholds := []api.Ratio{ratio(0, 1), ratio(mostThreshold, 1)}
	for num := int64(1); num <= n; num++ {
		for den := int64(1); den <= n; den++ {
			if lowest(num, den) == ratio(num, den) {
				thresholds = append(thresholds, ratio(num, den))
			}
		}
	}
	return thresholds
}

// thresholdsOf returns 0, and all thresholds that some outcome is neither above
// nor below, without a number that divides both sides of it. The region changes
// at no other one.
func thresholdsOf(all []api.EyeOdds) []api.Ratio {
	seen := map[api.Ratio]bool{ratio(0, 1): true}
	thresholds := []api.Ratio{ratio(0, 1)}
	for _, o := range all {
		if o.Guess == 0 {
			continue
		}
		t := quickLowest(o.Eye, o.Guess)
		if !seen[t] {
			seen[t] = true
			thresholds = append(thresholds, t)
		}
	}
	return thresholds
}

// quickLowest returns what lowest returns, for great numbers.
func quickLowest(num, den int64) api.Ratio {
	a, b := num, den
	for b != 0 {
		a, b = b, a%b
	}
	return ratio(num/a, den/a)
}

// bestOf returns, of the regions of thresholds whose Guess is at most a number,
// the one with the most outcomes, and the least threshold of which it is the
// region.
func bestOf(all []api.EyeOdds, thresholds []api.Ratio, most int64) ([]int, api.Ratio) {
	var best []int
	var at api.Ratio
	for i, t := range thresholds {
		region := regionOf(all, t)
		if sumOf(all, region).Guess > most {
			continue
		}
		if len(region) > len(best) || at == (api.Ratio{}) || slices.Equal(region, best) && less(t, at) {
			best, at = region, thresholds[i]
		}
	}
	return best, at
}

// tailOf returns the tail of a plan by all ways to read so many plates.
func tailOf(x api.EyePlan, chance api.Ratio) api.Ratio {
	parts, whole := int64(0), power(chance.Den, x.Plates)
	for read := range uint(1) << x.Plates {
		right := bits.OnesCount(read)
		if right >= x.Right {
			parts += power(chance.Num, right) * power(chance.Den-chance.Num, x.Plates-right)
		}
	}
	return quickLowest(parts, whole)
}

func power(n int64, by int) int64 {
	product := int64(1)
	for range by {
		product *= n
	}
	return product
}

// allPlans returns all valid plans, those that come first first.
func allPlans() []api.EyePlan {
	var plans []api.EyePlan
	for plates := 1; plates <= mostRuns; plates++ {
		for right := 0; right <= plates; right++ {
			plans = append(plans, api.EyePlan{Plates: plates, Right: right})
		}
	}
	return plans
}

// allChances returns all chances.
func allChances() []api.Ratio {
	var chances []api.Ratio
	for den := int64(1); den <= mostTenths; den++ {
		for num := int64(0); num <= den; num++ {
			if lowest(num, den) == ratio(num, den) {
				chances = append(chances, ratio(num, den))
			}
		}
	}
	return chances
}

// allTails returns the tails of all plans for all chances.
func allTails() map[api.Ratio]map[api.EyePlan]api.Ratio {
	tails := map[api.Ratio]map[api.EyePlan]api.Ratio{}
	for _, chance := range allChances() {
		tails[chance] = map[api.EyePlan]api.Ratio{}
		for _, x := range allPlans() {
			tails[chance][x] = tailOf(x, chance)
		}
	}
	return tails
}

// keeps reports whether a plan keeps printed odds, by its tails.
func keeps(guess, sees, most, miss api.Ratio) bool {
	return guess.Num*most.Den <= most.Num*guess.Den && sees.Num*miss.Den >= (miss.Den-miss.Num)*sees.Den
}

// somePlate returns a valid plate with so many answers and parts. Many of its
// numbers are 0.
func somePlate(chance *rand.Rand, answers int, parts int64) api.EyePlate {
	x := plate(make([]int64, answers), make([]int64, answers))
	few := 1 + chance.Intn(answers)
	for range parts {
		x.Guess[chance.Intn(answers)]++
		x.Eye[chance.Intn(few)]++
	}
	if chance.Intn(2) == 0 {
		slices.Reverse(x.Eye)
	}
	return x
}

// someTest returns a valid test with up to so many plates, answers and parts.
func someTest(chance *rand.Rand, plates, answers int, parts int64) []api.EyePlate {
	var p []api.EyePlate
	for range 1 + chance.Intn(plates) {
		p = append(p, somePlate(chance, 2+chance.Intn(answers-1), 1+chance.Int63n(parts)))
	}
	return p
}

// greatTest returns a test with as many outcomes, and as great a whole, as can be.
func greatTest(chance *rand.Rand) []api.EyePlate {
	var p []api.EyePlate
	for range mostPlates {
		p = append(p, somePlate(chance, mostAnswers, mostParts))
	}
	return p
}

// someTests returns tests of all sizes.
func someTests(seed int64, n int) [][]api.EyePlate {
	chance := rand.New(rand.NewSource(seed))
	tests := [][]api.EyePlate{testT(), {plateA()}, {plate(list(1, 0), list(0, 1))}, {plate(list(1, 0, 0), list(1, 0, 0))}}
	for len(tests) < n {
		tests = append(tests, someTest(chance, 2, mostAnswers, 4), someTest(chance, 3, 3, mostParts), someTest(chance, mostPlates, 3, mostParts))
	}
	return tests
}

// someSet returns a set of some outcomes.
func someSet(chance *rand.Rand, size int) []int {
	var set []int
	one := 1 + chance.Intn(4)
	for number := range size {
		if chance.Intn(4) < one {
			set = append(set, number)
		}
	}
	return set
}

// someThreshold returns a threshold, most often one that some outcome is neither
// above nor below.
func someThreshold(chance *rand.Rand, all []api.EyeOdds) api.Ratio {
	if chance.Intn(4) > 0 {
		thresholds := thresholdsOf(all)
		return thresholds[chance.Intn(len(thresholds))]
	}
	return quickLowest(chance.Int63n(mostThreshold)+1, chance.Int63n(mostThreshold)+1)
}

// P10.2 to P10.7: tests of all sizes.
func TestByDefinition(t *testing.T) {
	chance := rand.New(rand.NewSource(1))
	for _, p := range someTests(2, 300) {
		all := allOdds(p)
		if n, e := whole(t, p); n != wholeOf(p) || e != api.OK {
			t.Error(p, n, e)
		}
		for number, o := range all {
			if found, e := oddsFor(t, p, answersOf(p, number)); found != o || e != api.OK {
				t.Error(p, number, found, e)
			}
		}
		for range 5 {
			set := someSet(chance, len(all))
			if found, e := sum(t, p, set); found != sumOf(all, set) || e != api.OK {
				t.Error(p, set, found, e)
			}
			at := someThreshold(chance, all)
			if found, e := region(t, p, at); !slices.Equal(found, regionOf(all, at)) || e != api.OK {
				t.Error(p, at, found, e)
			}
		}
		seeBest(t, p, all, thresholdsOf(all), someMosts(chance, all)...)
	}
}

// someMosts returns numbers that the Guess of a set has, or nearly has.
func someMosts(chance *rand.Rand, all []api.EyeOdds) []int64 {
	whole := sumOf(all, regionOf(all, ratio(0, 1))).Guess
	mosts := []int64{0, 1, whole - 1, whole, whole + 1, 1 << 62}
	for range 4 {
		guess := sumOf(all, regionOf(all, someThreshold(chance, all))).Guess
		mosts = append(mosts, guess-1, guess, guess+1, chance.Int63n(whole+1))
	}
	return slices.DeleteFunc(mosts, func(n int64) bool { return n < 0 })
}

// seeBest sees to it that what Best returns is so by the thresholds at which
// regions change.
func seeBest(t *testing.T, p []api.EyePlate, all []api.EyeOdds, thresholds []api.Ratio, mosts ...int64) {
	t.Helper()
	for _, most := range mosts {
		set, at := bestOf(all, thresholds, most)
		if found, under, e := best(t, p, most); !slices.Equal(found, set) || under != at || e != api.OK {
			t.Error(p, most, found, under, e, set, at)
		}
	}
}

// P10.6: small tests, by all thresholds with numbers up to the whole. An outcome
// is neither above nor below no other one.
func TestAllThresholds(t *testing.T) {
	chance := rand.New(rand.NewSource(3))
	for range 100 {
		p := someTest(chance, 3, mostAnswers, 3)
		all := allOdds(p)
		thresholds := smallThresholds(wholeOf(p))
		for _, at := range thresholds {
			if found, e := region(t, p, at); !slices.Equal(found, regionOf(all, at)) || e != api.OK {
				t.Error(p, at, found, e)
			}
		}
		for most := range wholeOf(p) + 2 {
			seeBest(t, p, all, thresholds, most)
		}
	}
}

// P10.3 to P10.7 at the limits: 4096 outcomes, in parts of 20^6.
func TestGreatTests(t *testing.T) {
	chance := rand.New(rand.NewSource(4))
	for range 5 {
		p := greatTest(chance)
		all := allOdds(p)
		if n, e := whole(t, p); n != 64_000_000 || e != api.OK {
			t.Error(p, n, e)
		}
		everything := someSet(chance, 0)
		for number := range all {
			everything = append(everything, number)
		}
		if o, e := sum(t, p, everything); o != odds(64_000_000, 64_000_000) || e != api.OK {
			t.Error(p, o, e)
		}
		thresholds := thresholdsOf(all)
		seeBest(t, p, all, thresholds, 0, 1000, 1_000_000+chance.Int63n(60_000_000), 64_000_000)
		for range 20 {
			at := someThreshold(chance, all)
			set := regionOf(all, at)
			if found, e := region(t, p, at); !slices.Equal(found, set) || e != api.OK {
				t.Error(p, at, e)
			}
			if e := checkBest(t, p, set, at); e != api.OK {
				t.Error(p, at, e)
			}
		}
	}
}

// P10.7: sets that a threshold proves, and such as it nearly does.
func TestNearProofs(t *testing.T) {
	chance := rand.New(rand.NewSource(5))
	right, wrong := 0, 0
	for _, p := range someTests(6, 300) {
		all := allOdds(p)
		for range 20 {
			at := someThreshold(chance, all)
			set := nearSet(chance, all, at)
			wantError := api.OK
			if !isProof(all, set, at) {
				wantError = api.ErrSum
			}
			e := checkBest(t, p, set, at)
			if e != wantError {
				t.Error(p, set, at, e)
			}
			if e == api.OK {
				right++
			} else {
				wrong++
			}
		}
	}
	if right < 1000 || wrong < 1000 {
		t.Error(right, wrong)
	}
}

// nearSet returns a set that a threshold proves, or one that an outcome more or
// less makes wrong.
func nearSet(chance *rand.Rand, all []api.EyeOdds, at api.Ratio) []int {
	change := -1
	if chance.Intn(2) == 0 {
		change = chance.Intn(len(all))
	}
	var set []int
	for number, o := range all {
		isIn := isAbove(o, at) || !isBelow(o, at) && chance.Intn(2) == 0
		if isIn != (number == change) {
			set = append(set, number)
		}
	}
	return set
}

// P10.8: all plans for all chances.
func TestAllTails(t *testing.T) {
	count := 0
	for chance, tails := range allTails() {
		for x, r := range tails {
			count++
			if found, e := tail(t, x, chance); found != r || e != api.OK {
				t.Error(x, chance, found, e, r)
			}
		}
	}
	if count != 90*33 {
		t.Error(count)
	}
}

// P10.9: chances and printed odds of all kinds, most of them near to tails.
func TestAllPlans(t *testing.T) {
	chance := rand.New(rand.NewSource(7))
	tails, chances, plans := allTails(), allChances(), allPlans()
	found, none := 0, 0
	for range 20000 {
		guess, sees := chances[chance.Intn(len(chances))], chances[chance.Intn(len(chances))]
		if less(sees, guess) && chance.Intn(4) > 0 {
			guess, sees = sees, guess
		}
		some := plans[chance.Intn(len(plans))]
		most, miss := printed(chance, tails[guess][some], false), printed(chance, tails[sees][some], true)
		i := slices.IndexFunc(plans, func(x api.EyePlan) bool { return keeps(tails[guess][x], tails[sees][x], most, miss) })
		x, e := plan(t, guess, sees, most, miss)
		if i < 0 {
			none++
			if e != api.ErrOdds {
				t.Error(guess, sees, most, miss, x, e)
			}
			continue
		}
		found++
		if x != plans[i] || e != api.OK {
			t.Error(guess, sees, most, miss, x, e, plans[i])
		}
	}
	if found < 2000 || none < 2000 {
		t.Error(found, none)
	}
}

// printed returns printed odds that are just the ones of a tail, or what is left
// of it, or else as near to it as they can be, on one side of it.
func printed(chance *rand.Rand, tail api.Ratio, isLeft bool) api.Ratio {
	if isLeft {
		tail.Num = tail.Den - tail.Num
	}
	if tail.Den <= mostOdds && chance.Intn(2) == 0 {
		return tail
	}
	den := mostOdds - chance.Int63n(9)
	// Num times den might be up to 10^18, which fits.
	num := tail.Num*den/tail.Den + chance.Int63n(3) - 1
	return quickLowest(max(0, min(den, num)), den)
}
