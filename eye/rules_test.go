package eye_test

import (
	"math"
	"math/rand"
	"slices"
	"testing"

	"lampblack/api"
	"lampblack/eye"
)

// full returns a list with room behind it, in which something would be seen
// that is written there.
func full[T any](l []T, rest T) (part, room []T) {
	room = append(slices.Clone(l), rest, rest, rest)
	return room[:len(l)], room
}

// fullTest returns a test of which all lists have room behind them, and all that
// is in these lists and behind them.
func fullTest(p []api.EyePlate) (part []api.EyePlate, seen func() []int64) {
	part, room := full(p, plate(list(77), list(77)))
	var rooms [][]int64
	for i, x := range part {
		guess, roomOfGuess := full(x.Guess, -77)
		eyes, roomOfEyes := full(x.Eye, -77)
		part[i] = plate(guess, eyes)
		rooms = append(rooms, roomOfGuess, roomOfEyes)
	}
	for _, x := range room[len(part):] {
		rooms = append(rooms, x.Guess, x.Eye)
	}
	return part, func() []int64 { return slices.Concat(rooms...) }
}

// result is all that the functions with a test return.
type result struct {
	whole            int64
	odds, sum        api.EyeOdds
	region, best     []int
	at               api.Ratio
	check, proof     api.Errno
	ofOdds, ofSum    api.Errno
	ofRegion, ofBest api.Errno
}

func results(p []api.EyePlate, answers, set []int, at api.Ratio, most int64) result {
	var x result
	x.check = eye.CheckTest(p)
	x.whole, _ = eye.Whole(p)
	x.odds, x.ofOdds = eye.Odds(p, answers)
	x.sum, x.ofSum = eye.Sum(p, set)
	x.region, x.ofRegion = eye.Region(p, at)
	x.best, x.at, x.ofBest = eye.Best(p, most)
	x.proof = eye.CheckBest(p, set, at)
	return x
}

func (x result) equals(y result) bool {
	return slices.Equal(x.region, y.region) && slices.Equal(x.best, y.best) && x.errors() == y.errors() &&
		x.whole == y.whole && x.odds == y.odds && x.sum == y.sum && x.at == y.at
}

func (x result) errors() [6]api.Errno {
	return [6]api.Errno{x.check, x.proof, x.ofOdds, x.ofSum, x.ofRegion, x.ofBest}
}

// R5: no argument is changed, nor what lies behind it.
func TestArgumentsAreKept(t *testing.T) {
	chance := rand.New(rand.NewSource(21))
	for _, some := range someTests(22, 200) {
		all := allOdds(some)
		at := someThreshold(chance, all)
		p, seen := fullTest(some)
		answers, roomOfAnswers := full(answersOf(p, chance.Intn(len(all))), -77)
		numbers, roomOfNumbers := full(nearSet(chance, all, at), -77)
		was, wasAnswers, wasNumbers := seen(), slices.Clone(roomOfAnswers), slices.Clone(roomOfNumbers)
		for _, most := range someMosts(chance, all) {
			results(p, answers, numbers, at, most)
		}
		if !slices.Equal(seen(), was) || !slices.Equal(roomOfAnswers, wasAnswers) || !slices.Equal(roomOfNumbers, wasNumbers) {
			t.Error(some, at)
		}
	}
}

// R4, R5: lists that are returned share no memory with an argument or with those
// of an equal call, and nothing of them is kept.
func TestResultsAreNew(t *testing.T) {
	chance := rand.New(rand.NewSource(23))
	for _, p := range someTests(24, 200) {
		all := allOdds(p)
		at, most := someThreshold(chance, all), someMosts(chance, all)[2]
		for _, call := range []func() []int{
			func() []int { found, _ := eye.Region(p, at); return found },
			func() []int { found, _, _ := eye.Best(p, most); return found },
		} {
			one, two := call(), call()
			was := slices.Clone(two)
			one = one[:cap(one)]
			for i := range one {
				one[i] = -77
			}
			if !slices.Equal(two, was) || !slices.Equal(call(), was) {
				t.Error(p, at, most, was)
			}
		}
	}
}

// R4, R10: equal calls return equal results, whatever is called in between.
func TestEqualCalls(t *testing.T) {
	chance := rand.New(rand.NewSource(25))
	var again []func() bool
	for _, p := range someTests(26, 300) {
		all := allOdds(p)
		at, most := someThreshold(chance, all), someMosts(chance, all)[2]
		answers, numbers := answersOf(p, chance.Intn(len(all))), nearSet(chance, all, at)
		one := results(p, answers, numbers, at, most)
		again = append(again, func() bool {
			other, _ := fullTest(p)
			return results(other, slices.Clone(answers), slices.Clone(numbers), at, most).equals(one)
		})
	}
	slices.Reverse(again)
	for i, equal := range again {
		if !equal() {
			t.Error(i)
		}
	}
}

// R3: nil and empty lists are the same.
func TestNilAndEmpty(t *testing.T) {
	for _, empty := range [][]int{nil, {}} {
		for _, p := range [][]api.EyePlate{nil, {}, {plate(nil, list())}, {plate(list(), nil)}} {
			if e := errorsOf(t, p, empty, empty, ratio(1, 1), 1); e != each(api.ErrMany) {
				t.Error(p, e)
			}
		}
		for _, none := range [][]int64{nil, {}} {
			p := []api.EyePlate{plate(list(1, 1), none)}
			if e := errorsOf(t, p, empty, empty, ratio(1, 1), 1); e != each(api.ErrEqual) {
				t.Error(p, e)
			}
		}
		e := errorsOf(t, testT(), empty, empty, ratio(4, 1), 1)
		if e != [7]api.Errno{2: api.ErrEqual} {
			t.Error(e)
		}
	}
}

// P1: all functions end, and do not panic, for all arguments.
func TestAnyNumber(t *testing.T) {
	numbers := []int64{math.MinInt64, math.MinInt64 + 1, -1 << 32, -1, 0, 1, 2, 3, 8, 9, 12, 13, 20, 21, mostOdds, mostThreshold, mostThreshold + 1, math.MaxInt64 - 1, math.MaxInt64}
	for _, a := range numbers {
		for _, b := range numbers {
			for _, c := range numbers {
				p := []api.EyePlate{plateA(), plate(list(a, b, c), list(c, 1, a))}
				results(p, set(int(a), int(b)), set(int(c)), ratio(a, b), c)
				results(testT(), set(int(a), int(b)), set(int(a), int(b), int(c)), ratio(b, c), a)
				results(testT(), set(int(a)), set(8), ratio(b, c), a)
				x := api.EyePlan{Plates: int(a), Right: int(b)}
				eye.Tail(x, ratio(c, 1))
				eye.Tail(x, ratio(1, c))
				eye.Tail(api.EyePlan{Plates: 12, Right: int(a)}, ratio(b, c))
				eye.Plan(ratio(a, b), ratio(1, 2), ratio(1, c), ratio(c, 1))
				eye.Plan(ratio(1, 2), ratio(a, b), ratio(b, c), ratio(1, 8))
				eye.Plan(ratio(0, 1), ratio(1, a), ratio(0, b), ratio(b, c))
			}
		}
	}
}

// P1: lists of all lengths.
func TestAnyLength(t *testing.T) {
	lengths := []int{0, 1, 2, 3, 4, 5, 6, 7, 4096, 4097, 1 << 16}
	for _, n := range lengths {
		for _, m := range lengths {
			one := plate(slices.Repeat(list(1), n), slices.Repeat(list(1), m))
			for _, p := range [][]api.EyePlate{testT(), manyPlates(n, plateA()), make([]api.EyePlate, n), {one}, {plateA(), one}, manyPlates(mostPlates, one)} {
				results(p, make([]int, m), make([]int, m), ratio(1, 1), int64(m))
				results(p, make([]int, n), allNumbers(m), ratio(0, 1), int64(n))
			}
		}
	}
}
