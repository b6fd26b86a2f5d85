package eye

import (
	"iter"
	"slices"

	"lampblack/api"
)

// plates is the plates of a test that is valid.
type plates []api.EyePlate

// sheet is an answer to each plate of a test. Behind its plates all are 0.
type sheet [api.MaxEyePlates]int

// newSheet returns answers to the plates of a test as a sheet.
func newSheet(answers []int) sheet {
	var s sheet
	copy(s[:], answers)
	return s
}

// outcome is an outcome of a test, by its number, with its odds.
type outcome struct {
	api.EyeOdds
	number int
}

// lastOf returns the last answer to a plate.
func (p plates) lastOf(plate int) int { return len(p[plate].Guess) - 1 }

// last returns the answers of the last outcome.
func (p plates) last() sheet {
	var s sheet
	for i := range p {
		s[i] = p.lastOf(i)
	}
	return s
}

// after returns the answers that follow in lexicographic order. There have to be
// such ones.
func (p plates) after(s sheet) sheet {
	for i := range slices.Backward(p) {
		if s[i] < p.lastOf(i) {
			s[i]++
			break
		}
		s[i] = 0
	}
	return s
}

// odds returns the odds of answers.
func (p plates) odds(s sheet) api.EyeOdds {
	product := api.EyeOdds{Guess: 1, Eye: 1}
	for i, plate := range p {
		product.Guess *= plate.Guess[s[i]]
		product.Eye *= plate.Eye[s[i]]
	}
	return product
}

// size returns how many outcomes there are.
func (p plates) size() int {
	product := 1
	for _, plate := range p {
		product *= len(plate.Guess)
	}
	return product
}

// whole returns the product of the parts of all plates.
func (p plates) whole() int64 {
	product := int64(1)
	for _, plate := range p {
		parts := int64(0)
		for _, n := range plate.Guess {
			parts += n
		}
		product *= parts
	}
	return product
}

// outcomes yields all outcomes in the order of their numbers.
func (p plates) outcomes() iter.Seq[outcome] {
	return func(yield func(outcome) bool) {
		var s sheet
		last := p.last()
		for number := 0; yield(outcome{p.odds(s), number}) && s != last; number++ {
			s = p.after(s)
		}
	}
}

// set returns the numbers of the outcomes that are wanted.
func (p plates) set(isWanted func(outcome) bool) []int {
	room := make([]int, p.size())
	grown := room[:0:len(room)]
	for o := range p.outcomes() {
		if isWanted(o) {
			grown = append(grown, o.number)
		}
	}
	// The set takes over no more room than it needs.
	set := make([]int, len(grown))
	copy(set, grown)
	return set
}

// region returns the region of a threshold.
func (p plates) region(t threshold) []int { return p.set(t.isPassed) }

// sumOf returns the odds of the outcomes that are wanted.
func (p plates) sumOf(isWanted func(outcome) bool) api.EyeOdds {
	var odds []api.EyeOdds
	for o := range p.outcomes() {
		if isWanted(o) {
			odds = append(odds, o.EyeOdds)
		}
	}
	return sum(odds...)
}

// sum returns the sum of odds.
func sum(odds ...api.EyeOdds) api.EyeOdds {
	var all api.EyeOdds
	for _, one := range odds {
		all.Guess += one.Guess
		all.Eye += one.Eye
	}
	return all
}

// members is the numbers of a set of outcomes.
type members []int

// have reports whether an outcome is in the set.
func (m members) have(o outcome) bool {
	_, found := slices.BinarySearch(m, o.number)
	return found
}
