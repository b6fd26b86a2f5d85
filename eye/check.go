package eye

import (
	"cmp"

	"lampblack/api"
)

// isFrom reports whether a number is from one to another one.
func isFrom[N cmp.Ordered](n, from, to N) bool { return from <= n && n <= to }

// areOdds reports whether the numbers of a plate, as many as Guess as there are
// as Eye, are as described, and so are their sums.
func areOdds(plate api.EyePlate) bool {
	var parts api.EyeOdds
	for i, guess := range plate.Guess {
		eye := plate.Eye[i]
		if !isFrom(guess, 0, api.MaxEyeParts) || !isFrom(eye, 0, api.MaxEyeParts) {
			return false
		}
		parts = sum(parts, api.EyeOdds{Guess: guess, Eye: eye})
	}
	return parts.Guess == parts.Eye && isFrom(parts.Guess, 1, api.MaxEyeParts)
}

// checkAnswers returns the error of answers to the plates of a test.
func checkAnswers(p plates, answers []int) api.Errno {
	if len(answers) != len(p) {
		return api.ErrEqual
	}
	for i, answer := range answers {
		if !isFrom(answer, 0, p.lastOf(i)) {
			return api.ErrRange
		}
	}
	return api.OK
}

// checkSet returns the error of a set of outcomes of a test.
func checkSet(p plates, set []int) api.Errno {
	if len(set) > p.size() {
		return api.ErrMany
	}
	for _, number := range set {
		if !isFrom(number, 0, p.size()-1) {
			return api.ErrRange
		}
	}
	for i := 1; i < len(set); i++ {
		if set[i] <= set[i-1] {
			return api.ErrRule
		}
	}
	return api.OK
}

// isPlan reports whether a plan is valid.
func isPlan(x api.EyePlan) bool {
	return isFrom(x.Plates, 1, api.MaxEyeRuns) && isFrom(x.Right, 0, x.Plates)
}
