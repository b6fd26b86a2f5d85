package eye

import (
	"cmp"

	"lampblack/api"
)

// leastTerms returns two numbers from 0 on, of which one is above 0, without what
// divides both.
func leastTerms[N int | int64](num, den N) (N, N) {
	divisor, remainder := num, den
	for remainder != 0 {
		divisor, remainder = remainder, divisor%remainder
	}
	return num / divisor, den / divisor
}

// newRatio returns a ratio in least terms.
func newRatio(num, den int64) api.Ratio {
	num, den = leastTerms(num, den)
	return api.Ratio{Num: num, Den: den}
}

// isFraction reports whether a ratio is a fraction from 0 on in least terms.
func isFraction(r api.Ratio) bool {
	return r.Num >= 0 && r.Den > 0 && r == newRatio(r.Num, r.Den)
}

// areShares reports whether ratios are fractions from 0 to 1 in least terms, with
// a Den up to a number.
func areShares(most int64, ratios ...api.Ratio) bool {
	for _, r := range ratios {
		if !isFraction(r) || r.Num > r.Den || r.Den > most {
			return false
		}
	}
	return true
}

// compare returns -1, 0 or 1 for a ratio that is less than, equal to, or greater
// than another one. Products fit: the numbers of tails are up to 10^12 and those
// of printed odds up to 10^6; those of the odds of a test are up to 20^6.
func compare(a, b api.Ratio) int { return cmp.Compare(a.Num*b.Den, b.Num*a.Den) }

// rest returns 1 less a fraction.
func rest(r api.Ratio) api.Ratio { return api.Ratio{Num: r.Den - r.Num, Den: r.Den} }
