package unit

import (
	"cmp"

	"lampblack/api"
)

// maxNextNum is the greatest Num of a fraction with a neighbour: by up to
// MaxUnitDen, that of the neighbour is at most MaxUnit then.
const maxNextNum = 999999

// isFrom reports whether a number is from one to another one.
func isFrom(n, from, to int64) bool { return from <= n && n <= to }

// isWithin reports whether both numbers of a ratio can be those of a fraction.
func isWithin(r api.Ratio) bool {
	return isFrom(r.Num, 1, api.MaxUnit) && isFrom(r.Den, 1, api.MaxUnit)
}

// isFraction reports whether a ratio is a fraction.
func isFraction(r api.Ratio) bool { return isWithin(r) && r == reduce(r) }

// compare returns -1, 0 or 1 for a ratio that is less than, equal to, or
// greater than another one. Products of numbers up to four times MaxUnit and
// up to MaxUnit still fit.
func compare(a, b api.Ratio) int { return cmp.Compare(a.Num*b.Den, b.Num*a.Den) }

// divisor returns the greatest common divisor of two numbers above 0.
func divisor[T int | int64](a, b T) T {
	for b != 0 {
		a, b = b, a%b
	}
	return a
}

// reduce returns a ratio of numbers above 0 in least terms.
func reduce(r api.Ratio) api.Ratio {
	d := divisor(r.Num, r.Den)
	return api.Ratio{Num: r.Num / d, Den: r.Den / d}
}

// product returns the product of fractions. It returns false if a number is
// above MaxUnit after one of them, since the next product might not fit then.
func product(factors ...api.Ratio) (api.Ratio, bool) {
	p := api.Ratio{Num: 1, Den: 1}
	for _, f := range factors {
		p = reduce(api.Ratio{Num: p.Num * f.Num, Den: p.Den * f.Den})
		if !isWithin(p) {
			return api.Ratio{}, false
		}
	}
	return p, true
}
