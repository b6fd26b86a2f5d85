package unit

import "lampblack/api"

// The sides on which a fraction lies of what is searched.
const (
	low   = -1
	found = 0
	high  = 1
)

// span is a valid span that is carried, or searched.
type span struct {
	api.UnitSpan
}

// side returns on which side of the span a ratio lies.
func (s span) side(r api.Ratio) int {
	if compare(r, s.Lo) < 0 {
		return low
	}
	if compare(r, s.Hi) > 0 {
		return high
	}
	return found
}

// multiply makes the span its product with another one; it returns false, and
// leaves the span as it is, if a number of the product is above MaxUnit.
func (s *span) multiply(by api.UnitSpan) bool {
	lo, loFits := product(s.Lo, by.Lo)
	hi, hiFits := product(s.Hi, by.Hi)
	if !loFits || !hiFits {
		return false
	}
	s.Lo, s.Hi = lo, hi
	return true
}

// turnOver returns the span from 1 / Hi to 1 / Lo: a product with it is a
// quotient by the span.
func turnOver(s api.UnitSpan) api.UnitSpan {
	return api.UnitSpan{
		Lo: api.Ratio{Num: s.Hi.Den, Den: s.Hi.Num},
		Hi: api.Ratio{Num: s.Lo.Den, Den: s.Lo.Num},
	}
}

// checkCarried returns the error of a span and decrees, but for ErrOver.
func checkCarried(s api.UnitSpan, decrees []api.UnitSpan) api.Errno {
	if e := CheckSpan(s); e != api.OK {
		return e
	}
	if len(decrees) > api.MaxUnitDecrees {
		return api.ErrMany
	}
	for _, d := range decrees {
		if e := CheckSpan(d); e != api.OK {
			return e
		}
	}
	return api.OK
}

// areProofNumbers reports whether the numbers of a proof are as described.
func areProofNumbers(p api.UnitProof) bool {
	return isFrom(p.Left.Num, 0, api.MaxUnit) && isFrom(p.Left.Den, 1, api.MaxUnit) &&
		isFrom(p.Right.Num, 1, api.MaxUnit) && isFrom(p.Right.Den, 0, api.MaxUnit)
}

// isRight reports whether a proof is right for a span.
func isRight(s span, p api.UnitProof) bool {
	return s.side(p.Left) == low && s.side(p.Right) == high &&
		p.Left.Den*p.Right.Num-p.Left.Num*p.Right.Den == 1
}
