// Package unit is layer 1: see shared/doc/01-unit.md.
package unit

import "lampblack/api"

// CheckSpan reports whether a span is valid. (P1.1)
func CheckSpan(s api.UnitSpan) api.Errno {
	if !isFraction(s.Lo) || !isFraction(s.Hi) || compare(s.Lo, s.Hi) > 0 {
		return api.ErrArg
	}
	return api.OK
}

// Carry carries a span over by decrees. (P1.2)
func Carry(s api.UnitSpan, decrees []api.UnitSpan) (api.UnitSpan, api.Errno) {
	if e := checkCarried(s, decrees); e != api.OK {
		return api.UnitSpan{}, e
	}
	c := span{s}
	for _, d := range decrees {
		if !c.multiply(d) {
			return api.UnitSpan{}, api.ErrOver
		}
	}
	return c.UnitSpan, api.OK
}

// Back carries a span back by decrees. (P1.2)
func Back(s api.UnitSpan, decrees []api.UnitSpan) (api.UnitSpan, api.Errno) {
	if e := checkCarried(s, decrees); e != api.OK {
		return api.UnitSpan{}, e
	}
	c := span{s}
	for i := len(decrees) - 1; i >= 0; i-- {
		if !c.multiply(turnOver(decrees[i])) {
			return api.UnitSpan{}, api.ErrOver
		}
	}
	return c.UnitSpan, api.OK
}

// Simplest returns the simplest fraction of a span. (P1.3)
func Simplest(s api.UnitSpan) (api.Ratio, api.Errno) {
	if e := CheckSpan(s); e != api.OK {
		return api.Ratio{}, e
	}
	return descend(span{s}.side).middle(), api.OK
}

// Proof returns a proof that no fraction of a span is simpler. (P1.4)
func Proof(s api.UnitSpan) (api.UnitProof, api.Errno) {
	if e := CheckSpan(s); e != api.OK {
		return api.UnitProof{}, e
	}
	at := descend(span{s}.side)
	return api.UnitProof{Left: at.left(), Right: at.right()}, api.OK
}

// CheckProof returns the bound of a proof. (P1.4)
func CheckProof(s api.UnitSpan, p api.UnitProof) (int64, api.Errno) {
	if e := CheckSpan(s); e != api.OK {
		return 0, e
	}
	if !areProofNumbers(p) {
		return 0, api.ErrRange
	}
	if !isRight(span{s}, p) {
		return 0, api.ErrSum
	}
	return p.Left.Den + p.Right.Den, api.OK
}

// Path returns the path of a fraction. (P1.5)
func Path(r api.Ratio) ([]int64, api.Errno) {
	if !isFraction(r) {
		return nil, api.ErrArg
	}
	// Even the longest path of a fraction has room here: its numbers grow at
	// least as fast as those of Fibonacci, which pass MaxUnit before the 50th.
	var numbers [api.MaxUnitPath]int64
	n := 0
	for r.Den != 0 {
		numbers[n] = r.Num / r.Den
		r = api.Ratio{Num: r.Den, Den: r.Num % r.Den}
		n++
	}
	path := make([]int64, n)
	copy(path, numbers[:n:n])
	return path, api.OK
}

// Follow returns the fraction of a path. (P1.5)
func Follow(path []int64) (api.Ratio, api.Errno) {
	if len(path) == 0 || len(path) > api.MaxUnitPath {
		return api.Ratio{}, api.ErrMany
	}
	if !isPath(path) {
		return api.Ratio{}, api.ErrArg
	}
	end := first()
	for at := range steps(path) {
		if at.isOver() {
			return api.Ratio{}, api.ErrOver
		}
		end = at
	}
	// Only a path 0 has led nowhere.
	if end == first() {
		return api.Ratio{}, api.ErrArg
	}
	if len(path)%2 == 1 {
		return end.left(), api.OK
	}
	return end.right(), api.OK
}

// Next returns the neighbour of a fraction. (P1.6)
func Next(r api.Ratio, den int64) (api.Ratio, api.Errno) {
	if !isFraction(r) {
		return api.Ratio{}, api.ErrArg
	}
	if !isFrom(den, 1, api.MaxUnitDen) || r.Num > maxNextNum {
		return api.Ratio{}, api.ErrRange
	}
	end := descend(func(x api.Ratio) int {
		if x.Den > den {
			return found
		}
		if compare(x, r) > 0 {
			return high
		}
		return low
	})
	return end.right(), api.OK
}
