package metamer

import "lampblack/api"

// isFrom reports whether a number is from one to another one.
func isFrom[T int | int64](n, from, to T) bool { return from <= n && n <= to }

// areFrom reports whether numbers are from one to another one.
func areFrom(from, to int64, numbers ...int64) bool {
	for _, n := range numbers {
		if !isFrom(n, from, to) {
			return false
		}
	}
	return true
}

// areRanges reports whether ranges are valid and have ends from 0 to a number.
func areRanges(to int64, ranges ...api.Range) bool {
	for _, r := range ranges {
		if r.Lo < 0 || r.Hi < r.Lo || r.Hi > to {
			return false
		}
	}
	return true
}

// areWithin reports whether each number is in the range at its place.
func areWithin(ranges []api.Range, numbers []int64) bool {
	for i, r := range ranges {
		if !isFrom(numbers[i], r.Lo, r.Hi) {
			return false
		}
	}
	return true
}

// isEye reports whether an eye has three curves with an element for each band.
func isEye[T int64 | api.Range](eye [][]T, bands int) bool {
	for _, curve := range eye {
		if len(curve) != bands {
			return false
		}
	}
	return len(eye) == curves
}

// checkTruth reports whether a truth is one of a case.
func checkTruth(c api.MetamerCase, x api.MetamerTrue) api.Errno {
	if len(x.Lamp) != len(c.Lamp) || !isEye(x.Eye, len(c.Lamp)) {
		return api.ErrEqual
	}
	if !areWithin(c.Lamp, x.Lamp) {
		return api.ErrRange
	}
	for i, curve := range c.Eye {
		if !areWithin(curve, x.Eye[i]) {
			return api.ErrRange
		}
	}
	return api.OK
}

// checkChips returns the error of a case, or that of the first chip that has
// one.
func checkChips(c api.MetamerCase, chips ...[]int64) api.Errno {
	if e := CheckCase(c); e != api.OK {
		return e
	}
	for _, chip := range chips {
		if len(chip) != len(c.Lamp) {
			return api.ErrEqual
		}
		if !areFrom(0, api.MaxMetamerChip, chip...) {
			return api.ErrArg
		}
	}
	return api.OK
}

// own returns numbers in memory of their own.
func own(numbers []int64) []int64 {
	list := make([]int64, len(numbers))
	copy(list, numbers)
	return list
}
