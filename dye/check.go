package dye

import (
	"cmp"

	"lampblack/api"
)

// isFrom reports whether a number is from one to another one.
func isFrom[N cmp.Ordered](n, from, to N) bool { return from <= n && n <= to }

// isFast reports whether a number is a fastness.
func isFast(n int) bool { return isFrom(n, 1, api.MaxDyeFast) }

// isKind reports whether a dye can stand on a shelf.
func isKind(kind api.DyeKind) bool {
	for _, n := range kind.Band {
		if !isFrom(n, 0, api.MaxDyeGrain) {
			return false
		}
	}
	return kind.Band != [2]int64{} && isFrom(kind.Price, 0, api.MaxDyePrice) && isFast(kind.Fast)
}

// areRanges reports whether all of some ranges can be asked of a band.
func areRanges(ranges ...api.Range) bool {
	for _, r := range ranges {
		if !isFrom(r.Lo, 0, r.Hi) || r.Hi > api.MaxDyeBand {
			return false
		}
	}
	return true
}

// checkWant returns the error of a shelf, or that of a want.
func checkWant(l []api.DyeKind, w api.DyeWant) api.Errno {
	if e := CheckShelf(l); e != api.OK {
		return e
	}
	if !areRanges(w.Band[:]...) || !isFast(w.Fast) {
		return api.ErrArg
	}
	return api.OK
}

// checkRecipe returns the error of a recipe of a valid shelf.
func checkRecipe(l []api.DyeKind, recipe []int64) api.Errno {
	return checkList(recipe, len(l), api.MaxDyeBand)
}

// checkNumbers returns the error of the numbers of a table of a valid shelf.
func checkNumbers(l []api.DyeKind, table []int64) api.Errno {
	return checkList(table, (len(l)+1)*side*side, api.MaxNumber)
}

// checkList returns ErrEqual if there are not so many numbers, or ErrRange if one
// of them is not from 0 to the greatest one.
func checkList(numbers []int64, length int, most int64) api.Errno {
	if len(numbers) != length {
		return api.ErrEqual
	}
	for _, n := range numbers {
		if !isFrom(n, 0, most) {
			return api.ErrRange
		}
	}
	return api.OK
}
