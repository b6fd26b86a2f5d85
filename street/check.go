package street

import (
	"cmp"
	"slices"

	"lampblack/api"
)

// isFrom reports whether a number is from one to another one.
func isFrom[N cmp.Ordered](n, from, to N) bool { return from <= n && n <= to }

// isPost reports whether a post can stand in a street with so many places.
func isPost(p api.StreetPost, places int) bool {
	return isFrom(p.To, 0, places-1) && isFrom(p.From, 0, p.To) &&
		isFrom(p.Cost, 0, api.MaxStreetCost)
}

// isIncreasing reports whether each number is greater than the one before it.
func isIncreasing(numbers []int) bool {
	for i := range numbers {
		if i > 0 && numbers[i] <= numbers[i-1] {
			return false
		}
	}
	return true
}

// isChoice reports whether numbers are a choice of so many posts.
func isChoice(numbers []int, posts int) bool {
	for _, n := range numbers {
		if !isFrom(n, 0, posts-1) {
			return false
		}
	}
	return isIncreasing(numbers)
}

// areDead reports whether posts of a choice can be dead at once, if not more
// than so many can.
func areDead(dead, choice []int, most int) bool {
	if len(dead) > most || !isIncreasing(dead) {
		return false
	}
	for _, number := range dead {
		if !slices.Contains(choice, number) {
			return false
		}
	}
	return true
}

// checkChoice returns the error of a street, or that of a choice.
func checkChoice(r api.StreetRoad, choice []int) api.Errno {
	if e := CheckRoad(r); e != api.OK {
		return e
	}
	if !isChoice(choice, len(r.Posts)) {
		return api.ErrRange
	}
	return api.OK
}

// checkLight returns the error of a street, or ErrDark if all its posts together
// do not hold.
func checkLight(r api.StreetRoad) api.Errno {
	if e := CheckRoad(r); e != api.OK {
		return e
	}
	if !fullRoad(r).holds() {
		return api.ErrDark
	}
	return api.OK
}
