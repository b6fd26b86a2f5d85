package docket

import (
	"cmp"
	"slices"

	"lampblack/api"
)

// isFrom reports whether a number is from one to another one.
func isFrom[N cmp.Ordered](n, from, to N) bool { return from <= n && n <= to }

// areFrom reports whether all numbers are from one to another one.
func areFrom(from, to int64, numbers ...int64) bool {
	for _, n := range numbers {
		if !isFrom(n, from, to) {
			return false
		}
	}
	return true
}

// areDifferent reports whether no number is there twice.
func areDifferent(numbers []int64) bool {
	for i, n := range numbers {
		if slices.Contains(numbers[:i], n) {
			return false
		}
	}
	return true
}

// checkDockets returns the error of the first one of some lists that is not a docket.
func checkDockets(lists ...[]api.DocketCard) api.Errno {
	for _, l := range lists {
		if e := CheckDocket(l); e != api.OK {
			return e
		}
	}
	return api.OK
}

// checkAgree returns the error of two dockets, or ErrEqual if cards of both with
// the same Number are not the same.
func checkAgree(a, b []api.DocketCard) api.Errno {
	if e := checkDockets(a, b); e != api.OK {
		return e
	}
	known := byNumber(a)
	for _, c := range b {
		if other, has := known[c.Number]; has && !isSame(c, other) {
			return api.ErrEqual
		}
	}
	return api.OK
}
