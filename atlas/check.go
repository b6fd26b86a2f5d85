package atlas

import "lampblack/api"

// isFrom reports whether a number is from one to another one.
func isFrom(n, from, to int) bool { return from <= n && n <= to }

// areSeen reports whether numbers can be seen, or be those of a row.
func areSeen(numbers ...int) bool {
	for _, n := range numbers {
		if !isFrom(n, -1, 1) {
			return false
		}
	}
	return true
}

// isBalanced reports whether as many chips of a row lie on the left as on the
// right.
func isBalanced(row []int) bool {
	sum := 0
	for _, n := range row {
		sum += n
	}
	return sum == 0
}

// isCase reports whether a case is one of a plan.
func isCase(p api.AtlasPlan, c api.AtlasCase) bool {
	if c.Shade == 0 {
		return c == api.AtlasCase{}
	}
	return areSeen(c.Shade) && isFrom(c.Chip, 0, p.Chips-1)
}

// checkCases returns the error of a plan, or that of cases.
func checkCases(p api.AtlasPlan, cases ...api.AtlasCase) api.Errno {
	if e := CheckPlan(p); e != api.OK {
		return e
	}
	for _, c := range cases {
		if !isCase(p, c) {
			return api.ErrRange
		}
	}
	return api.OK
}
