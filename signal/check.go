package signal

import "lampblack/api"

// maxRule is the greatest amount of a coordinate of a rule.
const maxRule = 10_000

// isFrom reports whether a number is from one to another one.
func isFrom(n, from, to int64) bool { return from <= n && n <= to }

// isAmount reports whether the amount of a number is at most another one: the
// least number of its type has no amount of that type.
func isAmount(n, most int64) bool { return isFrom(n, -most, most) }

// isCount reports whether an area can be made from so many points.
func isCount(n int) bool { return 1 <= n && n <= api.MaxSignalPoints }

// areFrom reports whether both coordinates of all points are from one number
// to another one.
func areFrom(from, to int64, points ...api.SignalPoint) bool {
	for _, p := range points {
		if !isFrom(p.X, from, to) || !isFrom(p.Y, from, to) {
			return false
		}
	}
	return true
}

// isLine reports whether a line is valid.
func isLine(l api.SignalLine) bool {
	if l.A == 0 && l.B == 0 {
		return false
	}
	return isAmount(l.A, api.MaxSignalLine) && isAmount(l.B, api.MaxSignalLine) &&
		isAmount(l.C, api.MaxNumber)
}

// isBoth reports whether a light is valid.
func isBoth(x api.SignalBoth) bool {
	return isFrom(x.Den, 1, api.MaxSignalDen) &&
		isAmount(x.X, api.MaxNumber) && isAmount(x.Y, api.MaxNumber)
}

// checkGlasses returns the error of the first glass that has one.
func checkGlasses(glasses ...api.SignalGlass) api.Errno {
	for _, g := range glasses {
		if e := CheckGlass(g); e != api.OK {
			return e
		}
	}
	return api.OK
}
