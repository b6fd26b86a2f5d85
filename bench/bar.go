package bench

import "lampblack/api"

// isFrom reports whether a number is from one to another one.
func isFrom[T int | int64](n, from, to T) bool { return from <= n && n <= to }

// isIn reports whether a range contains a number.
func isIn(n int64, r api.Range) bool { return isFrom(n, r.Lo, r.Hi) }

// areRanges reports whether ranges are valid and have ends from one number to
// another one.
func areRanges(from, to int64, ranges ...api.Range) bool {
	for _, r := range ranges {
		if r.Lo < from || r.Hi < r.Lo || r.Hi > to {
			return false
		}
	}
	return true
}

// isBar reports whether a bar is valid.
func isBar(b api.BenchBar) bool {
	return isFrom(b.Long, 2, api.MaxBenchLong) && isFrom(b.Near, 1, b.Long) &&
		areRanges(1, api.MaxBenchPower, b.Power) &&
		areRanges(1, b.Long-1, b.Screen) &&
		areRanges(0, api.MaxBenchStray, b.Stray)
}

// place returns how many other lamps are surely, and how many can be, brighter
// than the lamp with an index.
func place(index int, lamps []api.Range) api.Range {
	var brighter api.Range
	for i, other := range lamps {
		if i == index {
			continue
		}
		if other.Lo > lamps[index].Hi {
			brighter.Lo++
		}
		if other.Hi > lamps[index].Lo {
			brighter.Hi++
		}
	}
	return brighter
}

// leastTerms returns both numbers of a fraction, which are above 0, without the
// greatest number that divides both.
func leastTerms[T int | int64](num, den T) (T, T) {
	a, b := num, den
	for b != 0 {
		a, b = b, a%b
	}
	return num / a, den / a
}

// power returns the power of the lamp by a truth of a bar. The numbers fit: both
// distances are below 5,000, and the light, in parts, is at most 10^11.
func power(long int64, x api.BenchTrue) api.Ratio {
	standard, lamp := x.Screen, long-x.Screen
	light := x.Power*api.BenchPart - x.Stray*standard*standard
	if light <= 0 {
		return api.Ratio{Num: 0, Den: 1}
	}
	num, den := leastTerms(lamp*lamp*light, standard*standard*api.BenchPart)
	return api.Ratio{Num: num, Den: den}
}
