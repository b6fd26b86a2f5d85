package fade

import "lampblack/api"

// bounded is a number with the least and the greatest value that it can have.
type bounded struct {
	n, least, most int64
}

// areWithin reports whether all numbers are within their bounds.
func areWithin(numbers ...bounded) bool {
	for _, b := range numbers {
		if b.n < b.least || b.n > b.most {
			return false
		}
	}
	return true
}

// isMark reports whether a mark can be on a card.
func isMark(m api.FadeMark) bool {
	return areWithin(
		bounded{m.Hours, 1, api.MaxFadeHours},
		bounded{m.Grade, 0, api.MaxFadeGrade},
		bounded{m.Weight, 1, api.MaxFadeWeight},
	)
}

// isLimit reports whether a number is a limit.
func isLimit(n int64) bool { return areWithin(bounded{n, 1, api.MaxFadeGrade}) }

// checkReach returns the error of a card, or that of a limit.
func checkReach(c []api.FadeMark, limit int64) api.Errno {
	if e := CheckCard(c); e != api.OK {
		return e
	}
	if !isLimit(limit) {
		return api.ErrRange
	}
	return api.OK
}
