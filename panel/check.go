package panel

import (
	"cmp"

	"lampblack/api"
)

// mostSlack is the greatest Slack of a book: there are no more pairs of shades.
const mostSlack = api.MaxPanelShades * (api.MaxPanelShades - 1) / 2

// isFrom reports whether a number is from one to another one.
func isFrom[N cmp.Ordered](n, from, to N) bool { return from <= n && n <= to }

// isBook reports whether a book without too many votes is valid.
func isBook(b api.PanelBook) bool {
	if !isFrom(b.Shades, 1, api.MaxPanelShades) || !isFrom(b.Judges, 1, api.MaxPanelJudges) || !isFrom(b.Slack, 0, mostSlack) {
		return false
	}
	for _, v := range b.Votes {
		if !isFrom(v.Judge, 0, b.Judges-1) || !isFrom(v.Deeper, 0, b.Shades-1) || !isFrom(v.Paler, 0, b.Shades-1) || v.Deeper == v.Paler {
			return false
		}
	}
	return true
}

// areRising reports whether numbers are strictly increasing, from 0 on and below
// another one.
func areRising(numbers []int, below int) bool {
	least := 0
	for _, n := range numbers {
		if !isFrom(n, least, below-1) {
			return false
		}
		least = n + 1
	}
	return true
}

// areAll reports whether in a list, not too long, is each of as many shades as it
// has numbers.
func areAll(list []int) bool {
	var seen row
	for _, shade := range list {
		if !isFrom(shade, 0, len(list)-1) || seen[shade] {
			return false
		}
		seen[shade] = true
	}
	return true
}

// checkWins returns the error of a list of wins.
func checkWins(wins []int) api.Errno {
	if !isFrom(len(wins), 1, api.MaxPanelShades) {
		return api.ErrMany
	}
	for _, n := range wins {
		if !isFrom(n, 0, api.MaxPanelShades-1) {
			return api.ErrRange
		}
	}
	return api.OK
}
