package docket

import (
	"cmp"
	"slices"

	"lampblack/api"
)

// kind is what the cards of a kind have: a word, so many things, and an A from one
// number to another one.
type kind struct {
	word          string
	things        int
	leastA, mostA int64
}

// kinds is what each kind has; none has the number 0.
var kinds = [...]kind{
	api.DocketEnter:   {"enter", 1, 1, api.MaxDocketValue},
	api.DocketBurn:    {"burn", 1, 1, api.MaxDocketHours},
	api.DocketCompare: {"compare", 2, 1, api.MaxDocketPart},
	api.DocketReplace: {"replace", 2, 0, 0},
	api.DocketOut:     {"out", 1, 0, 0},
	api.DocketClaim:   {"claim", 3, 0, api.MaxDocketValue},
}

// isSame reports whether two cards are the same.
func isSame(c, d api.DocketCard) bool {
	return c.Number == d.Number && c.Kind == d.Kind && c.A == d.A && slices.Equal(c.Things, d.Things)
}

// touch reports whether two cards touch.
func touch(c, d api.DocketCard) bool {
	for _, thing := range c.Things {
		if slices.Contains(d.Things, thing) {
			return true
		}
	}
	return false
}

// copied returns a card with things of its own.
func copied(c api.DocketCard) api.DocketCard {
	things := make([]int64, len(c.Things))
	copy(things, c.Things)
	c.Things = things
	return c
}

// numbersOf returns the Numbers of cards.
func numbersOf(l []api.DocketCard) []int64 {
	all := make([]int64, len(l))
	for i, c := range l {
		all[i] = c.Number
	}
	return all
}

// byNumber returns the cards of dockets by their Numbers.
func byNumber(dockets ...[]api.DocketCard) map[int64]api.DocketCard {
	all := map[int64]api.DocketCard{}
	for _, l := range dockets {
		for _, c := range l {
			all[c.Number] = c
		}
	}
	return all
}

// areSame reports whether two dockets have the same cards.
func areSame(a, b []api.DocketCard) bool {
	left := byNumber(a)
	for _, c := range b {
		if !isSame(c, left[c.Number]) {
			return false
		}
		delete(left, c.Number)
	}
	return len(left) == 0
}

// sorted returns the cards of dockets, increasing by Number; one that is in several
// of them is there once.
func sorted(dockets ...[]api.DocketCard) []api.DocketCard {
	all := slices.Concat(dockets...)
	slices.SortFunc(all, func(c, d api.DocketCard) int { return cmp.Compare(c.Number, d.Number) })
	return slices.CompactFunc(all, isSame)
}
