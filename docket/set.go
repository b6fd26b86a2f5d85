package docket

import "lampblack/api"

// mostCards is how many cards two dockets can have together.
const mostCards = 2 * api.MaxDocketCards

// set is some of the cards of an order, a bit for the place of each one.
type set [(mostCards + 63) / 64]uint64

// has reports whether the card at a place is one of them.
func (s set) has(place int) bool { return s[place/64]>>(place%64)&1 == 1 }

// with returns the cards with the one at a place.
func (s set) with(place int) set {
	s[place/64] |= 1 << (place % 64)
	return s
}

// and returns the cards that are in other ones, too.
func (s set) and(other set) set {
	for i := range s {
		s[i] &= other[i]
	}
	return s
}

// or returns the cards and other ones.
func (s set) or(other set) set {
	for i := range s {
		s[i] |= other[i]
	}
	return s
}
