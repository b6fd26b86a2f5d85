package panel

import "lampblack/api"

// row is some of the shades.
type row [api.MaxPanelShades]bool

// has reports whether a shade is one of them.
func (r row) has(shade int) bool { return r[shade] }

// list returns the shades of a row.
func (r row) list() []int {
	room := make([]int, len(r))
	grown := room[:0:len(room)]
	for shade, has := range r {
		if has {
			grown = append(grown, shade)
		}
	}
	return taken(grown)
}

// taken returns a list of its own, with no more room than it needs.
func taken(grown []int) []int {
	list := make([]int, len(grown))
	copy(list, grown)
	return list
}

// first returns the index of the first one of several that is wanted, or how many
// there are if none is.
func first[T any](several []T, isWanted func(T) bool) int {
	for i, one := range several {
		if isWanted(one) {
			return i
		}
	}
	return len(several)
}
