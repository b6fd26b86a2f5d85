package metamer

import (
	"iter"

	"lampblack/api"
)

// curves is how many curves an eye has.
const curves = 3

// triple has a number for each curve; that of chips that match is none.
type triple [curves]int64

// chip has a number for each band.
type chip []int64

func (c chip) at(band int) int64 { return c[band] }

// sight is a case by which something is looked at that has a number for each
// band: a chip, or what one chip has more than another one, also below 0.
type sight struct {
	api.MetamerCase
	at func(band int) int64
}

func lookAt(c api.MetamerCase, one chip) sight { return sight{c, one.at} }

func lookAtBoth(c api.MetamerCase, one, two chip) sight {
	return sight{c, func(band int) int64 { return one.at(band) - two.at(band) }}
}

// bands yields all bands.
func (s sight) bands() iter.Seq[int] {
	return func(yield func(int) bool) {
		for band := range s.Lamp {
			if !yield(band) {
				return
			}
		}
	}
}

// sums returns for each curve the sum of a product over all bands.
func (s sight) sums(product func(curve, band int) int64) triple {
	var three triple
	for curve := range three {
		for band := range s.bands() {
			three[curve] += product(curve, band)
		}
	}
	return three
}

// numbers returns the three numbers by a truth.
func (s sight) numbers(x api.MetamerTrue) triple {
	return s.sums(func(curve, band int) int64 {
		return x.Eye[curve][band] * x.Lamp[band] * s.at(band)
	})
}

// ends returns for each band the end of a range that makes sums as great, or
// as small, as can be.
func (s sight) ends(ranges []api.Range, great bool) []int64 {
	var list []int64
	for band := range s.bands() {
		end := ranges[band].Lo
		if great == (s.at(band) > 0) {
			end = ranges[band].Hi
		}
		list = append(list, end)
	}
	return list
}

// extreme returns a truth by which all three numbers are as great, or as small,
// as they can be. There is one for all of them: only on what is looked at does
// it depend which end of a range is wanted, and not on the curve.
func (s sight) extreme(great bool) api.MetamerTrue {
	x := api.MetamerTrue{Lamp: s.ends(s.Lamp, great)}
	for _, curve := range s.Eye {
		x.Eye = append(x.Eye, s.ends(curve, great))
	}
	return x
}

// spans returns for each curve the least and the greatest number.
func (s sight) spans() []api.Range {
	least, greatest := s.numbers(s.extreme(false)), s.numbers(s.extreme(true))
	var ranges []api.Range
	for curve := range curves {
		ranges = append(ranges, api.Range{Lo: least[curve], Hi: greatest[curve]})
	}
	return ranges
}

// parting returns a truth by which not all three numbers are 0, or false if
// there is none: then they are 0 where they are greatest, and where they are
// least.
func (s sight) parting() (api.MetamerTrue, bool) {
	for _, great := range [2]bool{true, false} {
		if x := s.extreme(great); s.numbers(x) != (triple{}) {
			return x, true
		}
	}
	return api.MetamerTrue{}, false
}
