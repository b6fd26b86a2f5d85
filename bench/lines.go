package bench

import "lampblack/api"

const (
	wordBits = 64
	words    = (1 << api.MaxBenchLamps) / wordBits
)

// rows is a set of rows of dark and bright lamps, a bit for each of them. The
// number of a row, in twos, is the row itself: so numbers are in lexicographic
// order. If there are less than MaxBenchLamps lamps, the rows come again and
// again.
type rows [words]uint64

// rowsWith returns the rows whose number has a bit.
func rowsWith(bit int) rows {
	within := [6]uint64{
		0xaaaaaaaaaaaaaaaa, 0xcccccccccccccccc, 0xf0f0f0f0f0f0f0f0,
		0xff00ff00ff00ff00, 0xffff0000ffff0000, 0xffffffff00000000,
	}
	var r rows
	for w := range r {
		if bit < len(within) {
			r[w] = within[bit]
		} else if w>>(bit-len(within))&1 == 1 {
			r[w] = ^uint64(0)
		}
	}
	return r
}

func (r rows) or(other rows) rows {
	for w := range r {
		r[w] |= other[w]
	}
	return r
}

func (r rows) and(other rows) rows {
	for w := range r {
		r[w] &= other[w]
	}
	return r
}

func (r rows) without(other rows) rows {
	for w := range r {
		r[w] &^= other[w]
	}
	return r
}

// first returns the number of the first row of a set that has one.
func (r rows) first() int {
	number := 0
search:
	for _, word := range r {
		for bit := range wordBits {
			if word>>bit&1 == 1 {
				break search
			}
			number++
		}
	}
	return number
}

// lines tells for each place in which rows its lamp is bright.
type lines struct {
	at [api.MaxBenchLamps]rows
}

// bench is all rows of dark and bright lamps, on which programmes are run at
// once.
type bench struct {
	lines
	lamps int
}

// newBench returns a bench on which nothing has been run.
func newBench(lamps int) *bench {
	b := &bench{lamps: lamps}
	for i := range lamps {
		b.at[i] = rowsWith(lamps - 1 - i)
	}
	return b
}

// exchanges reports whether a pair exchanges lamps of some row.
func (b *bench) exchanges(q api.BenchPair) bool {
	return b.at[q.Right].without(b.at[q.Left]) != rows{}
}

func (b *bench) run(q api.BenchPair) {
	left, right := b.at[q.Left], b.at[q.Right]
	b.at[q.Left], b.at[q.Right] = left.or(right), left.and(right)
}

// disorderOf returns the rows whose places from one up to another one are not
// in order.
func (b *bench) disorderOf(first, end int) rows {
	var wrong rows
	for i := first + 1; i < end; i++ {
		wrong = wrong.or(b.at[i].without(b.at[i-1]))
	}
	return wrong
}

// disorder returns the rows that are not in order.
func (b *bench) disorder() rows { return b.disorderOf(0, b.lamps) }

// unpicked returns the rows that are brighter at some place than at one of so
// many first ones.
func (b *bench) unpicked(best int) rows {
	allPicked := b.at[0]
	for _, line := range b.at[1:best] {
		allPicked = allPicked.and(line)
	}
	var someOther rows
	for _, line := range b.at[best:b.lamps] {
		someOther = someOther.or(line)
	}
	return someOther.without(allPicked)
}

// firstWrong runs a programme and returns the first row, as it was before, of
// those that are told to be wrong then.
func (b *bench) firstWrong(p []api.BenchPair, wrong func() rows) ([]int64, api.Errno) {
	for _, q := range p {
		b.run(q)
	}
	found := wrong()
	if found == (rows{}) {
		return nil, api.ErrNone
	}
	return b.row(found.first()), api.OK
}

// row returns the row of a number.
func (b *bench) row(number int) []int64 {
	row := make([]int64, b.lamps)
	for i := range row {
		row[i] = int64(number >> (b.lamps - 1 - i) & 1)
	}
	return row
}
