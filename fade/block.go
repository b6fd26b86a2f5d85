package fade

import (
	"iter"

	"lampblack/api"
)

// block is hours of a card that follow each other, and what is told of them.
type block struct {
	api.FadeBlock
	hours []hour
}

// blockOf returns the block of some hours, or block{} if there are none.
func blockOf(hours []hour) block {
	all := total(hours)
	if all == (sums{}) {
		return block{}
	}
	return block{
		FadeBlock: api.FadeBlock{
			From:   hours[0].at,
			To:     hours[len(hours)-1].at,
			Weight: all[0],
			Sum:    all[1],
		},
		hours: hours,
	}
}

// mean returns the mean of the hours of a block that has some, in least terms.
func (b block) mean() api.Ratio {
	n := divisor(b.Sum, b.Weight)
	return api.Ratio{Num: b.Sum / n, Den: b.Weight / n}
}

// beginnings yields the blocks of the first hours of a block: of one hour, of
// two, and so on up to all of them.
func (b block) beginnings() iter.Seq[block] {
	return func(yield func(block) bool) {
		for i := range b.hours {
			if !yield(blockOf(b.hours[:i+1])) {
				return
			}
		}
	}
}

// isPooled reports whether a block has hours, and none of its beginnings has a
// mean below that of all of them. Within such a block a line that rises comes no
// nearer by different values than by the mean.
func (b block) isPooled() bool {
	for first := range b.beginnings() {
		if isBelow(first.mean, b.mean) {
			return false
		}
	}
	return len(b.hours) > 0
}

// pool returns the blocks that prove all hours of a card. Where a block does not
// have a greater mean than the one before it, both become one.
func pool(hours []hour) []block {
	var room [api.MaxFadeMarks]block
	stack := room[:0:len(hours)]
next:
	for i := range hours {
		stack = append(stack, blockOf(hours[i:i+1]))
		for n := len(stack); n > 1; n-- {
			before, last := stack[n-2], stack[n-1]
			if isBelow(before.mean, last.mean) {
				continue next
			}
			first := i + 1 - len(last.hours) - len(before.hours)
			stack = append(stack[:n-2], blockOf(hours[first:i+1]))
		}
	}
	blocks := make([]block, len(stack))
	copy(blocks, stack)
	return blocks
}

// line returns the blocks of the nearest rising line of a valid card.
func line(c []api.FadeMark) []block {
	return pool(newCard(c).takeTo(api.MaxFadeHours))
}

// isProvedBy reports whether blocks prove the hours of a card, which it takes out.
// Each block gets all hours that are left up to its last ones, so that blocks out
// of order, or with a gap between them, differ from those that they should be.
func (c card) isProvedBy(proof []api.FadeBlock) bool {
	var before block
	for i, given := range proof {
		b := blockOf(c.takeTo(given.To))
		if b.FadeBlock != given || !b.isPooled() {
			return false
		}
		if i > 0 && !isBelow(before.mean, b.mean) {
			return false
		}
		before = b
	}
	return len(c) == 0
}

// isBelow reports whether a mean is less than another one.
func isBelow(mean, other func() api.Ratio) bool {
	a, b := mean(), other()
	return a.Num*b.Den < b.Num*a.Den
}

// divisor returns the greatest number that divides two numbers, which are not
// both 0.
func divisor(a, b int64) int64 {
	for b != 0 {
		a, b = b, a%b
	}
	return a
}
