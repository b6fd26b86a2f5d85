package docket

import (
	"iter"
	"slices"

	"lampblack/api"
)

// order is the cards of one docket, or of two, increasing by Number, so that the
// first one of several is the least one. Their places are those in this list.
type order struct {
	list   []api.DocketCard
	places map[int64]int  // of cards, by their Numbers
	before [mostCards]set // for each card: those that touch it and are before it in a docket
}

// newOrder returns the order of dockets that agree.
func newOrder(dockets ...[]api.DocketCard) *order {
	o := &order{list: sorted(dockets...), places: map[int64]int{}}
	for place, c := range o.list {
		o.places[c.Number] = place
	}
	for _, l := range dockets {
		for i, c := range l {
			place := o.places[c.Number]
			for _, earlier := range l[:i] {
				if touch(c, earlier) {
					o.before[place] = o.before[place].with(o.places[earlier.Number])
				}
			}
		}
	}
	return o
}

// next yields the places of cards that may come next: those that are not done,
// though all that are before them are.
func (o *order) next(done set) iter.Seq[int] {
	return func(yield func(int) bool) {
		for place := range o.list {
			before := o.before[place]
			if !done.has(place) && before.and(done) == before && !yield(place) {
				return
			}
		}
	}
}

// rounds returns for each round the Numbers of its cards: those that may come next
// when all rounds before it are done.
func (o *order) rounds() [][]int64 {
	var all [][]int64
	var done set
	for {
		after := done
		var round []int64
		for place := range o.next(done) {
			after = after.with(place)
			round = append(round, o.list[place].Number)
		}
		if after == done {
			return all
		}
		done = after
		all = append(all, round)
	}
}

// row returns the places of cards, each time the least one that may come next, until
// none may. Then it is all cards, unless some are known to come before themselves.
func (o *order) row() []int {
	room := make([]int, len(o.list))
	row := room[:0:len(room)]
	var done set
	for range o.list {
		for place := range o.next(done) {
			row = append(row, place)
			done = done.with(place)
			break
		}
	}
	return row
}

// left returns the places that are not in a row.
func (o *order) left(row []int) []int {
	var left []int
	for place := range o.list {
		if !slices.Contains(row, place) {
			left = append(left, place)
		}
	}
	return left
}

// cards returns the cards of a row, as ones of their own.
func (o *order) cards(row []int) []api.DocketCard {
	all := make([]api.DocketCard, len(row))
	for i, place := range row {
		all[i] = copied(o.list[place])
	}
	return all
}

// known returns for each card all that are known to come before it, if none is
// known to come before itself.
func (o *order) known() [mostCards]set {
	known := o.before
	for _, place := range o.row() {
		for earlier := range o.list {
			if o.before[place].has(earlier) {
				known[place] = known[place].or(known[earlier])
			}
		}
	}
	return known
}

// isTold reports whether of any two cards that touch one is known to come before
// the other one, if none is known to come before itself.
func (o *order) isTold() bool {
	known := o.known()
	for place, c := range o.list {
		for other, d := range o.list[:place] {
			if touch(c, d) && !known[place].has(other) && !known[other].has(place) {
				return false
			}
		}
	}
	return true
}

// past returns the past of a thing in a docket.
func past(l []api.DocketCard, thing int64) []api.DocketCard {
	o := newOrder(l)
	known := o.known()
	var some set
	for place, c := range o.list {
		if slices.Contains(c.Things, thing) {
			some = some.with(place).or(known[place])
		}
	}
	var all []api.DocketCard
	for _, c := range l {
		if some.has(o.places[c.Number]) {
			all = append(all, copied(c))
		}
	}
	return all
}

// isCircle reports whether Numbers, of which there are some, are a circle.
func (o *order) isCircle(numbers []int64) bool {
	for i, number := range numbers[1:] {
		earlier, hasEarlier := o.places[numbers[i]]
		place, has := o.places[number]
		if !has || !hasEarlier || !o.before[place].has(earlier) {
			return false
		}
	}
	return numbers[0] == numbers[len(numbers)-1]
}

// circle returns a circle of cards that are left. Before each of these is another
// one of them, since otherwise it could come next; so going back comes to some card
// for the second time.
func (o *order) circle(left []int) []int64 {
	var back []int
	at := left[0]
	for !slices.Contains(back, at) {
		back = append(back, at)
		at = left[slices.IndexFunc(left, o.before[at].has)]
	}
	back = append(back[slices.Index(back, at):], at)
	slices.Reverse(back)
	return numbersOf(o.cards(back))
}
