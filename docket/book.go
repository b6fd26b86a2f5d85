package docket

import (
	"maps"
	"slices"

	"lampblack/api"
)

// thing is a thing of the book. One that never entered is zero: one that entered
// has a Number above 0.
type thing struct{ api.DocketThing }

// book is the things that entered, by their Numbers.
type book map[int64]thing

// has reports whether a thing entered.
func (b book) has(number int64) bool { return b[number] != thing{} }

// absence returns the error of the first one of some things that is not there.
func (b book) absence(numbers ...int64) api.Errno {
	for _, number := range numbers {
		if !b.has(number) {
			return api.ErrNone
		}
		if b[number].Out {
			return api.ErrState
		}
	}
	return api.OK
}

// replay replays cards, and returns for each one the error with which it is
// refused, or OK.
func (b book) replay(l []api.DocketCard) []api.Errno {
	rules := b.rules()
	errs := make([]api.Errno, len(l))
	for i, c := range l {
		errs[i] = rules[c.Kind](c)
	}
	return errs
}

// rules returns for each kind what replays a card of it.
func (b book) rules() [api.DocketClaim + 1]func(api.DocketCard) api.Errno {
	return [...]func(api.DocketCard) api.Errno{
		api.DocketEnter:   func(c api.DocketCard) api.Errno { return b.enter(c.Things[0], c.A) },
		api.DocketBurn:    func(c api.DocketCard) api.Errno { return b.burn(c.Things[0], c.A) },
		api.DocketCompare: func(c api.DocketCard) api.Errno { return b.compare(c.Things[0], c.Things[1], c.A) },
		api.DocketReplace: func(c api.DocketCard) api.Errno { return b.replace(c.Things[0], c.Things[1]) },
		api.DocketOut:     func(c api.DocketCard) api.Errno { return b.out(c.Things[0]) },
		api.DocketClaim:   func(c api.DocketCard) api.Errno { return b.claim(c.Things[0], c.Things[1], c.Things[2], c.A) },
	}
}

func (b book) enter(x, value int64) api.Errno {
	if b.has(x) {
		return api.ErrHave
	}
	b[x] = thing{api.DocketThing{Number: x, Value: value}}
	return api.OK
}

func (b book) burn(x, hours int64) api.Errno {
	if e := b.absence(x); e != api.OK {
		return e
	}
	burnt := b[x]
	burnt.Hours += hours
	if burnt.Hours > api.MaxDocketHours {
		return api.ErrOver
	}
	b[x] = burnt
	return api.OK
}

func (b book) compare(x, y, thousandths int64) api.Errno {
	if e := b.absence(x, y); e != api.OK {
		return e
	}
	compared := b[x]
	compared.Value = b[y].Value * thousandths / 1000
	if !isFrom(compared.Value, 1, api.MaxDocketValue) {
		return api.ErrOver
	}
	b[x] = compared
	return api.OK
}

func (b book) replace(x, y int64) api.Errno {
	if e := b.absence(x); e != api.OK {
		return e
	}
	if e := b.enter(y, b[x].Value); e != api.OK {
		return e
	}
	return b.out(x)
}

func (b book) out(x int64) api.Errno {
	if e := b.absence(x); e != api.OK {
		return e
	}
	gone := b[x]
	gone.Out = true
	b[x] = gone
	return api.OK
}

func (b book) claim(x, y, z, most int64) api.Errno {
	if e := b.absence(x, y, z); e != api.OK {
		return e
	}
	if !isFrom(b[x].Value+b[y].Value-b[z].Value, -most, most) {
		return api.ErrClaim
	}
	return api.OK
}

// state returns all things, increasing by Number.
func (b book) state() []api.DocketThing {
	all := make([]api.DocketThing, 0, len(b))
	for _, number := range slices.Sorted(maps.Keys(b)) {
		all = append(all, b[number].DocketThing)
	}
	return all
}
