package signal_test

import (
	"math"
	"slices"
	"testing"

	"lampblack/api"
	"lampblack/signal"
)

func areSame(g, h api.SignalGlass) bool {
	return slices.Equal(g.Points, h.Points) && slices.EqualFunc(g.Hazes, h.Hazes, slices.Equal)
}

func copied(g api.SignalGlass) api.SignalGlass {
	c := glass(slices.Clone(g.Points))
	for _, haze := range g.Hazes {
		c.Hazes = append(c.Hazes, slices.Clone(haze))
	}
	return c
}

// full returns a list with room behind it, in which something would be seen
// that is written there.
func full[T any](l []T, rest T) (part, room []T) {
	room = append(slices.Clone(l), rest, rest, rest)
	return room[:len(l)], room
}

// callAll calls all functions.
func callAll(g, h api.SignalGlass, p api.SignalPoint, rule []api.SignalPoint, l api.SignalLine, x api.SignalBoth) {
	signal.CheckGlass(g)
	signal.Area(g)
	signal.Holds(g, p)
	signal.Outside(g, rule)
	signal.CheckLine(g, h, l)
	signal.Part(g, h)
	signal.CheckBoth(g, h, x)
	signal.Both(g, h)
	signal.Gap(g, h)
	signal.Clash(code(g, h, g))
}

// R5: no argument is changed, nor what lies behind it.
func TestArgumentsAreKept(t *testing.T) {
	rest := at(77, 77)
	for _, want := range someGlasses(31, 40) {
		var g, room api.SignalGlass
		g.Points, room.Points = full(want.Points, rest)
		for _, haze := range want.Hazes {
			some, all := full(haze, rest)
			g.Hazes, room.Hazes = append(g.Hazes, some), append(room.Hazes, all)
		}
		outer, outerRoom := full(g.Hazes, many(1))
		g.Hazes = outer
		rule, ruleRoom := full(points(9, 9, 0, 0, 5, 0), rest)
		whole, wholeRule, wholeOuter := copied(room), slices.Clone(ruleRoom), copied(glass(nil, outerRoom...))
		for _, h := range code(glassG(), g) {
			callAll(g, h, at(3, 2), rule, line(1, 0, 5), both(3, 2, 1))
			callAll(h, g, at(3, 2), rule, line(1, 0, 5), both(3, 2, 1))
		}
		if !areSame(room, whole) || !slices.Equal(ruleRoom, wholeRule) || !areSame(glass(nil, outerRoom...), wholeOuter) {
			t.Error(room, ruleRoom, outerRoom)
		}
	}
}

// R5: a code is not changed, nor what lies behind it.
func TestCodeIsKept(t *testing.T) {
	l, room := full(code(glassG(), glassI(), glassJ()), glassH())
	signal.Clash(l)
	if want := code(glassG(), glassI(), glassJ(), glassH(), glassH(), glassH()); !slices.EqualFunc(room, want, areSame) {
		t.Error(room)
	}
}

// R4, R5: corners share no memory with an argument or with those of an equal
// call, and nothing of them is kept.
func TestCornersAreNew(t *testing.T) {
	for _, g := range someGlasses(32, 40) {
		want := copied(g)
		one, _ := signal.Area(g)
		two, _ := signal.Area(g)
		corners := slices.Clone(two)
		one = one[:cap(one)]
		for i := range one {
			one[i] = at(77, 77)
		}
		if three, _ := signal.Area(g); !slices.Equal(two, corners) || !slices.Equal(three, corners) || !areSame(g, want) {
			t.Error(g, two, three)
		}
	}
}

// result is what all functions return for two glasses.
type result struct {
	corners []api.SignalPoint
	is      bool
	p       api.SignalPoint
	l       api.SignalLine
	x       api.SignalBoth
	r       api.Ratio
	n       [2]int
	e       [7]api.Errno
}

func results(g, h api.SignalGlass) (r result) {
	r.corners, r.e[0] = signal.Area(g)
	r.is, r.e[1] = signal.Holds(g, at(3, 2))
	r.p, r.e[2] = signal.Outside(g, h.Points)
	r.l, r.e[3] = signal.Part(g, h)
	r.x, r.e[4] = signal.Both(g, h)
	r.r, r.e[5] = signal.Gap(g, h)
	r.n[0], r.n[1], r.e[6] = signal.Clash(code(h, g, g, h))
	return r
}

func (r result) equals(s result) bool {
	return slices.Equal(r.corners, s.corners) && r.is == s.is && r.p == s.p && r.l == s.l && r.x == s.x &&
		r.r == s.r && r.n == s.n && r.e == s.e
}

// R4, R10: equal calls return equal results, whatever is called in between.
func TestEqualCalls(t *testing.T) {
	var again []func() bool
	l := someGlasses(33, 30)
	for _, g := range l {
		for _, h := range l {
			first := results(g, h)
			again = append(again, func() bool { return results(copied(g), copied(h)).equals(first) })
		}
	}
	slices.Reverse(again)
	for i, equal := range again {
		if !equal() {
			t.Error(i)
		}
	}
}

// R3: nil and empty lists are the same.
func TestNilAndEmpty(t *testing.T) {
	for _, l := range [][][]api.SignalPoint{nil, {}} {
		if corners := areaOf(t, glass(points(1, 2), l...)); !slices.Equal(corners, points(1, 2)) {
			t.Error(corners)
		}
		if e := signal.CheckGlass(api.SignalGlass{Points: many(1), Hazes: l}); e != api.OK {
			t.Error(e)
		}
	}
	for _, l := range [][]api.SignalPoint{nil, {}} {
		if e := signal.CheckGlass(glass(l)); e != api.ErrMany {
			t.Error(e)
		}
		if e := signal.CheckGlass(glass(many(1), l)); e != api.ErrMany {
			t.Error(e)
		}
		if _, e := signal.Outside(glassG(), l); e != api.ErrMany {
			t.Error(e)
		}
	}
	for _, l := range [][]api.SignalGlass{nil, {}} {
		if a, b, e := signal.Clash(l); a != 0 || b != 0 || e != api.ErrNone {
			t.Error(a, b, e)
		}
	}
}

// P1: all functions end, and do not panic, for all arguments.
func TestAnyNumber(t *testing.T) {
	numbers := []int64{math.MinInt64, math.MinInt64 + 1, -1 << 41, -1 << 40, -10_001, -1000, -1, 0, 1, 1000, 10_000, 1 << 20, 1 << 28, 1 << 40, 1 << 62, math.MaxInt64}
	for _, a := range numbers {
		for _, b := range numbers {
			p := at(a, b)
			for _, g := range code(glassG(), glass([]api.SignalPoint{p}), glass(points(1, 1), []api.SignalPoint{p, at(b, a)}), farthest()) {
				callAll(g, glassG(), p, points(a, b), line(a, b, a), both(a, b, b))
				callAll(glassH(), g, at(b, b), points(0, 0, a, b), line(b, 1, a), both(b, b, a))
			}
		}
	}
}

// P1: lists of all lengths.
func TestAnyLength(t *testing.T) {
	for _, n := range []int{0, 1, 2, 3, 11, 12, 13, 1 << 16} {
		for _, m := range []int{0, 1, 2, 3, 4, 5, 1 << 16} {
			g := glass(many(n), manyHazes(m)...)
			callAll(g, glass(many(m), many(n)), at(0, 0), many(n), line(1, 0, -1), both(0, 0, 1))
			callAll(glassG(), g, at(0, 0), many(m), line(1, 0, -1), both(0, 0, 1))
			signal.Clash(make([]api.SignalGlass, n))
			signal.Clash(slices.Repeat(code(g), m))
		}
	}
}
