package signal_test

import (
	"math/rand"
	"slices"
	"testing"

	"lampblack/api"
	"lampblack/signal"
)

// someGlasses returns glasses of all sizes, those of the chapter among them.
func someGlasses(seed int64, n int) []api.SignalGlass {
	chance := rand.New(rand.NewSource(seed))
	l := code(glassG(), glassH(), glassI(), glassJ(), farthest())
	for len(l) < n {
		l = append(l, someGlass(chance, mostPoints, mostHazes, []int{4, 40, 900}[chance.Intn(3)]))
	}
	return l
}

func areaOf(t *testing.T, g api.SignalGlass) []api.SignalPoint {
	t.Helper()
	l, e := signal.Area(g)
	if e != api.OK {
		t.Fatal(g, l, e)
	}
	return l
}

func gapOf(t *testing.T, g, h api.SignalGlass) api.Ratio {
	t.Helper()
	r, e := signal.Gap(g, h)
	if e != api.OK {
		t.Fatal(g, h, r, e)
	}
	return r
}

func holds(t *testing.T, g api.SignalGlass, p api.SignalPoint) bool {
	t.Helper()
	is, e := signal.Holds(g, p)
	if e != api.OK {
		t.Fatal(g, p, is, e)
	}
	return is
}

// P6.9: either a line, or a light, and not both; so the gap is 0 just if the
// glasses clash, and Clash names them just then.
func TestEither(t *testing.T) {
	l := someGlasses(11, 60)
	for _, g := range l {
		for _, h := range l {
			x, le := signal.Part(g, h)
			y, be := signal.Both(g, h)
			isLine := le == api.OK && signal.CheckLine(g, h, x) == api.OK
			isLight := be == api.OK && signal.CheckBoth(g, h, y) == api.OK
			if isLine == isLight || (le == api.OK) == (be == api.OK) {
				t.Error(g, h, x, le, y, be)
			}
			if (gapOf(t, g, h).Num == 0) != isLight {
				t.Error(g, h, gapOf(t, g, h))
			}
			_, b, e := signal.Clash(code(g, h))
			if (b == 1) != isLight || (e == api.OK) != isLight {
				t.Error(g, h, b, e)
			}
			// What is no proof of the one is none of the other one.
			if isLight && signal.CheckLine(g, h, line(y.Den, 0, y.X)) == api.OK {
				t.Error(g, h, y)
			}
		}
	}
}

// P6.10
func TestSummed(t *testing.T) {
	chance := rand.New(rand.NewSource(12))
	for _, g := range someGlasses(13, 80) {
		for range 30 {
			p := g.Points[chance.Intn(len(g.Points))]
			for _, haze := range g.Hazes {
				p = plus(p, haze[chance.Intn(len(haze))])
			}
			if !holds(t, g, p) {
				t.Error(g, p)
			}
		}
		all := sums(glass(g.Points, g.Hazes[:min(len(g.Hazes), 2)]...))
		for _, p := range areaOf(t, glass(g.Points, g.Hazes[:min(len(g.Hazes), 2)]...)) {
			if _, is := slices.BinarySearchFunc(all, p, comparePoints); !is {
				t.Error(g, p)
			}
		}
		if len(g.Hazes) == mostHazes {
			continue
		}
		haze := someGlass(chance, mostPoints-1, 0, 900).Points
		haze = slices.Insert(haze, chance.Intn(len(haze)+1), at(0, 0))
		more := glass(g.Points, append(slices.Clone(g.Hazes), haze)...)
		for _, p := range areaOf(t, g) {
			if !holds(t, more, p) {
				t.Error(g, more, p)
			}
		}
	}
}

// moved returns a glass whose points are moved.
func moved(g api.SignalGlass, way api.SignalPoint) api.SignalGlass {
	var l []api.SignalPoint
	for _, p := range g.Points {
		l = append(l, plus(p, way))
	}
	return glass(l, g.Hazes...)
}

// mixed returns a glass with its points and hazes in another order.
func mixed(chance *rand.Rand, g api.SignalGlass) api.SignalGlass {
	mix := func(l []api.SignalPoint) []api.SignalPoint {
		l = slices.Clone(l)
		chance.Shuffle(len(l), func(i, j int) { l[i], l[j] = l[j], l[i] })
		return l
	}
	other := glass(mix(g.Points))
	for _, i := range chance.Perm(len(g.Hazes)) {
		other.Hazes = append(other.Hazes, mix(g.Hazes[i]))
	}
	return other
}

// P6.11
func TestMoved(t *testing.T) {
	chance := rand.New(rand.NewSource(14))
	for _, g := range someGlasses(15, 100) {
		corners := areaOf(t, g)
		if l := areaOf(t, mixed(chance, g)); !slices.Equal(l, corners) {
			t.Error(g, l, corners)
		}
		h := moved(g, at(int64(chance.Intn(90)), int64(chance.Intn(90))))
		if signal.CheckGlass(h) != api.OK {
			continue
		}
		way := less(h.Points[0], g.Points[0])
		for i, p := range areaOf(t, h) {
			if p != plus(corners[i], way) {
				t.Error(g, h, i, p)
			}
		}
	}
}

// P6.11: the order of points matters to no function.
func TestMixed(t *testing.T) {
	chance := rand.New(rand.NewSource(16))
	l := someGlasses(17, 30)
	for _, g := range l {
		for _, h := range l {
			if r := gapOf(t, mixed(chance, g), mixed(chance, h)); r != gapOf(t, g, h) {
				t.Error(g, h, r)
			}
			rule := h.Points
			p, e := signal.Outside(g, rule)
			if q, oe := signal.Outside(mixed(chance, g), mixed(chance, h).Points); q != p || oe != e {
				t.Error(g, rule, p, e, q, oe)
			}
		}
	}
}

// P6.12
func TestFar(t *testing.T) {
	chance := rand.New(rand.NewSource(18))
	count := 0
	for range 3000 {
		g, h := someGlass(chance, 3, 1, 8), someGlass(chance, 3, 1, 8)
		h = moved(h, at(int64(chance.Intn(12)), int64(chance.Intn(12))))
		r := gapOf(t, g, h)
		if back := gapOf(t, h, g); back != r {
			t.Error(g, h, r, back)
		}
		for x := int64(-4); x <= 4; x++ {
			for y := int64(-4); y <= 4; y++ {
				near := moved(h, at(x, y))
				if (x*x+y*y)*r.Den >= r.Num || signal.CheckGlass(near) != api.OK {
					continue
				}
				count++
				if gapOf(t, g, near).Num == 0 {
					t.Error(g, h, x, y)
				}
			}
		}
	}
	if count < 1000 {
		t.Error(count)
	}
}

// P6.13
func TestAllowed(t *testing.T) {
	chance := rand.New(rand.NewSource(19))
	count := 0
	for range 2000 {
		g := someGlass(chance, 3, 1, 5)
		rule := moved(someGlass(chance, 7, 0, 14), at(-3, -3)).Points
		if _, e := signal.Outside(g, rule); e != api.ErrNone {
			continue
		}
		count++
		for x := int64(-10); x <= 20; x++ {
			for y := int64(-10); y <= 20; y++ {
				if holds(t, g, at(x, y)) && !isBetween(at(x, y), rule) {
					t.Error(g, rule, x, y)
				}
			}
		}
	}
	if count < 100 {
		t.Error(count)
	}
}
