package signal_test

import (
	"math/big"
	"math/rand"
	"slices"
	"testing"

	"lampblack/api"
	"lampblack/signal"
)

// The definitions of the chapter, as plainly as they can be written: an area is
// what is between all sums, and what is between points is between three of them
// at most.

func plus(p, q api.SignalPoint) api.SignalPoint { return at(p.X+q.X, p.Y+q.Y) }

func less(p, q api.SignalPoint) api.SignalPoint { return at(p.X-q.X, p.Y-q.Y) }

func area2(p, q api.SignalPoint) int64 { return p.X*q.Y - p.Y*q.X }

// turn is above 0 if one turns left at q on the way from p to r.
func turn(p, q, r api.SignalPoint) int64 { return area2(less(q, p), less(r, p)) }

// once returns points in some order, each of them once.
func once(l []api.SignalPoint) []api.SignalPoint {
	l = slices.Clone(l)
	slices.SortFunc(l, comparePoints)
	return slices.Compact(l)
}

func comparePoints(p, q api.SignalPoint) int {
	if p.X != q.X {
		return int(p.X - q.X)
	}
	return int(p.Y - q.Y)
}

// sums returns all sums of a point of a glass and one of each of its hazes.
func sums(g api.SignalGlass) []api.SignalPoint {
	all := once(g.Points)
	for _, haze := range g.Hazes {
		var l []api.SignalPoint
		for _, p := range all {
			for _, q := range haze {
				l = append(l, plus(p, q))
			}
		}
		all = once(l)
	}
	return all
}

// isOn reports whether p is on the piece from a to b.
func isOn(p, a, b api.SignalPoint) bool {
	return turn(a, b, p) == 0 && min(a.X, b.X) <= p.X && p.X <= max(a.X, b.X) && min(a.Y, b.Y) <= p.Y && p.Y <= max(a.Y, b.Y)
}

// isBetween reports whether p is between points.
func isBetween(p api.SignalPoint, l []api.SignalPoint) bool {
	for i, a := range l {
		for j, b := range l[:i+1] {
			if isOn(p, a, b) {
				return true
			}
			for _, c := range l[:j] {
				x, y, z := turn(a, b, p), turn(b, c, p), turn(c, a, p)
				if turn(a, b, c) != 0 && (x >= 0 && y >= 0 && z >= 0 || x <= 0 && y <= 0 && z <= 0) {
					return true
				}
			}
		}
	}
	return false
}

// cornersOf returns the corners of what is between points, in order.
func cornersOf(l []api.SignalPoint) []api.SignalPoint {
	var corners []api.SignalPoint
	for _, p := range l {
		others := slices.DeleteFunc(slices.Clone(l), func(q api.SignalPoint) bool { return q == p })
		if !isBetween(p, others) {
			corners = append(corners, p)
		}
	}
	corners = once(corners)
	first := corners[0]
	slices.SortFunc(corners[1:], func(p, q api.SignalPoint) int {
		return -int(turn(first, p, q))
	})
	return corners
}

// times returns points, each of them so many times as far away from 0 0.
func times(l []api.SignalPoint, n int64) []api.SignalPoint {
	far := make([]api.SignalPoint, len(l))
	for i, p := range l {
		far[i] = at(n*p.X, n*p.Y)
	}
	return far
}

func isBoth(l, m []api.SignalPoint, x api.SignalBoth) bool {
	p := at(x.X, x.Y)
	return isBetween(p, times(l, x.Den)) && isBetween(p, times(m, x.Den))
}

// cross reports whether the piece from a to b has a place of that from c to d.
func cross(a, b, c, d api.SignalPoint) bool {
	if isOn(a, c, d) || isOn(b, c, d) || isOn(c, a, b) || isOn(d, a, b) {
		return true
	}
	return sign(turn(a, b, c))*sign(turn(a, b, d)) < 0 && sign(turn(c, d, a))*sign(turn(c, d, b)) < 0
}

func sign(n int64) int64 {
	if n > 0 {
		return 1
	}
	if n < 0 {
		return -1
	}
	return 0
}

// clash reports whether some place is between points of each of two lists: if
// no point of the one is between those of the other one, two pieces cross.
func clash(l, m []api.SignalPoint) bool {
	for _, p := range l {
		if isBetween(p, m) {
			return true
		}
	}
	for _, p := range m {
		if isBetween(p, l) {
			return true
		}
	}
	for i, a := range l {
		for _, b := range l[:i] {
			for j, c := range m {
				for _, d := range m[:j] {
					if cross(a, b, c, d) {
						return true
					}
				}
			}
		}
	}
	return false
}

// distance returns the square of that of p from the piece from a to b.
func distance(p, a, b api.SignalPoint) *big.Rat {
	along, way := less(b, a), less(p, a)
	far := along.X*way.X + along.Y*way.Y
	long := along.X*along.X + along.Y*along.Y
	if far > 0 && far < long {
		n := big.NewRat(area2(along, way), 1)
		return n.Mul(n, n).Quo(n, big.NewRat(long, 1))
	}
	if far > 0 && far >= long {
		way = less(p, b)
	}
	return big.NewRat(way.X*way.X+way.Y*way.Y, 1)
}

// gap returns that of what is between points of each of two lists.
func gap(l, m []api.SignalPoint) *big.Rat {
	if clash(l, m) {
		return new(big.Rat)
	}
	var least *big.Rat
	for _, x := range [][2][]api.SignalPoint{{l, m}, {m, l}} {
		for _, p := range x[0] {
			for i, a := range x[1] {
				for _, b := range x[1][:i+1] {
					if d := distance(p, a, b); least == nil || d.Cmp(least) < 0 {
						least = d
					}
				}
			}
		}
	}
	return least
}

// parts reports whether a line has the points of one list before it, or on it,
// and those of another one behind it.
func parts(l, m []api.SignalPoint, x api.SignalLine) bool {
	for _, p := range l {
		if x.A*p.X+x.B*p.Y > x.C {
			return false
		}
	}
	for _, p := range m {
		if x.A*p.X+x.B*p.Y <= x.C {
			return false
		}
	}
	return true
}

// someGlass returns a glass with a few points, at most as far as some number.
func someGlass(chance *rand.Rand, most, hazes, far int) api.SignalGlass {
	somePoints := func(from int64) []api.SignalPoint {
		l := make([]api.SignalPoint, 1+chance.Intn(most))
		for i := range l {
			l[i] = at(from+int64(chance.Intn(far+1)), from+int64(chance.Intn(far+1)))
		}
		return l
	}
	g := glass(somePoints(0))
	for range chance.Intn(hazes + 1) {
		g.Hazes = append(g.Hazes, somePoints(-int64(far/2)))
	}
	return g
}

// smallGlasses returns all glasses of one or two points up to 2, some of three
// and some with hazes.
func smallGlasses() []api.SignalGlass {
	chance := rand.New(rand.NewSource(1))
	var l []api.SignalGlass
	for a := range int64(9) {
		for b := range a + 1 {
			l = append(l, glass(points(a/3, a%3, b/3, b%3)))
		}
	}
	for range 60 {
		l = append(l, someGlass(chance, 4, 2, 3))
	}
	return l
}

// checkOne compares the functions of one glass with their definitions.
func checkOne(t *testing.T, g api.SignalGlass, rule, places []api.SignalPoint) {
	t.Helper()
	all := sums(g)
	corners := cornersOf(all)
	if l, e := signal.Area(g); !slices.Equal(l, corners) || e != api.OK {
		t.Error(g, l, e, corners)
	}
	for _, p := range places {
		if is, e := signal.Holds(g, p); is != isBetween(p, all) || e != api.OK {
			t.Error(g, p, is, e)
		}
	}
	var want api.SignalPoint
	i := slices.IndexFunc(corners, func(p api.SignalPoint) bool { return !isBetween(p, rule) })
	we := api.ErrNone
	if i >= 0 {
		want, we = corners[i], api.OK
	}
	if p, e := signal.Outside(g, rule); p != want || e != we {
		t.Error(g, rule, p, e, want, we)
	}
}

// checkTwo compares the functions of two glasses with their definitions.
func checkTwo(t *testing.T, g, h api.SignalGlass) {
	t.Helper()
	l, m := sums(g), sums(h)
	want := gap(l, m)
	r, e := signal.Gap(g, h)
	// A big.Rat is in least terms.
	if e != api.OK || r != (api.Ratio{Num: want.Num().Int64(), Den: want.Denom().Int64()}) {
		t.Error(g, h, r, e, want)
	}
	checkProof(t, g, h, want.Sign() == 0)
	if want.Sign() == 0 {
		if x, _ := signal.Both(g, h); x.Den < 1 || x.Den > api.MaxSignalDen || !isBoth(l, m, x) {
			t.Error(g, h, x)
		}
	} else if x, _ := signal.Part(g, h); !parts(l, m, x) {
		t.Error(g, h, x)
	}
}

// checkLinesAndLights compares what is a proof with the definitions.
func checkLinesAndLights(t *testing.T, g, h api.SignalGlass, lines []api.SignalLine, lights []api.SignalBoth) {
	t.Helper()
	l, m := sums(g), sums(h)
	for _, x := range lines {
		want := api.ErrSum
		if parts(l, m, x) {
			want = api.OK
		}
		if e := signal.CheckLine(g, h, x); e != want {
			t.Error(g, h, x, e, want)
		}
	}
	for _, x := range lights {
		want := api.ErrSum
		if isBoth(l, m, x) {
			want = api.OK
		}
		if e := signal.CheckBoth(g, h, x); e != want {
			t.Error(g, h, x, e, want)
		}
	}
}

// P6.2, P6.3, P6.4: all small glasses.
func TestSmallGlasses(t *testing.T) {
	chance := rand.New(rand.NewSource(2))
	var places []api.SignalPoint
	for x := int64(-3); x <= 7; x++ {
		for y := int64(-3); y <= 7; y++ {
			places = append(places, at(x, y))
		}
	}
	for _, g := range smallGlasses() {
		for range 4 {
			rule := sums(someGlass(chance, 5, 1, 6))
			checkOne(t, g, rule[:min(len(rule), mostPoints)], places)
		}
	}
}

// P6.5, P6.6, P6.7: all pairs of small glasses.
func TestSmallPairs(t *testing.T) {
	for _, g := range smallGlasses() {
		for _, h := range smallGlasses() {
			checkTwo(t, g, h)
		}
	}
}

// P6.5: all small lines, and all small lights.
func TestSmallProofs(t *testing.T) {
	chance := rand.New(rand.NewSource(3))
	var lines []api.SignalLine
	var lights []api.SignalBoth
	for a := range int64(7) {
		for b := range int64(7) {
			for c := int64(-6); c <= 6; c++ {
				if a != 3 || b != 3 {
					lines = append(lines, line(a-3, b-3, c))
				}
			}
			for den := int64(1); den <= 3; den++ {
				lights = append(lights, both(a-1, b-1, den))
			}
		}
	}
	all := smallGlasses()
	for range 400 {
		g, h := all[chance.Intn(len(all))], all[chance.Intn(len(all))]
		checkLinesAndLights(t, g, h, lines, lights)
	}
}

// P6.2, P6.3, P6.4: random glasses of all sizes.
func TestGreatGlasses(t *testing.T) {
	chance := rand.New(rand.NewSource(4))
	for range 300 {
		far := []int{3, 10, 100, mostPlace}[chance.Intn(4)]
		g := someGlass(chance, 4, 2, far)
		rule := someGlass(chance, mostPoints, 0, 2*far).Points
		if chance.Intn(2) == 0 {
			rule = append(rule[:min(len(rule), 8)], points(0, 0, int64(2*far), 0, 0, int64(2*far), int64(-far), int64(-far))...)
		}
		places := append(sums(someGlass(chance, 3, 1, far)), sums(g)...)
		checkOne(t, g, rule, places)
	}
}

// P6.5, P6.6, P6.7: random pairs of all sizes, many of them close together.
func TestGreatPairs(t *testing.T) {
	chance := rand.New(rand.NewSource(5))
	for range 600 {
		far := []int{5, 20, 200, mostPlace}[chance.Intn(4)]
		g, h := someGlass(chance, 4, 1, far), someGlass(chance, 4, 1, far)
		if chance.Intn(3) == 0 {
			// Points in a corner have less that others can have, too.
			for i, p := range g.Points {
				g.Points[i] = at(p.X/3, p.Y/3)
			}
		}
		checkTwo(t, g, h)
	}
}

// P6.6, P6.7: pieces about as long as can be, which cross, or lie along each
// other: the number by which a light is divided comes near to its limit.
func TestLongPieces(t *testing.T) {
	chance := rand.New(rand.NewSource(6))
	longest := func(n [4]int64) api.SignalGlass {
		g := glass(points(n[0], 0, 1000-n[1], 1000))
		for range mostHazes {
			g.Hazes = append(g.Hazes, points(n[2]-1000, -1000, 1000-n[3], 1000))
		}
		return g
	}
	for i := range 400 {
		var m, n [4]int64
		for j := range m {
			m[j], n[j] = int64(chance.Intn(5)), int64(chance.Intn(5))
		}
		g, h := longest(m), longest(n)
		if i%2 == 0 {
			// The other one leads across, from the right to the left.
			for _, l := range append([][]api.SignalPoint{h.Points}, h.Hazes...) {
				l[0].X, l[1].X = l[1].X, l[0].X
			}
		}
		a, _ := signal.Area(g)
		b, _ := signal.Area(h)
		want := gap(a, b)
		r, e := signal.Gap(g, h)
		if e != api.OK || r != (api.Ratio{Num: want.Num().Int64(), Den: want.Denom().Int64()}) {
			t.Error(g, h, r, e, want)
		}
		checkProof(t, g, h, want.Sign() == 0)
	}
}

// P6.8: the first pair, of those that clash.
func TestCodes(t *testing.T) {
	chance := rand.New(rand.NewSource(7))
	for range 300 {
		l := make([]api.SignalGlass, chance.Intn(mostCode+1))
		for i := range l {
			l[i] = someGlass(chance, 2, 1, []int{6, 30}[chance.Intn(2)])
		}
		wa, wb, we := 0, 0, api.ErrNone
		for j := len(l) - 1; j >= 0; j-- {
			for k := len(l) - 1; k > j; k-- {
				if clash(sums(l[j]), sums(l[k])) {
					wa, wb, we = j, k, api.OK
				}
			}
		}
		if a, b, e := signal.Clash(l); a != wa || b != wb || e != we {
			t.Error(l, a, b, e, wa, wb, we)
		}
	}
}
