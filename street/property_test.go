package street_test

import (
	"math/rand"
	"slices"
	"testing"

	"lampblack/api"
	"lampblack/street"
)

// costOfCheapest returns what the cheapest choice costs, or -1 if there is none.
func costOfCheapest(t *testing.T, r api.StreetRoad) int64 {
	t.Helper()
	choice, n, e := cheapest(t, r)
	if e == api.ErrDark {
		return -1
	}
	if e != api.OK {
		t.Fatal(r, choice, n, e)
	}
	return n
}

// P7.6: no choice that holds costs less than the bound of any prices.
func TestProved(t *testing.T) {
	chance := rand.New(rand.NewSource(11))
	count := 0
	for range 300 {
		r := litRoad(chance, 6, 9, 9)
		var bounds []int64
		for range 30 {
			l := somePrices(chance, r.Places)
			n, e := checkPrices(t, r, l)
			if e != api.OK {
				t.Fatal(r, l, n, e)
			}
			bounds = append(bounds, n)
		}
		for choice := range choices(len(r.Posts)) {
			n, e := check(t, r, choice)
			if e != api.OK {
				continue
			}
			count++
			if n < slices.Max(bounds) {
				t.Error(r, choice, n, bounds)
			}
		}
	}
	if count < 1000 {
		t.Error(count)
	}
}

// P7.6: the cheapest choice costs just the bound of what Prices returns, and no
// other prices have a greater one.
func TestPricesAreBest(t *testing.T) {
	chance := rand.New(rand.NewSource(12))
	count := 0
	for _, r := range someRoads(13, 900) {
		least := costOfCheapest(t, r)
		if least < 0 {
			continue
		}
		count++
		best, e := prices(t, r)
		if n, be := checkPrices(t, r, best); n != least || e != api.OK || be != api.OK {
			t.Error(r, best, n, least)
		}
		for range 5 {
			near := slices.Clone(best)
			near[chance.Intn(len(near))] += chance.Int63n(9)
			for _, l := range [][]int64{near, somePrices(chance, r.Places)} {
				if n, e := checkPrices(t, r, l); n > least || e != api.OK {
					t.Error(r, l, n, least)
				}
			}
		}
	}
	if count < 300 {
		t.Error(count)
	}
}

// hasDark reports whether a choice has a dark place, by all places and all lists
// of posts of it.
func hasDark(r api.StreetRoad, choice []int) bool {
	for place := range r.Places {
		for bits := range choices(len(choice)) {
			var dead []int
			for _, i := range bits {
				dead = append(dead, choice[i])
			}
			if street.CheckDark(r, choice, place, dead) == api.OK {
				return true
			}
		}
	}
	return false
}

// P7.7: a choice either holds, or has a dark place, not both.
func TestEither(t *testing.T) {
	chance := rand.New(rand.NewSource(14))
	held := 0
	for range 150 {
		r := litRoad(chance, 5, 6, 9)
		for choice := range choices(len(r.Posts)) {
			_, e := check(t, r, choice)
			_, _, de := dark(t, r, choice)
			is := hasDark(r, choice)
			if is == (e == api.OK) || is != (e == api.ErrDark) || is != (de == api.OK) || is == (de == api.ErrNone) {
				t.Error(r, choice, e, de, is)
			}
			if e == api.OK {
				held++
			}
		}
	}
	if held < 100 {
		t.Error(held)
	}
}

// P7.7: of a choice that holds, each place is lit by some other post, whichever
// of its posts are dead.
func TestDeadPosts(t *testing.T) {
	chance := rand.New(rand.NewSource(15))
	count := 0
	for _, r := range someRoads(16, 600) {
		choice, _, e := cheapest(t, r)
		if e != api.OK {
			continue
		}
		for range 20 {
			dead := slices.Clone(choice)
			chance.Shuffle(len(dead), func(i, j int) { dead[i], dead[j] = dead[j], dead[i] })
			dead = dead[:min(len(dead), chance.Intn(r.Dead+1))]
			slices.Sort(dead)
			others := slices.DeleteFunc(slices.Clone(choice), func(n int) bool { return slices.Contains(dead, n) })
			l, e := lit(t, r, others)
			if e != api.OK || slices.Min(l) < 1 {
				t.Error(r, choice, dead, l, e)
			}
			if e := street.CheckDark(r, choice, chance.Intn(r.Places), dead); e != api.ErrSum {
				t.Error(r, choice, dead, e)
			}
			count++
		}
	}
	if count < 1000 {
		t.Error(count)
	}
}

// isAtMost reports whether a cost is at most another one, if -1 is more than all.
func isAtMost(n, most int64) bool {
	return most < 0 || 0 <= n && n <= most
}

// P7.8: with one post more the cheapest choice does not cost more; with a greater
// Dead, or Dirt, it does not cost less.
func TestMore(t *testing.T) {
	chance := rand.New(rand.NewSource(17))
	less, more := 0, 0
	for _, r := range someRoads(18, 900) {
		least := costOfCheapest(t, r)
		if len(r.Posts) < mostPosts {
			from, to := chance.Intn(r.Places), chance.Intn(r.Places)
			r := r
			r.Posts = slices.Insert(slices.Clone(r.Posts), chance.Intn(len(r.Posts)+1), post(min(from, to), max(from, to), chance.Int63n(9)))
			n := costOfCheapest(t, r)
			if !isAtMost(n, least) {
				t.Error(r, n, least)
			}
			if n < least {
				less++
			}
		}
		for r := r; r.Dead < mostDead; {
			before := costOfCheapest(t, r)
			r.Dead++
			n := costOfCheapest(t, r)
			if !isAtMost(before, n) {
				t.Error(r, before, n)
			}
			if n > before {
				more++
			}
		}
		for r := r; r.Dirt < mostDirt; {
			before := costOfCheapest(t, r)
			r.Dirt++
			if n := costOfCheapest(t, r); !isAtMost(before, n) {
				t.Error(r, before, n)
			}
		}
	}
	if less < 30 || more < 100 {
		t.Error(less, more)
	}
}

// P7.8: with all Costs 1 the cheapest choice has the fewest posts.
func TestFewest(t *testing.T) {
	chance := rand.New(rand.NewSource(19))
	count := 0
	for range 600 {
		r := litRoad(chance, 9, 11, 0)
		for i := range r.Posts {
			r.Posts[i].Cost = 1
		}
		choice, n, e := cheapest(t, r)
		fewest := -1
		for l := range choices(len(r.Posts)) {
			if holds(r, l) && (fewest < 0 || len(l) < fewest) {
				fewest = len(l)
			}
		}
		if fewest < 0 {
			continue
		}
		count++
		if len(choice) != fewest || n != int64(fewest) || e != api.OK {
			t.Error(r, choice, n, e, fewest)
		}
	}
	if count < 300 {
		t.Error(count)
	}
}

// turned returns a street that is turned round.
func turned(r api.StreetRoad) api.StreetRoad {
	last := r.Places - 1
	other := road(r.Places, r.Dead, r.Dirt)
	for _, p := range r.Posts {
		other.Posts = append(other.Posts, post(last-p.To, last-p.From, p.Cost))
	}
	return other
}

// P7.9
func TestTurned(t *testing.T) {
	count := 0
	for _, r := range someRoads(20, 900) {
		n := costOfCheapest(t, r)
		if other := costOfCheapest(t, turned(r)); other != n {
			t.Error(r, n, other)
		}
		if n > 0 {
			count++
		}
		// The proof is turned round, too.
		if l, e := prices(t, r); e == api.OK {
			slices.Reverse(l)
			if bound, e := checkPrices(t, turned(r), l); bound != n || e != api.OK {
				t.Error(r, l, bound, n)
			}
		}
	}
	if count < 300 {
		t.Error(count)
	}
}

// joined returns two streets end to end, with the posts of the second one first.
func joined(r, s api.StreetRoad) api.StreetRoad {
	both := road(r.Places+s.Places, r.Dead, r.Dirt)
	for _, p := range s.Posts {
		both.Posts = append(both.Posts, post(p.From+r.Places, p.To+r.Places, p.Cost))
	}
	both.Posts = append(both.Posts, r.Posts...)
	return both
}

// P7.10
func TestJoined(t *testing.T) {
	chance := rand.New(rand.NewSource(21))
	count := 0
	for range 1500 {
		r, s := litRoad(chance, mostPlaces/2, mostPosts/2, 99), litRoad(chance, mostPlaces/2, mostPosts/2, 99)
		s.Dead = r.Dead
		want := int64(-1)
		if a, b := costOfCheapest(t, r), costOfCheapest(t, s); a >= 0 && b >= 0 {
			want = a + b
			count++
		}
		if n := costOfCheapest(t, joined(r, s)); n != want {
			t.Error(r, s, n, want)
		}
	}
	if count < 300 {
		t.Error(count)
	}
}

// P7.4: the order of posts does not matter to the cost.
func TestMixed(t *testing.T) {
	chance := rand.New(rand.NewSource(22))
	for _, r := range someRoads(23, 300) {
		other := r
		other.Posts = slices.Clone(r.Posts)
		l := other.Posts
		chance.Shuffle(len(l), func(i, j int) { l[i], l[j] = l[j], l[i] })
		if a, b := costOfCheapest(t, r), costOfCheapest(t, other); a != b {
			t.Error(r, other, a, b)
		}
	}
}
