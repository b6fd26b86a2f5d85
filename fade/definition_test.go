package fade_test

import (
	"iter"
	"math/big"
	"math/rand"
	"slices"
	"testing"

	"lampblack/api"
	"lampblack/fade"
)

// The definitions of the chapter, as plainly as they can be written.

// hoursOf returns the hours of a card.
func hoursOf(c []api.FadeMark) []int64 {
	var l []int64
	for _, m := range c {
		l = append(l, m.Hours)
	}
	slices.Sort(l)
	return slices.Compact(l)
}

// sumsOf returns the sums of the weights, and of the grades times their weights,
// of all marks with some of the hours.
func sumsOf(c []api.FadeMark, hours []int64) (weight, sum int64) {
	for _, m := range c {
		if slices.Contains(hours, m.Hours) {
			weight += m.Weight
			sum += m.Grade * m.Weight
		}
	}
	return weight, sum
}

// meanOf returns the mean of some of the hours of a card.
func meanOf(c []api.FadeMark, hours []int64) *big.Rat {
	weight, sum := sumsOf(c, hours)
	return big.NewRat(sum, weight)
}

// distanceOf returns the distance of a line from a card.
func distanceOf(c []api.FadeMark, line []*big.Rat) *big.Rat {
	hours := hoursOf(c)
	all := new(big.Rat)
	for _, m := range c {
		at := slices.Index(hours, m.Hours)
		d := new(big.Rat).Sub(big.NewRat(m.Grade, 1), line[at])
		d.Mul(d, d)
		all.Add(all, d.Mul(d, big.NewRat(m.Weight, 1)))
	}
	return all
}

// rises reports whether no value is less than the one before.
func rises(line []*big.Rat) bool {
	return slices.IsSortedFunc(line, (*big.Rat).Cmp)
}

// isProof reports whether blocks prove a card.
func isProof(c []api.FadeMark, l []api.FadeBlock) bool {
	hours := hoursOf(c)
	var before *big.Rat
	for _, b := range l {
		n := slices.Index(hours, b.To) + 1
		if n == 0 || hours[0] != b.From {
			return false
		}
		some := hours[:n]
		hours = hours[n:]
		if weight, sum := sumsOf(c, some); b.Weight != weight || b.Sum != sum {
			return false
		}
		mean := meanOf(c, some)
		if before != nil && mean.Cmp(before) <= 0 {
			return false
		}
		before = mean
		for first := range some {
			if meanOf(c, some[:first+1]).Cmp(mean) < 0 {
				return false
			}
		}
	}
	return len(hours) == 0
}

// parted yields all ways to part the hours of a card in blocks, with their true
// sums.
func parted(c []api.FadeMark) iter.Seq[[]api.FadeBlock] {
	return func(yield func([]api.FadeBlock) bool) {
		hours := hoursOf(c)
		for bits := range 1 << (len(hours) - 1) {
			var l []api.FadeBlock
			from := 0
			for to := range hours {
				if to < len(hours)-1 && bits>>to&1 == 0 {
					continue
				}
				weight, sum := sumsOf(c, hours[from:to+1])
				l = append(l, api.FadeBlock{From: hours[from], To: hours[to], Weight: weight, Sum: sum})
				from = to + 1
			}
			if !yield(l) {
				return
			}
		}
	}
}

// lineOf returns the nearest rising line of a card as P8.8 tells it.
func lineOf(c []api.FadeMark) []*big.Rat {
	hours := hoursOf(c)
	var line []*big.Rat
	for at := range hours {
		var greatest *big.Rat
		for from := range at + 1 {
			var least *big.Rat
			for to := at; to < len(hours); to++ {
				if m := meanOf(c, hours[from:to+1]); least == nil || m.Cmp(least) < 0 {
					least = m
				}
			}
			if greatest == nil || least.Cmp(greatest) > 0 {
				greatest = least
			}
		}
		line = append(line, greatest)
	}
	return line
}

// valueOf returns the value of a line after some hours.
func valueOf(c []api.FadeMark, line []*big.Rat, hours int64) (api.Ratio, api.Errno) {
	value, e := api.Ratio{}, api.ErrNone
	for i, at := range hoursOf(c) {
		if at <= hours {
			value, e = api.Ratio{Num: line[i].Num().Int64(), Den: line[i].Denom().Int64()}, api.OK
		}
	}
	return value, e
}

// timeOf returns when a line reaches a limit.
func timeOf(c []api.FadeMark, line []*big.Rat, limit int64) api.FadeTime {
	x := api.FadeTime{By: never}
	for i, at := range hoursOf(c) {
		if line[i].Cmp(big.NewRat(limit, 1)) >= 0 {
			x.By = at
			return x
		}
		x.After = at
	}
	return x
}

// labelOf returns how many wools a shade is as fast as, surely, and possibly, by
// their times.
func labelOf(wools []api.FadeTime, shade api.FadeTime) api.Range {
	var x api.Range
	for _, w := range wools {
		if w.By <= shade.After && w.By != never {
			x.Lo++
		}
		if w.After < shade.By {
			x.Hi++
		}
	}
	return x
}

// someCard returns a card with at most so many marks, hours, grades and weights.
func someCard(chance *rand.Rand, marks, hours, grade, weight int64) []api.FadeMark {
	var c []api.FadeMark
	for range 1 + chance.Int63n(marks) {
		c = append(c, card(1+chance.Int63n(hours), chance.Int63n(grade+1), 1+chance.Int63n(weight))...)
	}
	return c
}

// risingCard returns a card whose grades mostly become greater.
func risingCard(chance *rand.Rand, marks, hours, scatter int64) []api.FadeMark {
	c := someCard(chance, marks, hours, 0, mostWeight)
	for i, m := range c {
		grade := m.Hours*mostGrade/hours + chance.Int63n(2*scatter+1) - scatter
		c[i].Grade = min(max(grade, 0), mostGrade)
	}
	return c
}

// someCards returns cards of all sizes.
func someCards(seed int64, n int) [][]api.FadeMark {
	chance := rand.New(rand.NewSource(seed))
	l := [][]api.FadeMark{cardC(), card(1, 0, 1), sameMarks(mostMarks, 7, 3, 2)}
	for len(l) < n {
		l = append(l, someCard(chance, mostMarks, mostHours, mostGrade, mostWeight),
			someCard(chance, mostMarks, 9, 3, 2),
			someCard(chance, 6, 5, 9, 9),
			risingCard(chance, mostMarks, mostHours, 1+chance.Int63n(40)),
			risingCard(chance, mostMarks, 12, 1+chance.Int63n(20)))
	}
	return l
}

// smallCards yields all cards with up to so many marks, with hours from 1 to 3,
// grades up to 2, and weights up to 2.
func smallCards(marks int) iter.Seq[[]api.FadeMark] {
	return func(yield func([]api.FadeMark) bool) {
		l := [][]api.FadeMark{nil}
		for range marks {
			var longer [][]api.FadeMark
			for _, c := range l {
				for kind := range int64(18) {
					c := append(slices.Clone(c), card(kind%3+1, kind/3%3, kind/9+1)...)
					if !yield(c) {
						return
					}
					longer = append(longer, c)
				}
			}
			l = longer
		}
	}
}

// seeCard sees to it that all calls return for a card what they should.
func seeCard(t *testing.T, c []api.FadeMark, hours []int64) {
	t.Helper()
	l, e := pool(t, c)
	if e != api.OK || !isProof(c, l) {
		t.Error(c, l, e)
	}
	if e := fade.CheckBlocks(c, l); e != api.OK {
		t.Error(c, l, e)
	}
	line := lineOf(c)
	for _, n := range hours {
		want, we := valueOf(c, line, n)
		if v, e := value(t, c, n); v != want || e != we {
			t.Error(c, n, v, e, want, we)
		}
	}
	for limit := int64(1); limit <= mostGrade; limit++ {
		if x, e := reach(t, c, limit); x != timeOf(c, line, limit) || e != api.OK {
			t.Error(c, limit, x, e)
		}
	}
}

// P8.2 to P8.5, P8.8: all small cards.
func TestAllSmallCards(t *testing.T) {
	for c := range smallCards(3) {
		seeCard(t, c, []int64{0, 1, 2, 3, 4, mostHours})
	}
}

// P8.2 to P8.5, P8.8: cards of all sizes.
func TestSomeCards(t *testing.T) {
	for _, c := range someCards(1, 400) {
		hours := []int64{0, mostHours}
		for _, n := range hoursOf(c) {
			hours = append(hours, n-1, n, min(n+1, mostHours))
		}
		seeCard(t, c, hours)
	}
}

// P8.2, P8.3, P8.7: of all ways to part the hours in blocks just one proves the
// card, which is that of Pool.
func TestOneProof(t *testing.T) {
	chance := rand.New(rand.NewSource(2))
	for range 800 {
		c := someCard(chance, 12, 9, 1+chance.Int63n(9), 1+chance.Int63n(9))
		pooled, e := pool(t, c)
		if e != api.OK {
			t.Fatal(c, e)
		}
		proofs := 0
		for l := range parted(c) {
			is := isProof(c, l)
			if is {
				proofs++
			}
			if is != slices.Equal(l, pooled) || is != (fade.CheckBlocks(c, l) == api.OK) {
				t.Error(c, l, is, pooled)
			}
		}
		if proofs != 1 {
			t.Error(c, proofs)
		}
	}
}

// P8.3: CheckBlocks by its definition, for blocks that are nearly proofs.
func TestNearlyProofs(t *testing.T) {
	chance := rand.New(rand.NewSource(3))
	for _, c := range someCards(4, 1500) {
		l, _ := pool(t, c)
		l = slices.Clone(l)
		i, j := chance.Intn(len(l)), chance.Intn(len(l))
		switch chance.Intn(6) {
		case 0:
			l[i], l[j] = l[j], l[i]
		case 1:
			l = slices.Delete(l, i, i+1)
		case 2:
			l = slices.Insert(l, j, l[i])
		case 3:
			// Two blocks that follow each other become one.
			if i+1 < len(l) {
				a, b := l[i], l[i+1]
				l[i] = api.FadeBlock{From: a.From, To: b.To, Weight: a.Weight + b.Weight, Sum: a.Sum + b.Sum}
				l = slices.Delete(l, i+1, i+2)
			}
		case 4:
			// A block becomes two.
			hours := hoursOf(c)
			from, to := slices.Index(hours, l[i].From), slices.Index(hours, l[i].To)
			if from < to {
				cut := from + chance.Intn(to-from)
				w, s := sumsOf(c, hours[from:cut+1])
				first := api.FadeBlock{From: l[i].From, To: hours[cut], Weight: w, Sum: s}
				l[i] = api.FadeBlock{From: hours[cut+1], To: l[i].To, Weight: l[i].Weight - w, Sum: l[i].Sum - s}
				l = slices.Insert(l, i, first)
			}
		default:
			l[i].From, l[i].To = l[i].From+chance.Int63n(3)-1, l[i].To+chance.Int63n(3)-1
		}
		if e := fade.CheckBlocks(c, l); (e == api.OK) != isProof(c, l) || e != api.OK && e != api.ErrSum {
			t.Error(c, l, e)
		}
	}
}

// P8.6: the label by its definition.
func TestSomeLabels(t *testing.T) {
	chance := rand.New(rand.NewSource(5))
	all := someCards(6, 300)
	apart := 0
	for range 1500 {
		var wools [][]api.FadeMark
		for range chance.Intn(mostWools + 1) {
			wools = append(wools, all[chance.Intn(len(all))])
		}
		c, limit := all[chance.Intn(len(all))], 1+chance.Int63n(mostGrade)
		if chance.Intn(2) == 0 {
			limit = 1 + chance.Int63n(9)
		}
		var times []api.FadeTime
		for _, wool := range wools {
			times = append(times, timeOf(wool, lineOf(wool), limit))
		}
		want := labelOf(times, timeOf(c, lineOf(c), limit))
		if x, e := label(t, wools, c, limit); x != want || e != api.OK {
			t.Error(wools, c, limit, x, e, want)
		}
		if 0 < want.Lo && want.Lo < want.Hi {
			apart++
		}
	}
	if apart < 100 {
		t.Error(apart)
	}
}
