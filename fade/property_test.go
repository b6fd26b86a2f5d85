package fade_test

import (
	"iter"
	"math/big"
	"math/rand"
	"slices"
	"testing"

	"lampblack/api"
	"lampblack/fade"
)

// pooledLine returns the line that has the mean of its block for each of the
// hours, by the blocks of Pool.
func pooledLine(t *testing.T, c []api.FadeMark) []*big.Rat {
	t.Helper()
	l, e := pool(t, c)
	if e != api.OK {
		t.Fatal(c, e)
	}
	var line []*big.Rat
	for _, n := range hoursOf(c) {
		i := slices.IndexFunc(l, func(b api.FadeBlock) bool { return b.From <= n && n <= b.To })
		if i < 0 {
			t.Fatal(c, l, n)
		}
		line = append(line, big.NewRat(l[i].Sum, l[i].Weight))
	}
	return line
}

// valuesOf returns the values that Value returns for the hours of a card.
func valuesOf(t *testing.T, c []api.FadeMark) []*big.Rat {
	t.Helper()
	var line []*big.Rat
	for _, n := range hoursOf(c) {
		v, e := value(t, c, n)
		if e != api.OK {
			t.Fatal(c, n, e)
		}
		line = append(line, big.NewRat(v.Num, v.Den))
	}
	return line
}

func areEqual(a, b []*big.Rat) bool {
	return slices.EqualFunc(a, b, func(x, y *big.Rat) bool { return x.Cmp(y) == 0 })
}

// risingLines yields all lines with so many of some values, which rise.
func risingLines(values []*big.Rat, length int) iter.Seq[[]*big.Rat] {
	return func(yield func([]*big.Rat) bool) {
		if length == 0 {
			yield(nil)
			return
		}
		for l := range risingLines(values, length-1) {
			for _, v := range values {
				if len(l) > 0 && v.Cmp(l[len(l)-1]) < 0 {
					continue
				}
				if !yield(append(slices.Clone(l), v)) {
					return
				}
			}
		}
	}
}

// seeNearest sees to it that a line is nearer to a card than another one, which
// rises, unless both are the same.
func seeNearest(t *testing.T, c []api.FadeMark, line, other []*big.Rat) {
	t.Helper()
	n := distanceOf(c, line).Cmp(distanceOf(c, other))
	if n > 0 || n == 0 && !areEqual(line, other) {
		t.Error(c, line, other)
	}
}

// P8.7: no other rising line is as near as that of Pool, of all lines with halves
// and with means of the card as values.
func TestNearestOfAll(t *testing.T) {
	chance := rand.New(rand.NewSource(11))
	for range 120 {
		c := someCard(chance, 6, 4, 3, 3)
		hours := hoursOf(c)
		line := pooledLine(t, c)
		if !rises(line) {
			t.Error(c, line)
		}
		var values []*big.Rat
		for n := range int64(9) {
			values = append(values, big.NewRat(n-1, 2))
		}
		for from := range hours {
			for to := from; to < len(hours); to++ {
				values = append(values, meanOf(c, hours[from:to+1]))
			}
		}
		slices.SortFunc(values, (*big.Rat).Cmp)
		values = slices.CompactFunc(values, func(a, b *big.Rat) bool { return a.Cmp(b) == 0 })
		for other := range risingLines(values, len(hours)) {
			seeNearest(t, c, line, other)
		}
	}
}

// P8.7: no line near to that of Pool is nearer to the card.
func TestNearestOfNear(t *testing.T) {
	chance := rand.New(rand.NewSource(12))
	for _, c := range someCards(13, 300) {
		line := pooledLine(t, c)
		if !rises(line) || !areEqual(line, valuesOf(t, c)) {
			t.Error(c, line)
		}
		for i := range 20 {
			var other []*big.Rat
			for _, v := range line {
				d := big.NewRat(chance.Int63n(3)-1, []int64{1, 10, 1000, 1_000_000}[i%4])
				other = append(other, d.Add(d, v))
			}
			// One that rises again.
			slices.SortFunc(other, (*big.Rat).Cmp)
			seeNearest(t, c, line, other)
		}
	}
}

// P8.8: the value as it is told by the least and the greatest means.
func TestLeastAndGreatest(t *testing.T) {
	for _, c := range someCards(14, 300) {
		if line := lineOf(c); !areEqual(line, valuesOf(t, c)) || !areEqual(line, pooledLine(t, c)) {
			t.Error(c, line)
		}
	}
}

// seeSame sees to it that two cards have the same blocks, values, times and
// labels.
func seeSame(t *testing.T, c, other []api.FadeMark) {
	t.Helper()
	l, e := pool(t, c)
	if m, oe := pool(t, other); !slices.Equal(l, m) || e != api.OK || oe != api.OK {
		t.Error(c, other, l, m, e, oe)
	}
	if e := fade.CheckBlocks(other, l); e != api.OK {
		t.Error(c, other, l, e)
	}
	if !areEqual(valuesOf(t, c), valuesOf(t, other)) {
		t.Error(c, other)
	}
	for limit := int64(1); limit <= mostGrade; limit += 9 {
		x, _ := reach(t, c, limit)
		if y, e := reach(t, other, limit); x != y || e != api.OK {
			t.Error(c, other, limit, x, y, e)
		}
		one, _ := label(t, woolsC(), c, limit)
		if two, e := label(t, woolsC(), other, limit); one != two || e != api.OK {
			t.Error(c, other, limit, one, two, e)
		}
		one, _ = label(t, [][]api.FadeMark{c}, cardC(), limit)
		if two, e := label(t, [][]api.FadeMark{other}, cardC(), limit); one != two || e != api.OK {
			t.Error(c, other, limit, one, two, e)
		}
	}
}

// P8.9: the order of marks does not matter.
func TestMixed(t *testing.T) {
	chance := rand.New(rand.NewSource(15))
	for _, c := range someCards(16, 300) {
		other := slices.Clone(c)
		chance.Shuffle(len(other), func(i, j int) { other[i], other[j] = other[j], other[i] })
		seeSame(t, c, other)
		slices.Reverse(other)
		seeSame(t, c, other)
	}
}

// P8.9: a mark may be replaced by two with its Hours and Grade.
func TestParted(t *testing.T) {
	chance := rand.New(rand.NewSource(17))
	count := 0
	for _, c := range someCards(18, 500) {
		other := slices.Clone(c)
		for len(other) < mostMarks {
			i := chance.Intn(len(other))
			if other[i].Weight < 2 {
				break
			}
			part := other[i]
			part.Weight = 1 + chance.Int63n(part.Weight-1)
			other[i].Weight -= part.Weight
			other = slices.Insert(other, chance.Intn(len(other)+1), part)
			count++
		}
		seeSame(t, c, other)
	}
	if count < 500 {
		t.Error(count)
	}
}

// P8.9: if all grades are greater by as much, so are all values.
func TestRaised(t *testing.T) {
	chance := rand.New(rand.NewSource(19))
	for _, c := range someCards(20, 500) {
		most := int64(0)
		for _, m := range c {
			most = max(most, m.Grade)
		}
		by := chance.Int63n(mostGrade - most + 1)
		other := slices.Clone(c)
		for i := range other {
			other[i].Grade += by
		}
		want := valuesOf(t, c)
		for _, v := range want {
			v.Add(v, big.NewRat(by, 1))
		}
		if !areEqual(want, valuesOf(t, other)) {
			t.Error(c, by)
		}
		// The blocks are the same but for their sums.
		l, _ := pool(t, c)
		for i := range l {
			l[i].Sum += by * l[i].Weight
		}
		if m, e := pool(t, other); !slices.Equal(l, m) || e != api.OK {
			t.Error(c, by, l, m, e)
		}
	}
}

// P8.9: if some grade is greater, no value becomes less.
func TestOneGreater(t *testing.T) {
	chance := rand.New(rand.NewSource(21))
	count := 0
	for _, c := range someCards(22, 900) {
		other := slices.Clone(c)
		i := chance.Intn(len(other))
		other[i].Grade += chance.Int63n(mostGrade - other[i].Grade + 1)
		before, after := valuesOf(t, c), valuesOf(t, other)
		for i := range before {
			if after[i].Cmp(before[i]) < 0 {
				t.Error(c, other, before[i], after[i])
			}
		}
		if !areEqual(before, after) {
			count++
		}
		// So a limit is not reached later.
		limit := 1 + chance.Int63n(mostGrade)
		x, _ := reach(t, c, limit)
		if y, e := reach(t, other, limit); y.By > x.By || y.After > x.After || e != api.OK {
			t.Error(c, other, limit, x, y, e)
		}
	}
	if count < 300 {
		t.Error(count)
	}
}

// trueTime returns a time after After, and not after By: often one of the ends.
func trueTime(chance *rand.Rand, x api.FadeTime) int64 {
	switch chance.Intn(3) {
	case 0:
		return x.After + 1
	case 1:
		return x.By
	}
	return x.After + 1 + chance.Int63n(min(x.By-x.After, 2*mostHours))
}

// P8.10: whatever the true times are, the number of wools that do not reach the
// limit later than the shade is within the label, and some have each of its ends.
func TestLabelled(t *testing.T) {
	chance := rand.New(rand.NewSource(23))
	all := someCards(24, 300)
	ends := 0
	for range 900 {
		var wools [][]api.FadeMark
		for range 1 + chance.Intn(mostWools) {
			wools = append(wools, all[chance.Intn(len(all))])
		}
		c, limit := all[chance.Intn(len(all))], 1+chance.Int63n(9)
		x, e := label(t, wools, c, limit)
		if e != api.OK {
			t.Fatal(wools, c, limit, e)
		}
		least, most := int64(mostWools), int64(0)
		for range 60 {
			n := trueCount(t, chance, wools, c, limit)
			if n < x.Lo || n > x.Hi {
				t.Error(wools, c, limit, x, n)
			}
			least, most = min(least, n), max(most, n)
		}
		if least == x.Lo && most == x.Hi {
			ends++
		}
	}
	if ends < 300 {
		t.Error(ends)
	}
}

// trueCount returns how many wools do not reach a limit later than a shade, by
// some true times.
func trueCount(t *testing.T, chance *rand.Rand, wools [][]api.FadeMark, c []api.FadeMark, limit int64) int64 {
	t.Helper()
	x, e := reach(t, c, limit)
	if e != api.OK {
		t.Fatal(c, limit, e)
	}
	shade := trueTime(chance, x)
	n := int64(0)
	for _, wool := range wools {
		x, e := reach(t, wool, limit)
		if e != api.OK {
			t.Fatal(wool, limit, e)
		}
		if trueTime(chance, x) <= shade {
			n++
		}
	}
	return n
}
