package panel_test

import (
	"math/rand"
	"slices"
	"testing"

	"lampblack/api"
	"lampblack/panel"
)

// The definitions of the chapter, as plainly as they can be written.

// says returns how many votes a judge has for a shade against another one.
func says(b api.PanelBook, judge, deeper, paler int) int {
	n := 0
	for _, v := range b.Votes {
		if v == vote(judge, deeper, paler) {
			n++
		}
	}
	return n
}

func slipsOf(b api.PanelBook) []int {
	slips := make([]int, b.Judges)
	for judge := range b.Judges {
		for one := range b.Shades {
			for other := one + 1; other < b.Shades; other++ {
				if says(b, judge, one, other) > 0 && says(b, judge, other, one) > 0 {
					slips[judge]++
				}
			}
		}
	}
	return slips
}

// wordsFor returns how many judges that count have their word for a shade.
func wordsFor(b api.PanelBook, slips []int, deeper, paler int) int {
	n := 0
	for judge := range b.Judges {
		if slips[judge] <= b.Slack && says(b, judge, deeper, paler) > 0 && says(b, judge, paler, deeper) == 0 {
			n++
		}
	}
	return n
}

// table tells of each two shades whether the first one beats the second one.
type table [][]bool

func newTable(shades int) table {
	x := make(table, shades)
	for shade := range x {
		x[shade] = make([]bool, shades)
	}
	return x
}

func winnersOf(b api.PanelBook) table {
	x, slips := newTable(b.Shades), slipsOf(b)
	for one := range b.Shades {
		for other := one + 1; other < b.Shades; other++ {
			if wordsFor(b, slips, other, one) > wordsFor(b, slips, one, other) {
				x[other][one] = true
			} else {
				x[one][other] = true
			}
		}
	}
	return x
}

func tableOf(d [][]int) table {
	x := newTable(len(d))
	for shade, beaten := range d {
		for _, other := range beaten {
			x[shade][other] = true
		}
	}
	return x
}

func (x table) lists() [][]int {
	d := make([][]int, len(x))
	for shade, beats := range x {
		for other, beaten := range beats {
			if beaten {
				d[shade] = append(d[shade], other)
			}
		}
	}
	return d
}

// areDuels reports whether none beats itself, and of each two just one the other.
func (x table) areDuels() bool {
	for one := range x {
		for other := range x {
			if one == other && x[one][one] || one != other && x[one][other] == x[other][one] {
				return false
			}
		}
	}
	return true
}

func winsOf(x table) []int {
	won := make([]int, len(x))
	for one := range x {
		for other := range x {
			if x[one][other] {
				won[one]++
			}
		}
	}
	return won
}

// circlesOf counts each circle from each of its shades.
func circlesOf(x table) int {
	n := 0
	for a := range x {
		for b := range x {
			for c := range x {
				if x[a][b] && x[b][c] && x[c][a] {
					n++
				}
			}
		}
	}
	return n / 3
}

func isOrder(x table, inOrder []int) bool {
	for i, shade := range inOrder {
		if i > 0 && !x[inOrder[i-1]][shade] {
			return false
		}
	}
	sorted := slices.Sorted(slices.Values(inOrder))
	return slices.Equal(sorted, allNumbers(len(x)))
}

// comesTo reports whether one comes from a shade to another one.
func comesTo(x table, from, to int) bool {
	seen := make([]bool, len(x))
	next := list(from)
	for len(next) > 0 {
		shade := next[0]
		next = next[1:]
		for other := range x {
			if x[shade][other] && !seen[other] {
				seen[other] = true
				next = append(next, other)
			}
		}
	}
	return seen[to]
}

func areOfOneGrade(x table, a, b int) bool { return a == b || comesTo(x, a, b) && comesTo(x, b, a) }

// areGrades reports whether lists are the grades.
func areGrades(x table, grades [][]int) bool {
	gradeOf := make([]int, len(x))
	for i, grade := range grades {
		if len(grade) == 0 || !slices.IsSorted(grade) {
			return false
		}
		for _, shade := range grade {
			gradeOf[shade] = i
		}
	}
	if all := slices.Sorted(slices.Values(slices.Concat(grades...))); !slices.Equal(all, allNumbers(len(x))) {
		return false
	}
	for a := range x {
		for b := range x {
			if areOfOneGrade(x, a, b) != (gradeOf[a] == gradeOf[b]) || gradeOf[a] < gradeOf[b] && !x[a][b] {
				return false
			}
		}
	}
	return true
}

func isShort(won, indexes []int) bool {
	sum, k := 0, len(indexes)
	for _, index := range indexes {
		sum += won[index]
	}
	return sum < k*(k-1)/2 || k == len(won) && sum != k*(k-1)/2
}

// allNumbers returns the numbers from 0 on below another one.
func allNumbers(n int) []int {
	numbers := make([]int, n)
	for i := range numbers {
		numbers[i] = i
	}
	return numbers
}

// allDuels yields all duels of some shades.
func allDuels(shades int) func(func(table) bool) {
	return func(yield func(table) bool) {
		for bits := range 1 << (shades * (shades - 1) / 2) {
			x := newTable(shades)
			for one := range shades {
				for other := one + 1; other < shades; other++ {
					x[one][other], x[other][one] = bits&1 == 0, bits&1 == 1
					bits /= 2
				}
			}
			if !yield(x) {
				return
			}
		}
	}
}

// allSubsets yields all strictly increasing lists of numbers below another one.
func allSubsets(n int) func(func([]int) bool) {
	return func(yield func([]int) bool) {
		for bits := range 1 << n {
			var subset []int
			for i := range n {
				if bits>>i&1 == 1 {
					subset = append(subset, i)
				}
			}
			if !yield(subset) {
				return
			}
		}
	}
}

// allLists yields all lists of n numbers from 0 on below another one.
func allLists(n, below int) func(func([]int) bool) {
	return func(yield func([]int) bool) {
		numbers := make([]int, n)
		for {
			if !yield(slices.Clone(numbers)) {
				return
			}
			i := n - 1
			for i >= 0 && numbers[i] == below-1 {
				numbers[i] = 0
				i--
			}
			if i < 0 {
				return
			}
			numbers[i]++
		}
	}
}

// someDuels returns random duels of all sizes: some of them with one upset or few
// only, which have many grades.
func someDuels(seed int64, n int) []table {
	chance := rand.New(rand.NewSource(seed))
	var all []table
	for range n {
		shades := 1 + chance.Intn(mostShades)
		x, upsets := newTable(shades), chance.Intn(6)
		place := chance.Perm(shades)
		for one := range shades {
			for other := range one {
				ahead := (place[one] < place[other]) != (chance.Intn(10) < upsets)
				x[one][other], x[other][one] = ahead, !ahead
			}
		}
		all = append(all, x)
	}
	return all
}

// someBooks returns random books of all sizes: with judges who agree more or less,
// and contradict themselves more or less often.
func someBooks(seed int64, n int) []api.PanelBook {
	chance := rand.New(rand.NewSource(seed))
	var all []api.PanelBook
	for range n {
		shades, judges := 1+chance.Intn(mostShades), 1+chance.Intn(mostJudges)
		if chance.Intn(2) == 0 {
			shades, judges = 1+chance.Intn(4), 1+chance.Intn(4)
		}
		b := book(shades, judges, chance.Intn(4))
		if chance.Intn(5) == 0 {
			b.Slack = chance.Intn(mostSlack + 1)
		}
		wrong := chance.Intn(6)
		for range chance.Intn(mostVotes + 1) {
			deeper, paler := chance.Intn(shades), chance.Intn(shades)
			if deeper > paler && chance.Intn(10) >= wrong {
				deeper, paler = paler, deeper
			}
			if deeper != paler {
				b.Votes = append(b.Votes, vote(chance.Intn(judges), deeper, paler))
			}
		}
		all = append(all, b)
	}
	return all
}

func checkJudged(t *testing.T, b api.PanelBook) {
	t.Helper()
	s, e := slips(t, b)
	if want := slipsOf(b); !slices.Equal(s, want) || e != api.OK || panel.CheckBook(b) != api.OK {
		t.Error(b, s, e, want)
	}
	d, e := duels(t, b)
	if want := winnersOf(b).lists(); !equalLists(d, want) || e != api.OK || panel.CheckDuels(d) != api.OK {
		t.Error(b, d, e, want)
	}
}

// P11.1: all lists of up to four votes, of two judges on two shades and of one
// judge on three.
func TestSmallBooks(t *testing.T) {
	two := []api.PanelVote{vote(0, 0, 1), vote(0, 1, 0), vote(1, 0, 1), vote(1, 1, 0)}
	three := []api.PanelVote{vote(0, 0, 1), vote(0, 1, 0), vote(0, 0, 2), vote(0, 2, 0), vote(0, 1, 2), vote(0, 2, 1)}
	for n := range 5 {
		for slack := range 3 {
			for numbers := range allLists(n, len(two)) {
				checkJudged(t, book(2, 2, slack, chosen(two, numbers)...))
			}
			for numbers := range allLists(n, len(three)) {
				checkJudged(t, book(3, 1, slack, chosen(three, numbers)...))
			}
		}
	}
}

func chosen[T any](from []T, numbers []int) []T {
	var some []T
	for _, n := range numbers {
		some = append(some, from[n])
	}
	return some
}

// P11.1: random books of all sizes.
func TestSomeBooks(t *testing.T) {
	var slipped, left, upset, even int
	for _, b := range someBooks(1, 4000) {
		checkJudged(t, b)
		s := slipsOf(b)
		if slices.Max(s) > 0 {
			slipped++
		}
		if slices.Max(s) > b.Slack {
			left++
		}
		for one := range b.Shades {
			for other := range one {
				greater, lesser := wordsFor(b, s, one, other), wordsFor(b, s, other, one)
				if greater > lesser {
					upset++
				}
				if greater == lesser && greater > 0 {
					even++
				}
			}
		}
	}
	if min(slipped, left, upset, even) < 500 {
		t.Error(slipped, left, upset, even)
	}
}

func checkDuelCalls(t *testing.T, x table) {
	t.Helper()
	d := x.lists()
	if e := panel.CheckDuels(d); e != api.OK {
		t.Error(d, e)
	}
	if w, e := wins(t, d); !slices.Equal(w, winsOf(x)) || e != api.OK {
		t.Error(d, w, e)
	}
	if n, e := circles(t, d); n != circlesOf(x) || e != api.OK {
		t.Error(d, n, e)
	}
	o, e := order(t, d)
	if !isOrder(x, o) || e != api.OK || panel.CheckOrder(d, o) != api.OK {
		t.Error(d, o, e)
	}
	if g, e := grades(t, d); !areGrades(x, g) || e != api.OK {
		t.Error(d, g, e)
	}
}

// P11.2, P11.3, P11.4: all duels of up to six shades.
func TestSmallDuels(t *testing.T) {
	for shades := 1; shades <= 6; shades++ {
		for x := range allDuels(shades) {
			checkDuelCalls(t, x)
		}
	}
}

// P11.2, P11.3, P11.4: random duels of all sizes.
func TestSomeDuels(t *testing.T) {
	var several, one int
	for _, x := range someDuels(2, 3000) {
		checkDuelCalls(t, x)
		if g, _ := grades(t, x.lists()); len(g) > 1 && len(g) < len(x) {
			several++
		} else if len(g) == 1 && len(x) > 5 {
			one++
		}
	}
	if min(several, one) < 300 {
		t.Error(several, one)
	}
}

// P11.2: all tables of up to three shades, in which a shade may beat itself, and
// two each other, or neither; and all random duels with one duel changed.
func TestCheckDuelsByDefinition(t *testing.T) {
	var settled, not int
	check := func(x table) {
		want := api.OK
		if !x.areDuels() {
			want = api.ErrRule
			not++
		} else {
			settled++
		}
		if e := panel.CheckDuels(x.lists()); e != want {
			t.Error(x, e)
		}
	}
	for shades := 1; shades <= 3; shades++ {
		for places := range allSubsets(shades * shades) {
			x := newTable(shades)
			for _, place := range places {
				x[place/shades][place%shades] = true
			}
			check(x)
		}
	}
	for _, x := range someDuels(3, 100) {
		for one := range x {
			for other := range x {
				x[one][other] = !x[one][other]
				check(x)
				x[one][other] = !x[one][other]
			}
		}
		check(x)
	}
	if settled != 1+2+8+100 || not < 1000 {
		t.Error(settled, not)
	}
}

// P11.2: all lists of up to three numbers, as what the first of three shades beats.
func TestRisingLists(t *testing.T) {
	for n := range 4 {
		for numbers := range allLists(n, 6) {
			isRising := true
			for i := range numbers {
				numbers[i]--
				isRising = isRising && numbers[i] >= 0 && numbers[i] <= 2 && (i == 0 || numbers[i-1] < numbers[i])
			}
			for _, d := range [][][]int{lists(numbers, nil, nil), lists(nil, numbers, list(0, 2)), lists(nil, list(0), numbers)} {
				if e := panel.CheckDuels(d); (e == api.ErrRange) == isRising {
					t.Error(d, e)
				}
			}
		}
	}
}

// P11.3: all lists of as many numbers as there are shades, of all duels of up to
// four.
func TestCheckOrderByDefinition(t *testing.T) {
	for shades := 1; shades <= 4; shades++ {
		for x := range allDuels(shades) {
			d := x.lists()
			for numbers := range allLists(shades, shades+1) {
				want := api.OK
				if !slices.Equal(slices.Sorted(slices.Values(numbers)), allNumbers(shades)) {
					want = api.ErrRange
				} else if !isOrder(x, numbers) {
					want = api.ErrRule
				}
				if e := panel.CheckOrder(d, numbers); e != want {
					t.Error(d, numbers, e)
				}
			}
		}
	}
}

// P11.3: of random duels, orders with two shades that changed places.
func TestChangedOrders(t *testing.T) {
	var right, wrong int
	for _, x := range someDuels(4, 1500) {
		d := x.lists()
		o, _ := order(t, d)
		for i := range o {
			for j := range i {
				o[i], o[j] = o[j], o[i]
				e := panel.CheckOrder(d, o)
				if isOrder(x, o) != (e == api.OK) || e != api.OK && e != api.ErrRule {
					t.Error(d, o, e)
				}
				if e == api.OK {
					right++
				} else {
					wrong++
				}
				o[i], o[j] = o[j], o[i]
			}
		}
	}
	if min(right, wrong) < 300 {
		t.Error(right, wrong)
	}
}

// checkWins compares Possible and Short with whether a list is known to be possible.
func checkWins(t *testing.T, won []int, isPossible bool) {
	t.Helper()
	d, e := possible(t, won)
	if isPossible && (e != api.OK || panel.CheckDuels(d) != api.OK || !slices.Equal(winsOf(tableOf(d)), won)) || !isPossible && e != api.ErrPlan {
		t.Error(won, d, e)
	}
	indexes, e := short(t, won)
	if isPossible && e != api.ErrNone || !isPossible && (e != api.OK || !areRising(indexes) || !isShort(won, indexes)) {
		t.Error(won, indexes, e)
	}
}

func areRising(numbers []int) bool {
	return slices.IsSorted(numbers) && len(slices.Compact(slices.Clone(numbers))) == len(numbers)
}

// P11.5: all lists of up to five numbers, of which those are possible that are the
// wins of some duels.
func TestSmallWins(t *testing.T) {
	for shades := 1; shades <= 5; shades++ {
		known := map[[5]int]bool{}
		for x := range allDuels(shades) {
			known[five(winsOf(x))] = true
		}
		below := mostShades
		if shades == 5 {
			below = 6
		}
		for won := range allLists(shades, below) {
			checkWins(t, won, known[five(won)])
		}
	}
}

// five returns up to five numbers, filled up with 0.
func five(numbers []int) [5]int {
	var all [5]int
	copy(all[:], numbers)
	return all
}

// P11.5: the wins of random duels of all sizes, and those with one win more, less,
// or given to another shade, which are possible if they are short nowhere.
func TestSomeWins(t *testing.T) {
	var possibles, not int
	chance := rand.New(rand.NewSource(5))
	for _, x := range someDuels(6, 600) {
		won := winsOf(x)
		checkWins(t, won, true)
		for range 4 {
			more, less := chance.Intn(len(won)), chance.Intn(len(won))
			near := slices.Clone(won)
			if chance.Intn(4) > 0 {
				near[more] = min(near[more]+1, mostShades-1)
			}
			if chance.Intn(4) > 0 {
				near[less] = max(near[less]-1, 0)
			}
			isPossible := true
			for indexes := range allSubsets(len(near)) {
				isPossible = isPossible && !isShort(near, indexes)
			}
			checkWins(t, near, isPossible)
			if isPossible {
				possibles++
			} else {
				not++
			}
		}
	}
	if min(possibles, not) < 300 {
		t.Error(possibles, not)
	}
}

// P11.5: all lists of ten numbers that do not fall, in some order: each is either
// possible or short.
func TestTenWins(t *testing.T) {
	chance := rand.New(rand.NewSource(7))
	var possibles, not int
	var grow func(won []int)
	grow = func(won []int) {
		if len(won) < mostShades {
			for n := slices.Max(append(list(0), won...)); n < mostShades; n++ {
				grow(append(won, n))
			}
			return
		}
		sum, isPossible := 0, true
		for k, n := range won {
			sum += n
			isPossible = isPossible && sum >= (k+1)*k/2
		}
		isPossible = isPossible && sum == mostSlack
		if isPossible {
			possibles++
		} else {
			not++
		}
		mixed := slices.Clone(won)
		chance.Shuffle(len(mixed), func(i, j int) { mixed[i], mixed[j] = mixed[j], mixed[i] })
		checkWins(t, mixed, isPossible)
	}
	grow(make([]int, 0, mostShades))
	if possibles != 1486 || possibles+not != 92378 {
		t.Error(possibles, not)
	}
}

// P11.5: all lists of up to four numbers at all indexes, and random ones of all
// sizes at random indexes.
func TestCheckShortByDefinition(t *testing.T) {
	var right, wrong int
	check := func(won, indexes []int) {
		want := api.ErrSum
		if isShort(won, indexes) {
			want = api.OK
			right++
		} else {
			wrong++
		}
		if e := panel.CheckShort(won, indexes); e != want {
			t.Error(won, indexes, e)
		}
	}
	for n := 1; n <= 4; n++ {
		for won := range allLists(n, 6) {
			for indexes := range allSubsets(n) {
				check(won, indexes)
			}
		}
	}
	chance := rand.New(rand.NewSource(8))
	for range 300 {
		won := make([]int, 1+chance.Intn(mostShades))
		for i := range won {
			won[i] = min(chance.Intn(mostShades), chance.Intn(mostShades))
		}
		for indexes := range allSubsets(len(won)) {
			check(won, indexes)
		}
	}
	if min(right, wrong) < 3000 {
		t.Error(right, wrong)
	}
}
