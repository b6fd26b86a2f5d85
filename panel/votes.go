package panel

import (
	"iter"

	"lampblack/api"
)

// pair is two shades, the first of which is called the deeper one.
type pair struct {
	deeper, paler int
}

// turned returns a pair with the other shade called the deeper one.
func (p pair) turned() pair { return pair{p.paler, p.deeper} }

// pairs yields all pairs of shades, each with the lesser number first.
func pairs(shades int) iter.Seq[pair] {
	return func(yield func(pair) bool) {
		for paler := range shades {
			for deeper := range paler {
				if !yield(pair{deeper, paler}) {
					return
				}
			}
		}
	}
}

// words is what a judge says. As a map it has a vote once, however often it is in
// the book, and does not know the order of votes.
type words map[pair]bool

// wordsOf returns what a judge says by all of its votes.
func wordsOf(judge int, b api.PanelBook) words {
	w := words{}
	for _, v := range b.Votes {
		if v.Judge == judge {
			w[pair{v.Deeper, v.Paler}] = true
		}
	}
	return w
}

// dropSlips leaves only the words of a judge, and returns on how many pairs it
// slips.
func (w words) dropSlips(shades int) int {
	dropped := 0
	for p := range pairs(shades) {
		if w[p] && w[p.turned()] {
			delete(w, p)
			delete(w, p.turned())
			dropped++
		}
	}
	return dropped
}

// slips returns on how many pairs each judge of a book slips.
func slips(b api.PanelBook) []int {
	all := make([]int, b.Judges)
	for judge := range all {
		all[judge] = wordsOf(judge, b).dropSlips(b.Shades)
	}
	return all
}

// judged is a book with its duels.
type judged struct {
	api.PanelBook
	duels
}

// newJudged returns a valid book with its duels.
func newJudged(b api.PanelBook) judged {
	j := judged{b, duels{shades: b.Shades}}
	counted := j.counted()
	for p := range pairs(j.Shades) {
		// As many words for both are for the lesser number, which p has first.
		winner := p
		if heard(p.turned(), counted) > heard(p, counted) {
			winner = p.turned()
		}
		j.beats[winner.deeper][winner.paler] = true
	}
	return j
}

// counted returns the words of the judges that count.
func (j judged) counted() []words {
	var all []words
	for judge := range j.Judges {
		w := wordsOf(judge, j.PanelBook)
		if w.dropSlips(j.Shades) <= j.Slack {
			all = append(all, w)
		}
	}
	return all
}

// heard returns how many judges have their word for the first shade of a pair.
func heard(p pair, all []words) int {
	n := 0
	for _, w := range all {
		if w[p] {
			n++
		}
	}
	return n
}
