package docket

import (
	"strconv"
	"strings"

	"lampblack/api"
)

// otherWords is how many words a line has beside those of the things: that of the
// kind, the Number, and A.
const otherWords = 3

// fileOf returns the file of a docket.
func fileOf(l []api.DocketCard) string {
	var file strings.Builder
	for _, c := range l {
		file.WriteString(kinds[c.Kind].word)
		writeNumbers(&file, c.Number)
		writeNumbers(&file, c.Things...)
		writeNumbers(&file, c.A)
		file.WriteString("\n")
	}
	return file.String()
}

// writeNumbers writes numbers, each one behind a space.
func writeNumbers(file *strings.Builder, numbers ...int64) {
	for _, n := range numbers {
		file.WriteString(" " + strconv.FormatInt(n, 10))
	}
}

// cardsOf returns the cards of a file, and whether it is a file of cards.
func cardsOf(file string) ([]api.DocketCard, bool) {
	var l []api.DocketCard
	rest := file
lines:
	for rest != "" {
		line, after, isEnded := strings.Cut(rest, "\n")
		words := strings.Split(line, " ")
		kind, isKind := kindOf(words[0])
		if !isEnded || !isKind || len(words) != kinds[kind].things+otherWords {
			break
		}
		var all []int64
		for _, word := range words[1:] {
			n, isNumber := numberOf(word)
			if !isNumber {
				break lines
			}
			all = append(all, n)
		}
		l = append(l, cardOf(kind, all))
		rest = after
	}
	return l, rest == ""
}

// kindOf returns the kind that has a word, and whether there is one.
func kindOf(word string) (int, bool) {
	for kind := api.DocketEnter; kind <= api.DocketClaim; kind++ {
		if kinds[kind].word == word {
			return kind, true
		}
	}
	return 0, false
}

// numberOf returns the number that a word says, and whether it is one that is
// written as Write does, with an amount that is allowed.
func numberOf(word string) (int64, bool) {
	n, err := strconv.ParseInt(word, 10, 64)
	return n, err == nil && strconv.FormatInt(n, 10) == word && areFrom(-api.MaxNumber, api.MaxNumber, n)
}

// cardOf returns the card of a kind with all numbers of its line, which it keeps.
func cardOf(kind int, all []int64) api.DocketCard {
	last := len(all) - 1
	return api.DocketCard{Number: all[0], Kind: kind, Things: all[1:last:last], A: all[last]}
}
