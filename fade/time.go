package fade

import (
	"slices"

	"lampblack/api"
)

// timeOf returns when a valid card reaches a limit.
func timeOf(c []api.FadeMark, limit int64) api.FadeTime {
	isReached := func(b block) bool { return b.Sum >= limit*b.Weight }
	blocks := line(c)
	first := slices.IndexFunc(blocks, isReached)
	if first < 0 {
		return api.FadeTime{After: blocks[len(blocks)-1].To, By: api.FadeNever}
	}
	t := api.FadeTime{By: blocks[first].From}
	if first > 0 {
		t.After = blocks[first-1].To
	}
	return t
}

// isSurelyAsFast reports whether a shade surely does not fade before a wool does.
func isSurelyAsFast(shade, wool api.FadeTime) bool {
	return wool.By <= shade.After && wool.By != api.FadeNever
}

// canBeAsFast reports whether a shade can be one that does not fade before a wool
// does.
func canBeAsFast(shade, wool api.FadeTime) bool {
	return wool.After < shade.By
}
