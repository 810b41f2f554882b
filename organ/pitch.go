package organ

import (
	"cmp"

	"decani/api"
)

// two is a pipe, and one that is held against it.
type two struct{ from, to int }

func (t two) turned() two { return two{t.to, t.from} }

// heights are how high all pipes are at most.
type heights [api.OrganPipes]int

// below is lower than a pipe can be.
const below = -api.OrganSharp - 1

// nothing stands for the heights of pipes of which there is no truth.
var nothing = heights{below, below, below, below, below}

// semitone is a semitone in tenths of one.
const semitone = 10

// down returns tenths in whole semitones, rounded down. Division rounds towards 0, which is up for what is below 0.
func down(tenths int) int {
	whole := tenths / semitone
	if whole*semitone > tenths {
		whole--
	}
	return whole
}

// up returns tenths in whole semitones, rounded up.
func up(tenths int) int { return -down(-tenths) }

// least returns the least of several numbers.
func least[N cmp.Ordered](n N, more ...N) N {
	for _, m := range more {
		if m < n {
			n = m
		}
	}
	return n
}
