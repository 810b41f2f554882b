package voice

import (
	"cmp"
	"iter"
	"slices"

	"decani/api"
)

// choir is a valid book that is calculated with, and its trials by boy and week.
type choir struct {
	api.VoiceBook
	tried map[when][]api.VoiceTrial
}

func newChoir(b api.VoiceBook) choir {
	c := choir{b, map[when][]api.VoiceTrial{}}
	for _, trial := range b.Trials {
		at := when{trial.Boy, trial.Week}
		c.tried[at] = append(c.tried[at], trial)
	}
	return c
}

// open returns the choir of a book, or the first error: that of the book, of what is asked, or of its trials.
func open(b api.VoiceBook, asked bool) (choir, api.Errno) {
	if e := Check(b); e != api.OK {
		return choir{}, e
	}
	if !asked {
		return choir{}, api.ErrVoiceAsk
	}
	c := newChoir(b)
	if !c.canBeTrue() {
		return choir{}, api.ErrVoiceFalse
	}
	return c, api.OK
}

// truths produces all truths of a boy in which all trials of the boy are right.
func (c choir) truths(boy int) iter.Seq[truth] {
	return func(yield func(truth) bool) {
		t := truth{choir: c, boy: boy}
		spans := known(c.Boys[boy])
		var choose func(which int) bool
		choose = func(which int) bool {
			if which == count {
				return !t.keeps() || yield(t)
			}
			span := spans[which]
		chosen:
			for more := range span.High - span.Low + 1 {
				t.numbers[which] = span.Low + more
				for _, trial := range c.Trials {
					if t.forbids(trial, which) {
						continue chosen
					}
				}
				if !choose(which + 1) {
					return false
				}
			}
			return true
		}
		choose(0)
	}
}

// first returns the numbers of a boy in the first truth, or nothing.
func (c choir) first(boy int) numbers {
	for t := range c.truths(boy) {
		return t.numbers
	}
	return nothing
}

// canBeTrue reports whether there is a truth of each boy.
func (c choir) canBeTrue() bool {
	for boy := range c.Boys {
		if c.first(boy) == nothing {
			return false
		}
	}
	return true
}

// with returns the choir of the book with one trial more. The trials are those of an argument: the third index makes append copy them.
func (c choir) with(trial api.VoiceTrial) choir {
	b, n := c.VoiceBook, len(c.Trials)
	b.Trials = append(b.Trials[:n:n], trial)
	return newChoir(b)
}

// untried returns the choir of the book without trials.
func (c choir) untried() choir {
	b := c.VoiceBook
	b.Trials = nil
	return newChoir(b)
}

// wrong returns the first of the shortest lists of trials without which the book can be true. Each boy adds the own ones, since trials of one boy say nothing of another one.
func (c choir) wrong() []int {
	var wrong []int
	for boy := range c.Boys {
		wrong = append(wrong, c.wrongOf(boy)...)
	}
	slices.Sort(wrong)
	return wrong
}

// wrongOf returns the first of the shortest lists of trials of a boy that some truth belies: without these alone that truth is one of the book.
func (c choir) wrongOf(boy int) []int {
	var lists [][]int
	for t := range c.untried().truths(boy) {
		lists = append(lists, c.belied(t))
	}
	return slices.MinFunc(lists, func(one, other []int) int {
		return cmp.Or(cmp.Compare(len(one), len(other)), slices.Compare(one, other))
	})
}

// belied returns the numbers of all trials of its boy that a truth belies, increasing.
func (c choir) belied(t truth) []int {
	var belied []int
	for i, trial := range c.Trials {
		if trial.Boy == t.boy && t.belies(trial) {
			belied = append(belied, i)
		}
	}
	return belied
}

// least returns the least of several numbers.
func least[N cmp.Ordered](n N, more ...N) N {
	for _, m := range more {
		if m < n {
			n = m
		}
	}
	return n
}
