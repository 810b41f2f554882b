package voice

import (
	"slices"

	"decani/api"
)

// Which number of a truth is meant.
const (
	low = iota
	high
	gain
	turn
	breaks
	count
)

// numbers are those of one boy in a truth.
type numbers [count]int

// nothing stands for the numbers of a boy of whom there is no truth.
var nothing = numbers{-1, -1, -1, -1, -1}

// known returns what is known of each number of a truth.
func known(boy api.VoiceBoy) [count]api.Span {
	return [...]api.Span{low: boy.Low, high: boy.High, gain: boy.Gain, turn: boy.Turn, breaks: boy.Break}
}

// when is a boy and a week.
type when struct{ boy, week int }

// truth is what may be so of one boy: a truth of a book is one of each boy, since no boy's numbers say anything of another one's.
type truth struct {
	choir
	boy int
	numbers
}

func (t truth) isBroken(week int) bool { return week >= t.numbers[breaks] }

// highest returns the highest note of a week in which the voice is not broken.
func (t truth) highest(week int) int {
	rising := least(week, t.numbers[turn])
	return t.numbers[high] + rising*t.numbers[gain] - (week-rising)*t.Boys[t.boy].Loss
}

// sings reports whether the boy can sing all of these notes.
func (t truth) sings(week int, notes api.Span) bool {
	return !t.isBroken(week) && t.numbers[low] <= notes.Low && notes.High <= t.highest(week)
}

// belies reports whether a trial of this boy is not right.
func (t truth) belies(trial api.VoiceTrial) bool {
	return t.sings(trial.Week, just(trial.Note)) != (trial.Sang == 1)
}

// keeps reports whether all trials of this boy are right.
func (t truth) keeps() bool {
	for week := range t.Weeks {
		if slices.ContainsFunc(t.tried[when{t.boy, week}], t.belies) {
			return false
		}
	}
	return true
}

// forbids reports whether a trial cannot be right with this number, whatever the other ones are: nobody sings below the lowest note, nor with a broken voice.
func (t truth) forbids(trial api.VoiceTrial, which int) bool {
	if trial.Boy != t.boy || trial.Sang == 0 {
		return false
	}
	return which == low && trial.Note < t.numbers[low] || which == breaks && t.isBroken(trial.Week)
}

// just returns the span of a single number.
func just(n int) api.Span { return api.Span{Low: n, High: n} }
