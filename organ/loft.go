package organ

import (
	"cmp"
	"iter"
	"slices"

	"decani/api"
	"decani/voice"
)

// loft is a valid book that is calculated with, and by how much a pipe is higher than another one at most. One pipe more, the town's, is exactly as high as it should be: what is told of it is told of the town's pitch.
type loft struct {
	api.OrganBook
	bounds map[two]int
}

func newLoft(b api.OrganBook) loft {
	l := loft{b, map[two]int{}}
	for tune := range l.tunings() {
		at := two{tune.From, tune.To}
		l.bind(at, tune.Error+tune.Off)
		l.bind(at.turned(), tune.Error-tune.Off)
	}
	// Once each pipe was gone by, no bound can be less: what follows from tunings by any way is known.
	for by := range l.Pipes + 1 {
		for from := range l.Pipes + 1 {
			for to := range l.Pipes + 1 {
				l.bind(two{from, to}, l.atMost(two{from, by})+l.atMost(two{by, to}))
			}
		}
	}
	return l
}

// open returns the loft of a book, or the first error: that of the book, of what is asked, or of what cannot all be right.
func open(b api.OrganBook, asked bool) (loft, api.Errno) {
	if e := Check(b); e != api.OK {
		return loft{}, e
	}
	if !asked {
		return loft{}, api.ErrOrganAsk
	}
	l := newLoft(b)
	if !l.canBeTrue() || !l.voicesCanBeTrue() {
		return loft{}, api.ErrOrganFalse
	}
	return l, api.OK
}

// town returns the number of the town's pipe.
func (l loft) town() int { return l.Pipes }

// tunings produces all that is known of pipes. How far a pipe can be from the town's, and what a fork says, are like tunings from the town's pipe.
func (l loft) tunings() iter.Seq[api.OrganTune] {
	return func(yield func(api.OrganTune) bool) {
		for pipe := range l.Pipes {
			if !yield(api.OrganTune{From: l.town(), To: pipe, Error: api.OrganSharp}) {
				return
			}
		}
		for _, fork := range l.Forks {
			if !yield(api.OrganTune{From: l.town(), To: fork.Pipe, Off: fork.Read, Error: fork.Error}) {
				return
			}
		}
		for _, tune := range l.Tunes {
			if !yield(tune) {
				return
			}
		}
	}
}

// bind keeps by how much a pipe is higher than another one at most, if less is not known.
func (l loft) bind(at two, most int) {
	l.bounds[at] = least(most, l.atMost(at))
}

// atMost returns by how much a pipe is higher than another one at most. It is below 0 for a pipe and itself where not all can be right.
func (l loft) atMost(at two) int {
	if most, known := l.bounds[at]; known {
		return most
	}
	if at == at.turned() {
		return 0
	}
	return 2 * api.OrganSharp
}

// atLeast returns by how much a pipe is higher than another one at least.
func (l loft) atLeast(at two) int { return -l.atMost(at.turned()) }

// apart returns by how much a pipe is higher than another one, at least and at most. Both can be so: whole bounds of differences leave whole numbers.
func (l loft) apart(at two) api.Span {
	table := [...]func(l loft, at two) int{loft.atLeast, loft.atMost}
	var ends [len(table)]int
	for end, tells := range table {
		ends[end] = tells(l, at)
	}
	return api.Span{Low: ends[0], High: ends[1]}
}

// pitch returns by how much a pipe is higher than the town's, at least and at most.
func (l loft) pitch(pipe int) api.Span { return l.apart(two{l.town(), pipe}) }

// highest returns how high all pipes are at most, or nothing: where not all can be right some pipe would be lower than itself.
func (l loft) highest() heights {
	var highest heights
	for pipe := range l.Pipes {
		if l.atMost(two{pipe, pipe}) < 0 {
			return nothing
		}
		highest[pipe] = l.pitch(pipe).High
	}
	return highest
}

// canBeTrue reports whether there is a truth in which all tunings are right.
func (l loft) canBeTrue() bool { return l.highest() != nothing }

// voicesCanBeTrue reports whether all trials of boys can be right.
func (l loft) voicesCanBeTrue() bool {
	right, _ := voice.Right(l.Voice)
	return right
}

// sharp returns by how many semitones the organ is sharp, at least and at most.
func (l loft) sharp() api.Span {
	highest := l.highest()
	lowest := l.pitch(0).Low
	for pipe := range l.Pipes {
		lowest = least(lowest, l.pitch(pipe).Low)
	}
	return api.Span{Low: down(lowest), High: up(slices.Max(highest[:l.Pipes]))}
}

// with returns the loft of the book with one tuning more. The tunings are those of an argument: the third index makes append copy them.
func (l loft) with(tune api.OrganTune) loft {
	b, n := l.OrganBook, len(l.Tunes)
	b.Tunes = append(b.Tunes[:n:n], tune)
	return newLoft(b)
}

// without returns the loft of the book without some tunings.
func (l loft) without(out []int) loft {
	b := l.OrganBook
	b.Tunes = nil
	for i, tune := range l.Tunes {
		if !slices.Contains(out, i) {
			b.Tunes = append(b.Tunes, tune)
		}
	}
	return newLoft(b)
}

// wrong returns the first of the shortest lists of tunings without which there is a truth, and whether there is such a list.
func (l loft) wrong() ([]int, bool) {
	var lists [][]int
	var leave func(out []int, next int)
	leave = func(out []int, next int) {
		if l.without(out).canBeTrue() {
			lists = append(lists, out)
			return
		}
		n := len(out)
		for tune := next; tune < len(l.Tunes); tune++ {
			leave(append(out[:n:n], tune), tune+1)
		}
	}
	leave(nil, 0)
	if len(lists) == 0 {
		return nil, false
	}
	return slices.MinFunc(lists, func(one, other []int) int {
		return cmp.Or(cmp.Compare(len(one), len(other)), slices.Compare(one, other))
	}), true
}
