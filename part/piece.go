package part

import (
	"cmp"
	"iter"
	"slices"

	"decani/api"
)

// piece is a valid book that is calculated with, and which of its copies are left out.
type piece struct {
	api.PartBook
	leftOut func(number int) bool
}

// newPiece leaves no copy out.
func newPiece(b api.PartBook) piece { return piece{b, func(int) bool { return false }} }

// open returns the piece of a book, or the first error: that of the book, of what is asked, or of its copies.
func open(b api.PartBook, asked bool) (piece, api.Errno) {
	if e := Check(b); e != api.OK {
		return piece{}, e
	}
	if !asked {
		return piece{}, api.ErrPartAsk
	}
	p := newPiece(b)
	if !p.canBeTrue() {
		return piece{}, api.ErrPartFalse
	}
	return p, api.OK
}

// without returns the piece without some of its copies.
func (p piece) without(leftOut func(number int) bool) piece {
	p.leftOut = leftOut
	return p
}

// with returns the piece with one copy more. The copies are those of an argument: the third index makes append copy them.
func (p piece) with(c api.PartCopy) piece {
	n := len(p.Copies)
	p.Copies = append(p.Copies[:n:n], c)
	return p
}

// kept returns all copies that are not left out.
func (p piece) kept() []api.PartCopy {
	var kept []api.PartCopy
	for i, c := range p.Copies {
		if !p.leftOut(i) {
			kept = append(kept, c)
		}
	}
	return kept
}

// places produces all places, voice by voice, note by note.
func (p piece) places() iter.Seq[place] {
	return func(yield func(place) bool) {
		for voice := range p.Voices {
			for note := range p.Notes {
				if !yield(place{voice, note}) {
					return
				}
			}
		}
	}
}

// truths produces all truths in which all copies are right that are not left out.
func (p piece) truths() iter.Seq[truth] {
	rules := [...]func(p piece, t truth, at place) bool{
		piece.stepsTooFar,
		piece.makesNoChord,
		piece.goesOnAlike,
	}
	return func(yield func(truth) bool) {
		copies := p.kept()
		t := truth{silence, silence, silence}
		var write func(at place) bool
		write = func(at place) bool {
			if at.note == p.Notes {
				at = place{at.voice + 1, 0}
			}
			if at.voice == len(p.Voices) {
				return slices.ContainsFunc(copies, t.belies) || yield(t)
			}
			span := p.Voices[at.voice]
		written:
			for higher := range span.High - span.Low + 1 {
				t[at.note][at.voice] = span.Low + higher
				for _, forbids := range rules {
					if forbids(p, t, at) {
						continue written
					}
				}
				if !write(place{at.voice, at.note + 1}) {
					return false
				}
			}
			return true
		}
		write(place{0, 0})
	}
}

// stepsTooFar reports whether a voice goes on to a place by more than the step.
func (p piece) stepsTooFar(t truth, at place) bool {
	was := t.before(at.note)
	return was != silence && !isIn(t.sung(at)-was[at.voice], -p.Step, p.Step)
}

// makesNoChord reports whether the interval at a place, from the voice below, is not one that there can be.
func (p piece) makesNoChord(t truth, at place) bool {
	return at.voice > 0 && !has(p.Chords, t[at.note].interval(at.voice))
}

// goesOnAlike reports whether a voice and the one below it go on, to a place, by a perfect interval.
func (p piece) goesOnAlike(t truth, at place) bool {
	was, is := t.before(at.note), t[at.note]
	if was == silence || at.voice == 0 || was[at.voice] == is[at.voice] {
		return false
	}
	interval := is.interval(at.voice)
	return was.interval(at.voice) == interval && has(p.Perfect, interval)
}

// has reports whether an interval is in a set: one that is too wide is not, nor is that of a voice that is above the next one.
func has(set, interval int) bool { return isIn(interval, 0, api.PartStep) && set>>interval&1 == 1 }

// first returns what is sung at the first note in the first truth, or silence.
func (p piece) first() chord {
	for t := range p.truths() {
		return t[0]
	}
	return silence
}

func (p piece) canBeTrue() bool { return p.first() != silence }

// ways returns how many truths there are.
func (p piece) ways() int {
	ways := 0
	for range p.truths() {
		ways++
	}
	return ways
}

// wrong returns the first of the shortest lists of copies that some truth belies, and whether there is one: without these alone that truth is one of the book.
func (p piece) wrong() ([]int, bool) {
	var lists [][]int
	for t := range p.without(func(int) bool { return true }).truths() {
		lists = append(lists, t.belied(p.Copies))
	}
	if len(lists) == 0 {
		return nil, false
	}
	return slices.MinFunc(lists, func(one, other []int) int {
		return cmp.Or(cmp.Compare(len(one), len(other)), slices.Compare(one, other))
	}), true
}

// bar returns the first note at which a copy has another one than its voice in each truth, and whether there is one.
func (p piece) bar(c api.PartCopy) (int, bool) {
	for note := range p.Notes {
		if p.isFalse(c, note) {
			return note, true
		}
	}
	return 0, false
}

// isFalse reports whether a copy has another note than its voice in each truth.
func (p piece) isFalse(c api.PartCopy, note int) bool {
	for t := range p.truths() {
		if !t.differs(c, note) {
			return false
		}
	}
	return true
}
