package part

import (
	"cmp"
	"iter"

	"decani/api"
)

// tally is in how many truths each note is at a place.
type tally [api.PartHigh + 1]int

// notes returns all notes that there are, increasing.
func (t tally) notes() []int {
	var notes []int
	for note, ways := range t {
		if ways > 0 {
			notes = append(notes, note)
		}
	}
	return notes
}

// worst returns how many ways are left, at the worst, once the note is known.
func (t tally) worst() int { return greatest(t[0], t[1:]...) }

// survey is a piece with truths, and the tally of each place.
type survey struct {
	piece
	tallies map[place]*tally
}

func newSurvey(p piece) survey {
	s := survey{p, map[place]*tally{}}
	for at := range p.places() {
		s.tallies[at] = &tally{}
	}
	for t := range p.truths() {
		for at := range p.places() {
			s.tallies[at][t.sung(at)]++
		}
	}
	return s
}

// line returns the one line of a voice, and whether there is one.
func (s survey) line(voice int) ([]int, bool) {
	var line []int
	for note := range s.Notes {
		notes := s.tallies[place{voice, note}].notes()
		if len(notes) > 1 {
			return nil, false
		}
		line = append(line, notes...)
	}
	return line, true
}

// unknown produces all places at which not all truths have the same note, voice by voice, note by note.
func (s survey) unknown() iter.Seq[place] {
	return func(yield func(place) bool) {
		for at := range s.places() {
			if len(s.tallies[at].notes()) > 1 && !yield(at) {
				return
			}
		}
	}
}

// firstUnknown returns the first unknown place, or nowhere.
func (s survey) firstUnknown() place {
	for at := range s.unknown() {
		return at
	}
	return nowhere
}

// bestUnknown returns the first of the unknown places that it is best to look up, or nowhere.
func (s survey) bestUnknown() place {
	best := nowhere
	for at := range s.unknown() {
		if best == nowhere || s.tallies[at].worst() < s.tallies[best].worst() {
			best = at
		}
	}
	return best
}

// greatest returns the greatest of several numbers.
func greatest[N cmp.Ordered](n N, more ...N) N {
	for _, m := range more {
		if m > n {
			n = m
		}
	}
	return n
}
