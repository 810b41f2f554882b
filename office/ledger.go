package office

import (
	"cmp"
	"iter"
	"slices"

	"decani/api"
)

// ledger is a valid book that is calculated with.
type ledger struct{ api.OfficeBook }

// noSeason stands for the days of all feasts where there is no truth.
var noSeason = feastDays{none, none, none, none}

// open returns the ledger of a book, or the first error: that of the book, of what is asked, or of its notes.
func open(b api.OfficeBook, asked bool) (ledger, api.Errno) {
	if e := Check(b); e != api.OK {
		return ledger{}, e
	}
	if !asked {
		return ledger{}, api.ErrOfficeAsk
	}
	l := ledger{b}
	if !l.canBeTrue() {
		return ledger{}, api.ErrOfficeFalse
	}
	return l, api.OK
}

// truths produces all seasons in which all notes are right.
func (l ledger) truths() iter.Seq[*season] {
	return func(yield func(*season) bool) {
		var days feastDays
		var give func(feast int) bool
		give = func(feast int) bool {
			if feast == len(l.Feasts) {
				s := &season{ledger: l, days: days}
				return !s.keep() || yield(s)
			}
			known := l.Feasts[feast].Day
		given:
			for later := range known.High - known.Low + 1 {
				day := known.Low + later
				for _, n := range l.Notes {
					if forbids(n, feast, day) {
						continue given
					}
				}
				days[feast] = day
				if !give(feast + 1) {
					return false
				}
			}
			return true
		}
		give(0)
	}
}

// forbids reports whether a note cannot be right if the feast is on this day: a day on which feasts are has a chief one, and no feast is sung before its day.
func forbids(n api.OfficeNote, feast, day int) bool {
	return n.Chief == none && n.Day == day || n.Chief == feast && n.Day < day
}

// first returns the days of all feasts in the first truth, or noSeason.
func (l ledger) first() feastDays {
	for s := range l.truths() {
		return s.days
	}
	return noSeason
}

func (l ledger) canBeTrue() bool { return l.first() != noSeason }

// firstParting returns the first of all places at which both uses part, and whether there is one.
func (l ledger) firstParting() (first parting, found bool) {
	for s := range l.truths() {
		p, parts := s.parting()
		if parts && (!found || slices.Compare(p[:], first[:]) < 0) {
			first, found = p, true
		}
	}
	return first, found
}

// with returns the ledger with one note more. The notes are those of an argument: the third index makes append copy them.
func (l ledger) with(note api.OfficeNote) ledger {
	n := len(l.Notes)
	l.Notes = append(l.Notes[:n:n], note)
	return l
}

// without returns the ledger without the notes of these numbers.
func (l ledger) without(numbers []int) ledger {
	var notes []api.OfficeNote
	for i, n := range l.Notes {
		if !slices.Contains(numbers, i) {
			notes = append(notes, n)
		}
	}
	l.Notes = notes
	return l
}

// wrong returns the first of the shortest lists of notes without which the book can be true.
func (l ledger) wrong() []int {
	for many := range len(l.Notes) + 1 {
		for numbers := range choices(len(l.Notes), many) {
			if l.without(numbers).canBeTrue() {
				return numbers
			}
		}
	}
	return nil
}

// choices produces all strictly increasing lists of so many numbers below n, in the order of lists. Each list is new memory: no list that was handed on has room for more.
func choices(n, many int) iter.Seq[[]int] {
	return func(yield func([]int) bool) {
		var choose func(chosen []int, from int) bool
		choose = func(chosen []int, from int) bool {
			if len(chosen) == many {
				return yield(chosen)
			}
			for next := from; next < n; next++ {
				if !choose(append(chosen[:len(chosen):len(chosen)], next), next+1) {
					return false
				}
			}
			return true
		}
		choose(nil, 0)
	}
}

// least returns the least of several numbers.
func least[N cmp.Ordered](n N, more ...N) N {
	for _, m := range more {
		if m < n {
			n = m
		}
	}
	return n
}
