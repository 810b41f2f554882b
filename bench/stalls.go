package bench

import (
	"iter"
	"slices"

	"decani/api"
	"decani/voice"
)

// surely is what voice.Sings returns if a boy can sing a note in each truth.
const surely = 2

// stalls are a valid book that is calculated with, all boys who surely can sing each part, and who of them is left out.
type stalls struct {
	api.BenchBook
	singers map[place][]int
	isOut   func(boy int) bool
}

func newStalls(b api.BenchBook) stalls {
	s := stalls{b, map[place][]int{}, func(int) bool { return false }}
	can := s.surelySings
	for piece := range b.Pieces {
		for _, at := range s.parts(piece) {
			for boy := range len(b.Voice.Boys) {
				if can(at, boy) {
					s.singers[at] = append(s.singers[at], boy)
				}
			}
		}
	}
	return s
}

// open returns the stalls of a book, or the first error: that of the book, of what is asked, or of its trials.
func open(b api.BenchBook, asked bool) (stalls, api.Errno) {
	if e := Check(b); e != api.OK {
		return stalls{}, e
	}
	if !asked {
		return stalls{}, api.ErrBenchAsk
	}
	if right, _ := voice.Right(b.Voice); !right {
		return stalls{}, api.ErrBenchFalse
	}
	return newStalls(b), api.OK
}

// without returns the stalls in which a boy has no seats.
func (s stalls) without(boy int) stalls {
	s.isOut = func(other int) bool { return other == boy }
	return s
}

func (s stalls) part(at place) api.BenchPart { return s.Pieces[at.piece].Parts[at.part] }

// surelySings reports whether a boy surely can sing all notes of a part in the week of its piece. What can be sung has no gaps: who sings both ends sings all that lies between them.
func (s stalls) surelySings(at place, boy int) bool {
	notes := s.part(at).Notes
	for _, note := range [...]int{notes.Low, notes.High} {
		if sings, _ := voice.Sings(s.Voice, boy, s.Pieces[at.piece].Week, note); sings != surely {
			return false
		}
	}
	return true
}

// parts returns the places of all parts of some pieces, in their order.
func (s stalls) parts(pieces ...int) []place {
	var parts []place
	for _, piece := range pieces {
		for part := range s.Pieces[piece].Parts {
			parts = append(parts, place{piece, part})
		}
	}
	return parts
}

// wanted returns places, each of them as often as it wants boys: it tells of each one of right seats which place it is at, since each is behind the one before it.
func (s stalls) wanted(places []place) []place {
	var wanted []place
	for _, at := range places {
		wanted = append(wanted, slices.Repeat([]place{at}, s.part(at).Many)...)
	}
	return wanted
}

// ban reports whether something forbids a seat at a wanted place, behind others that are right so far.
type ban func(before []api.BenchSeat, next api.BenchSeat) bool

// bans returns all that forbids a seat. Who sings is asked before how much: nobody else is a boy of the book.
func (s stalls) bans() []ban {
	return []ban{s.cannotSing, s.isNotBehind, s.sitsTwice, s.singsTooMuch}
}

func (s stalls) cannotSing(_ []api.BenchSeat, next api.BenchSeat) bool {
	return s.isOut(next.Boy) || !slices.Contains(s.singers[placeOf(next)], next.Boy)
}

func (s stalls) isNotBehind(before []api.BenchSeat, next api.BenchSeat) bool {
	return len(before) > 0 && !isBehind(next, before[len(before)-1])
}

func (s stalls) sitsTwice(before []api.BenchSeat, next api.BenchSeat) bool {
	return slices.ContainsFunc(before, func(other api.BenchSeat) bool {
		return other.Piece == next.Piece && other.Boy == next.Boy
	})
}

func (s stalls) singsTooMuch(before []api.BenchSeat, next api.BenchSeat) bool {
	sung := s.load(before, s.Pieces[next.Piece].Week)
	sung[next.Boy]++
	return sung.over(s.Most) != rest
}

// load returns in how many pieces of a week each boy sings: as many as seats, since nobody has two of a piece.
func (s stalls) load(seats []api.BenchSeat, week int) load {
	var sung load
	for _, seat := range seats {
		if s.Pieces[seat.Piece].Week == week {
			sung[seat.Boy]++
		}
	}
	return sung
}

// areRight reports whether seats are right for the places of some pieces.
func (s stalls) areRight(seats []api.BenchSeat, places []place) bool {
	wanted := s.wanted(places)
	if len(seats) != len(wanted) {
		return false
	}
	for i, next := range seats {
		if placeOf(next) != wanted[i] {
			return false
		}
		for _, forbids := range s.bans() {
			if forbids(seats[:i:i], next) {
				return false
			}
		}
	}
	return true
}

// seats produces all seats that are right for some places, the first ones first.
func (s stalls) seats(places []place) iter.Seq[[]api.BenchSeat] {
	wanted, bans := s.wanted(places), s.bans()
	return func(yield func([]api.BenchSeat) bool) {
		var fill func(seats []api.BenchSeat) bool
		fill = func(seats []api.BenchSeat) bool {
			n := len(seats)
			if n == len(wanted) {
				return yield(seats)
			}
		boys:
			for boy := range len(s.Voice.Boys) {
				next := api.BenchSeat{Piece: wanted[n].piece, Part: wanted[n].part, Boy: boy}
				for _, forbids := range bans {
					if forbids(seats, next) {
						continue boys
					}
				}
				if !fill(append(seats[:n:n], next)) {
					return false
				}
			}
			return true
		}
		fill(nil)
	}
}

// first returns the first seats that are right for some places, and whether there are some.
func (s stalls) first(places []place) ([]api.BenchSeat, bool) {
	for seats := range s.seats(places) {
		return seats, true
	}
	return nil, false
}

// ways returns how many seats are right for some places.
func (s stalls) ways(places []place) int {
	ways := 0
	for range s.seats(places) {
		ways++
	}
	return ways
}
