package bench

import (
	"cmp"

	"decani/api"
)

// place is a piece and one of its parts.
type place struct{ piece, part int }

func placeOf(s api.BenchSeat) place { return place{s.Piece, s.Part} }

// seat is one that is compared with others.
type seat api.BenchSeat

func (s seat) byPiece(other seat) int { return cmp.Compare(s.Piece, other.Piece) }

func (s seat) byPart(other seat) int { return cmp.Compare(s.Part, other.Part) }

func (s seat) byBoy(other seat) int { return cmp.Compare(s.Boy, other.Boy) }

// isBehind reports whether a seat is behind another one: the first number that differs decides.
func isBehind(next, before api.BenchSeat) bool {
	table := [...]func(one, other seat) int{seat.byPiece, seat.byPart, seat.byBoy}
	for _, by := range table {
		if order := by(seat(next), seat(before)); order != 0 {
			return order > 0
		}
	}
	return false
}

// load is in how many pieces of a week each boy sings.
type load [api.VoiceBoys]int

// rest is the load where nobody sings.
var rest = load{}

// over returns in how many pieces each boy sings beyond the most that are allowed.
func (l load) over(most int) load {
	for boy, pieces := range l {
		l[boy] = pieces - least(pieces, most)
	}
	return l
}

// least returns the least of several numbers.
func least[N cmp.Ordered](n N, more ...N) N {
	for _, m := range more {
		if m < n {
			n = m
		}
	}
	return n
}
