package cold

import (
	"slices"

	"decani/api"
)

func isIn(n, low, high int) bool { return low <= n && n <= high }

func isBed(b api.ColdBook, bed int) bool { return isIn(bed, 0, b.Beds-1) }

func isDay(b api.ColdBook, day int) bool { return isIn(day, 0, b.Days-1) }

// isLater reports whether a day is the number of one, but not of the first one: nobody is moved on that.
func isLater(b api.ColdBook, day int) bool { return isDay(b, day) && day > 0 }

func isKind(kind int) bool { return isIn(kind, api.ColdOut, api.ColdGoes) }

func valid(b api.ColdBook) bool {
	if !isIn(b.Beds, 1, api.ColdBeds) || !isIn(b.Days, 1, api.ColdDays) {
		return false
	}
	if !isIn(b.Begins, 1, 1<<b.Beds-1) || !isDay(b, b.Until) || !isIn(b.Rooms, 0, api.ColdRooms) {
		return false
	}
	for _, span := range b.Takes {
		if !validTakes(span) {
			return false
		}
	}
	return validMoves(b) && validHearings(b)
}

func validTakes(s api.Span) bool {
	return isIn(s.Low, 1, s.High) && s.High <= api.ColdTakes && s.High-s.Low <= api.ColdWide
}

func validMoves(b api.ColdBook) bool {
	if len(b.Moves) > api.ColdRooms {
		return false
	}
	for i, move := range b.Moves {
		again := slices.ContainsFunc(b.Moves[:i], func(m api.ColdMove) bool { return m.Bed == move.Bed })
		if again || !isBed(b, move.Bed) || !isLater(b, move.Day) {
			return false
		}
	}
	return true
}

func validHearings(b api.ColdBook) bool {
	if len(b.Heard) > api.ColdHears {
		return false
	}
	for _, heard := range b.Heard {
		if !validHearing(b, heard) {
			return false
		}
	}
	return true
}

func validHearing(b api.ColdBook, heard api.ColdHeard) bool {
	return isBed(b, heard.Bed) && isDay(b, heard.Day)
}
