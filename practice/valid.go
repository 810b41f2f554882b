package practice

import (
	"slices"

	"decani/api"
	"decani/cold"
	"decani/strain"
)

func isIn(n, low, high int) bool { return low <= n && n <= high }

func isBed(b api.PracticeBook, bed int) bool { return isIn(bed, 0, b.Cold.Beds-1) }

func isDay(b api.PracticeBook, day int) bool { return isIn(day, 0, len(b.Strain.Days)-1) }

func isRehearsal(b api.PracticeBook, rehearsal int) bool {
	return isIn(rehearsal, 0, len(b.Rehearsals)-1)
}

func valid(b api.PracticeBook) bool {
	if cold.Check(b.Cold) != api.OK || strain.Check(b.Strain) != api.OK {
		return false
	}
	return len(b.Strain.Days) <= b.Cold.Days && validSleeps(b) && validRehearsals(b)
}

func validSleeps(b api.PracticeBook) bool {
	if len(b.Sleeps) != len(b.Strain.Singers) {
		return false
	}
	for i, bed := range b.Sleeps {
		if !isBed(b, bed) || slices.Contains(b.Sleeps[:i], bed) {
			return false
		}
	}
	return true
}

func validRehearsals(b api.PracticeBook) bool {
	if len(b.Rehearsals) > api.PracticeRehearsals {
		return false
	}
	for _, r := range b.Rehearsals {
		if !isDay(b, r.From) || !isDay(b, r.To) || r.From > r.To || !isIn(r.Wants, 0, api.PracticeWants) {
			return false
		}
	}
	return true
}
