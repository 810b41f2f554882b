package cold

import (
	"slices"

	"decani/api"
)

// place is a bed and a day.
type place struct{ bed, day int }

// nowhere stands for where a cold begins of which there is no truth.
var nowhere = place{-1, -1}

// never stands for the day on which a boy catches the cold who does not: it is after all days, so that he has not caught it by any.
const never = api.ColdDays

// days are those on which the boys catch the cold, by bed.
type days [api.ColdBeds]int

// nobody are the days of a cold that nobody catches.
var nobody = days{never, never, never, never, never}

// isCaughtFrom reports whether some boy catches the cold on a day, or later.
func (d days) isCaughtFrom(day int) bool {
	return slices.ContainsFunc(d[:], func(caught int) bool { return isIn(caught, day, never-1) })
}

// takes are how many days the cold takes to come out, and to go to the next bed.
type takes [2]int

// truth is where and when the cold began, how long it takes, and when the boys catch it thereby.
type truth struct {
	begin place
	takes
	days
}

func (t truth) catches(bed int) bool { return t.days[bed] != never }

// isIll reports whether the boy of a bed has the cold on a day.
func (t truth) isIll(at place) bool { return t.days[at.bed] <= at.day }

// coughs reports whether the boy of a bed coughs on a day. Who never catches the cold does not, since days end before never.
func (t truth) coughs(at place) bool { return t.days[at.bed]+t.takes[api.ColdOut] <= at.day }

// belies reports whether a hearing is not right.
func (t truth) belies(heard api.ColdHeard) bool {
	return t.coughs(place{heard.Bed, heard.Day}) != heard.Cough
}

// belied returns the numbers of all hearings that are not right, increasing.
func (t truth) belied(hearings []api.ColdHeard) []int {
	var belied []int
	for i, heard := range hearings {
		if t.belies(heard) {
			belied = append(belied, i)
		}
	}
	return belied
}
