package practice

import (
	"decani/api"
	"decani/cold"
	"decani/strain"
)

// hall is a valid book that is calculated with, and who is kept on which day.
type hall struct {
	api.PracticeBook
	kept map[api.StrainRest]bool
}

// newHall returns the hall of a book that can be true.
func newHall(b api.PracticeBook) hall {
	h := hall{b, map[api.StrainRest]bool{}}
	for singer, bed := range b.Sleeps {
		for day := range b.Strain.Days {
			ill, _ := cold.Ill(b.Cold, bed, day)
			h.kept[api.StrainRest{Day: day, Singer: singer}] = ill > 0
		}
	}
	return h
}

// open returns the hall of a book, or the first error: that of the book, of what is asked, or of its hearings and signs.
func open(b api.PracticeBook, asked bool) (hall, api.Errno) {
	if e := Check(b); e != api.OK {
		return hall{}, e
	}
	if !asked {
		return hall{}, api.ErrPracticeAsk
	}
	if !canBeTrue(b) {
		return hall{}, api.ErrPracticeFalse
	}
	return newHall(b), api.OK
}

// canBeTrue reports whether a valid book can be true.
func canBeTrue(b api.PracticeBook) bool {
	isCold, _ := cold.Right(b.Cold)
	isStrain, _ := strain.Right(b.Strain)
	return isCold && isStrain
}

// singers returns all singers who are kept on a day, increasing.
func (h hall) singers(day int) []int {
	return which(len(h.Strain.Singers), func(singer int) bool {
		return h.kept[api.StrainRest{Day: day, Singer: singer}]
	})
}

// alone returns all days on which a rehearsal could be held, if it were the only one, increasing.
func (h hall) alone(rehearsal int) []int {
	return which(len(h.Strain.Days), solo{h, rehearsal}.isPlan)
}

// isNever reports whether a rehearsal could be held on no day, even if it were the only one.
func (h hall) isNever(rehearsal int) bool { return len(h.alone(rehearsal)) == 0 }

// which returns all of so many numbers of which something is so, increasing.
func which(many int, so func(n int) bool) []int {
	var all []int
	for n := range many {
		if so(n) {
			all = append(all, n)
		}
	}
	return all
}

// sum returns the sum of several numbers.
func sum[N ~int](several ...N) N {
	var all N
	for _, n := range several {
		all += n
	}
	return all
}
