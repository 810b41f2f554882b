// Package office is layer 1, see shared/doc/01-office.md: it tells what is sung on each day of a season, as feasts move and two uses part.
package office

import "decani/api"

// Check returns ErrOffice unless the book is valid.
func Check(b api.OfficeBook) api.Errno {
	if !valid(b) {
		return api.ErrOffice
	}
	return api.OK
}

// Right reports whether a book can be true.
func Right(b api.OfficeBook) (bool, api.Errno) {
	if e := Check(b); e != api.OK {
		return false, e
	}
	return ledger{b}.canBeTrue(), api.OK
}

// Day returns the day of a feast, at least and at most.
func Day(b api.OfficeBook, feast int) (api.Span, api.Errno) {
	l, e := open(b, isFeast(b, feast))
	if e != api.OK {
		return api.Span{}, e
	}
	day := ask{func(s *season) int { return s.days[feast] }}
	span, _ := day.span(l)
	return span, api.OK
}

// Chief returns all feasts that can be the chief one of a day by a use, increasing, with -1 in front if there can be none.
func Chief(b api.OfficeBook, use, day int) ([]int, api.Errno) {
	l, e := open(b, isUse(use) && isDay(b, day))
	if e != api.OK {
		return nil, e
	}
	chief := ask{func(s *season) int { return s.services[place{use, day}].chief }}
	return chief.all(l), api.OK
}

// Falls returns the day on which a feast is sung by a use, at least and at most.
func Falls(b api.OfficeBook, use, feast int) (api.Span, api.Errno) {
	l, e := open(b, isUse(use) && isFeast(b, feast))
	if e != api.OK {
		return api.Span{}, e
	}
	sung := ask{func(s *season) int { return s.sungOn(use, feast) }}
	span, found := sung.span(l)
	if !found {
		return api.Span{}, api.ErrNone
	}
	return span, api.OK
}

// Kept returns 2 if a feast surely is sung by a use, 1 if it can be, and 0 if it is not.
func Kept(b api.OfficeBook, use, feast int) (int, api.Errno) {
	l, e := open(b, isUse(use) && isFeast(b, feast))
	if e != api.OK {
		return 0, e
	}
	sung := ask{func(s *season) int { return s.sungOn(use, feast) }}
	return sung.often(l), api.OK
}

// Psalm returns all portions of the psalms that can be sung on a day by a use, increasing, with -1 in front if there can be none.
func Psalm(b api.OfficeBook, use, day int) ([]int, api.Errno) {
	l, e := open(b, isUse(use) && isDay(b, day))
	if e != api.OK {
		return nil, e
	}
	portion := ask{func(s *season) int { return s.services[place{use, day}].portion }}
	return portion.all(l), api.OK
}

// Agree returns 2 if both uses surely agree on a day, 1 if they can, and 0 if they do not.
func Agree(b api.OfficeBook, day int) (int, api.Errno) {
	l, e := open(b, isDay(b, day))
	if e != api.OK {
		return 0, e
	}
	agreed := ask{func(s *season) int {
		if s.services[place{0, day}].songs == s.services[place{1, day}].songs {
			return day
		}
		return none
	}}
	return agreed.often(l), api.OK
}

// Part returns the first day on which both uses can part, and the rules of both at which they do.
func Part(b api.OfficeBook) (day, rule, other int, e api.Errno) {
	l, e := open(b, true)
	if e != api.OK {
		return 0, 0, 0, e
	}
	p, found := l.firstParting()
	if !found {
		return 0, 0, 0, api.ErrNone
	}
	return p[0], p[1], p[2], api.OK
}

// Fits reports whether a further note can be right.
func Fits(b api.OfficeBook, note api.OfficeNote) (bool, api.Errno) {
	l, e := open(b, validNote(b, note))
	if e != api.OK {
		return false, e
	}
	return l.with(note).canBeTrue(), api.OK
}

// Wrong returns the first of the shortest lists of notes that must be wrong.
func Wrong(b api.OfficeBook) ([]int, api.Errno) {
	if e := Check(b); e != api.OK {
		return nil, e
	}
	return ledger{b}.wrong(), api.OK
}
