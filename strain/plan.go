package strain

import (
	"cmp"
	"slices"

	"decani/api"
)

// never stands for a day that there is not: it is after all days.
const never = api.StrainDays

// tooMany is how many full days running nobody sings.
const tooMany = 3

// nobody stands for the day on which somebody should rest, and who, where nobody should.
var nobody = api.StrainRest{Day: never, Singer: api.StrainSingers}

// compareRests orders rests by their days, then their singers.
func compareRests(one, other api.StrainRest) int {
	return cmp.Or(cmp.Compare(one.Day, other.Day), cmp.Compare(one.Singer, other.Singer))
}

// isBetter reports whether a plan is better than another one.
func isBetter(one, other []api.StrainRest) bool {
	return cmp.Or(cmp.Compare(len(one), len(other)), slices.CompareFunc(one, other, compareRests)) < 0
}

// firstOpen returns the first open day, which is no day of the book if none is open.
func firstOpen(b api.StrainBook) int {
	first := 0
	for _, sign := range b.Signs {
		first = max(first, sign.Day+1)
	}
	return first
}

func isPlan(b api.StrainBook, plan []api.StrainRest) bool {
	first := firstOpen(b)
	for i, rest := range plan {
		if !validRest(b, rest) || rest.Day < first || slices.Contains(b.Rests, rest) {
			return false
		}
		if i > 0 && compareRests(plan[i-1], rest) >= 0 {
			return false
		}
	}
	return true
}

// watch looks after the singers on open days: it holds the truths of a book that are the hardest ones for them, by whatever rests they sing.
type watch struct {
	rota
	hardest []truth
}

// newWatch keeps the first truth of all that have the same costs. In it each singer has the least strength that goes with these, since what one singer is found to have left says nothing of another one's strength; and who has less strength has less left on each day.
func newWatch(r rota) watch {
	w := watch{rota: r}
	known := map[costs]bool{}
	for t := range r.truths() {
		if !known[t.costs] {
			known[t.costs] = true
			w.hardest = append(w.hardest, t)
		}
	}
	return w
}

// by returns the watch over the same truths if the rests of a plan are added.
func (w watch) by(plan []api.StrainRest) watch {
	w.rota = w.resting(plan)
	return w
}

// beyond returns the first day, not before another one, on which a singer sings beyond strength in some truth, or never.
func (w watch) beyond(singer, from int) int {
	first := never
	for _, t := range w.hardest {
		first = least(first, course{w.rota, t}.beyond(singer, from))
	}
	return first
}

// third returns the first day, not before another one, that is a third full day for a singer, or never.
func (w watch) third(singer, from int) int {
	running := 0
	for day := range len(w.Days) {
		running++
		if w.Days[day].Full == 0 || w.does[api.StrainRest{Day: day, Singer: singer}] == toRest {
			running = 0
		}
		if day >= from && running >= tooMany {
			return day
		}
	}
	return never
}

// trouble returns the first open day on which somebody should rest, and who, or nobody.
func (w watch) trouble() api.StrainRest {
	from, first := firstOpen(w.StrainBook), nobody
	for singer := range w.Singers {
		day := least(w.beyond(singer, from), w.third(singer, from))
		if day < first.Day {
			first = api.StrainRest{Day: day, Singer: singer}
		}
	}
	return first
}

// isShort reports whether too few sing on some open day.
func (w watch) isShort() bool {
	from := firstOpen(w.StrainBook)
	for day := range len(w.Days) {
		if day >= from && w.singing(day) < w.Days[day].Needs {
			return true
		}
	}
	return false
}

// singing returns how many sing on a day.
func (w watch) singing(day int) int {
	singing := len(w.Singers)
	for singer := range w.Singers {
		if w.does[api.StrainRest{Day: day, Singer: singer}] == toRest {
			singing--
		}
	}
	return singing
}

func (w watch) isSafe() bool { return !w.isShort() && w.trouble() == nobody }

// free returns all rests that a plan can have, in their order.
func (w watch) free() []api.StrainRest {
	var free []api.StrainRest
	for day := range len(w.Days) {
		for singer := range w.Singers {
			rest := api.StrainRest{Day: day, Singer: singer}
			if isPlan(w.StrainBook, []api.StrainRest{rest}) {
				free = append(free, rest)
			}
		}
	}
	return free
}

// search looks for the safe plan that is better than all others, as it is told.
type search struct {
	watch
	better func(one, other []api.StrainRest) bool
}

// best returns the best safe plan, and whether there is one. Whatever goes on from a plan is longer: if that one is safe, or not better than the best one so far, nothing that goes on from it is better.
func (s search) best() (best []api.StrainRest, found bool) {
	var extend func(plan, later []api.StrainRest)
	extend = func(plan, later []api.StrainRest) {
		w := s.by(plan)
		if w.isShort() || found && !s.better(plan, best) {
			return
		}
		trouble := w.trouble()
		if trouble == nobody {
			best, found = plan, true
			return
		}
		for i, rest := range later {
			// Only a rest of this singer ends the trouble, on this day or before.
			if compareRests(rest, trouble) > 0 {
				return
			}
			extend(append(plan[:len(plan):len(plan)], rest), later[i+1:])
		}
	}
	extend(nil, s.free())
	return best, found
}
