package practice

import (
	"cmp"
	"iter"
	"slices"

	"decani/api"
	"decani/strain"
)

// days are those on which rehearsals are held, or PracticeNot, also for rehearsals that there are not.
type days [api.PracticeRehearsals]int

// noneHeld are the days if no rehearsal is held.
var noneHeld = days{api.PracticeNot, api.PracticeNot, api.PracticeNot}

// list returns the days of the first rehearsals.
func (d days) list(rehearsals int) []int { return d[:rehearsals:rehearsals] }

// with returns the days if a rehearsal is held on this one.
func (d days) with(rehearsal, day int) days {
	d[rehearsal] = day
	return d
}

// has reports whether a rehearsal is held on a day.
func (d days) has(day int) bool { return slices.Contains(d[:], day) }

// plan is a hall, and days on which rehearsals are held in it.
type plan struct {
	hall
	days
}

// planOf returns the plan of a list that has a day for each rehearsal.
func (h hall) planOf(list []int) plan {
	p := plan{h, noneHeld}
	copy(p.days[:], list)
	return p
}

// What a plan tells.
const (
	holds = iota
	keeps
)

// tells returns how many rehearsals a plan holds, or how many singers it keeps from them.
func (p plan) tells(what int) int {
	table := [...]struct{ many func(p plan) int }{
		holds: {plan.holds},
		keeps: {plan.keeps},
	}
	return table[what].many(p)
}

// held returns all days on which a rehearsal is held, increasing.
func (p plan) held() []int { return which(len(p.Strain.Days), p.has) }

func (p plan) holds() int { return len(p.held()) }

func (p plan) keeps() int {
	var many []int
	for _, day := range p.held() {
		many = append(many, len(p.singers(day)))
	}
	return sum(many...)
}

// rests returns the rests of all singers who are kept on days with a rehearsal, but those that are fixed.
func (p plan) rests() []api.StrainRest {
	var rests []api.StrainRest
	for _, day := range p.held() {
		for _, singer := range p.singers(day) {
			rest := api.StrainRest{Day: day, Singer: singer}
			if !slices.Contains(p.Strain.Rests, rest) {
				rests = append(rests, rest)
			}
		}
	}
	return rests
}

// strained returns the book of strength, with the rehearsals.
func (p plan) strained() api.StrainBook {
	b := p.Strain
	b.Days = slices.Clone(b.Days)
	for rehearsal, r := range p.Rehearsals {
		if day := p.days[rehearsal]; day != api.PracticeNot {
			b.Days[day].Plain++
			b.Days[day].Needs = max(b.Days[day].Needs, r.Wants)
		}
	}
	return b
}

// isSafe reports whether nobody sings beyond strength, and enough sing.
func (p plan) isSafe() bool {
	b := p.Strain
	if p.days != noneHeld {
		b = p.strained()
	}
	safe, _ := strain.Safe(b, p.rests())
	return safe
}

// demand is what must be so of the day of a rehearsal, behind the days of all rehearsals before it.
type demand func(before []int, day int) bool

// demands returns all that must be so of a day. That it is one of the rehearsal's comes first: what is asked after it is asked of days of the book alone.
func (h hall) demands() []demand {
	return []demand{h.isFromTo, h.isOpen, h.isLight, h.isFree}
}

func (h hall) isFromTo(before []int, day int) bool {
	r := h.Rehearsals[len(before)]
	return isIn(day, r.From, r.To)
}

// isOpen reports whether no sign tells of this day or of a later one.
func (h hall) isOpen(_ []int, day int) bool {
	return !slices.ContainsFunc(h.Strain.Signs, func(s api.StrainSign) bool { return s.Day >= day })
}

// isLight reports whether the day can have one more plain service.
func (h hall) isLight(_ []int, day int) bool {
	return h.Strain.Days[day].Plain < api.StrainServices
}

func (h hall) isFree(before []int, day int) bool { return !slices.Contains(before, day) }

// isPlan reports whether days are a plan.
func (h hall) isPlan(list []int) bool {
	if len(list) != len(h.Rehearsals) {
		return false
	}
	demands := h.demands()
	for i, day := range list {
		for _, isMet := range demands {
			if day != api.PracticeNot && !isMet(list[:i:i], day) {
				return false
			}
		}
	}
	return h.planOf(list).isSafe()
}

// plans produces all plans.
func (h hall) plans() iter.Seq[plan] {
	demands := h.demands()
	return func(yield func(plan) bool) {
		var lay func(d days, rehearsal int) bool
		lay = func(d days, rehearsal int) bool {
			if rehearsal == len(h.Rehearsals) {
				p := plan{h, d}
				return !p.isSafe() || yield(p)
			}
		nextDay:
			for day := range len(h.Strain.Days) {
				for _, isMet := range demands {
					if !isMet(d.list(rehearsal), day) {
						continue nextDay
					}
				}
				if !lay(d.with(rehearsal, day), rehearsal+1) {
					return false
				}
			}
			return lay(d, rehearsal+1)
		}
		lay(noneHeld, 0)
	}
}

// solo is a rehearsal that is the only one that is held.
type solo struct {
	hall
	rehearsal int
}

// isPlan reports whether it is a plan to hold the rehearsal on a day.
func (s solo) isPlan(day int) bool {
	d := noneHeld.with(s.rehearsal, day)
	return s.hall.isPlan(d.list(len(s.Rehearsals)))
}

// search looks for the plan that is better than all others, as it is told.
type search struct {
	hall
	better func(one, other plan) bool
}

// best returns the best plan, and whether there is one.
func (s search) best() (best plan, found bool) {
	for p := range s.plans() {
		if !found || s.better(p, best) {
			best, found = p, true
		}
	}
	return best, found
}

// isBetter reports whether a plan is better than another one.
func isBetter(one, other plan) bool {
	return cmp.Or(
		cmp.Compare(other.tells(holds), one.tells(holds)),
		cmp.Compare(one.tells(keeps), other.tells(keeps)),
		slices.Compare(one.days[:], other.days[:]),
	) < 0
}
