package founder

import (
	"cmp"
	"iter"
	"slices"

	"decani/api"
)

// noService stands for the last service of a plan without any.
var noService = api.FounderSung{Day: none, Gift: none}

// lastOf returns the last one of several services, or noService.
func lastOf(services []api.FounderSung) api.FounderSung {
	if n := len(services); n > 0 {
		return services[n-1]
	}
	return noService
}

// compareServices orders services by their days, then their gifts.
func compareServices(one, other api.FounderSung) int {
	return cmp.Or(cmp.Compare(one.Day, other.Day), cmp.Compare(one.Gift, other.Gift))
}

// demand is what must be so of a service, behind others that are a plan so far.
type demand func(before []api.FounderSung, next api.FounderSung) bool

// demands returns all that must be so of a service. Whether the day is open to the gift comes first: what is asked after it is asked of days and gifts of the book alone.
func (c chest) demands() []demand {
	return []demand{c.isOpen, c.isBehind, c.hasRoom, c.isPaidFor}
}

func (c chest) isOpen(_ []api.FounderSung, next api.FounderSung) bool { return c.open[next] }

// isBehind reports whether a service is behind the last one. Of two on one day that for the later gift is told as the second one, so that no two plans have the same services.
func (c chest) isBehind(before []api.FounderSung, next api.FounderSung) bool {
	last := lastOf(before)
	return last == noService || compareServices(last, next) < 0
}

// hasRoom reports whether no service is on the day yet, or one alone where two can be.
func (c chest) hasRoom(before []api.FounderSung, next api.FounderSung) bool {
	sung := 0
	for _, s := range before {
		if s.Day == next.Day {
			sung++
		}
	}
	return sung == 0 || sung == 1 && next.Day == c.twice
}

func (c chest) isPaidFor(before []api.FounderSung, next api.FounderSung) bool {
	return tallyOf(before)[next.Gift] < c.Gifts[next.Gift].Services
}

// isPlan reports whether services are a plan.
func (c chest) isPlan(services []api.FounderSung) bool {
	demands := c.demands()
	for i, next := range services {
		for _, isMet := range demands {
			if !isMet(services[:i:i], next) {
				return false
			}
		}
	}
	return true
}

// plans produces all plans.
func (c chest) plans() iter.Seq[[]api.FounderSung] {
	demands := c.demands()
	return func(yield func([]api.FounderSung) bool) {
		var goOn func(plan []api.FounderSung, day int) bool
		goOn = func(plan []api.FounderSung, day int) bool {
			if day == c.Office.Days {
				return yield(plan)
			}
			n := len(plan)
		gifts:
			for gift := range c.Gifts {
				next := api.FounderSung{Day: day, Gift: gift}
				for _, isMet := range demands {
					if !isMet(plan, next) {
						continue gifts
					}
				}
				if !goOn(append(plan[:n:n], next), day) {
					return false
				}
			}
			return goOn(plan, day+1)
		}
		goOn(nil, 0)
	}
}

// search looks for the plan that is better than all others, as it is told.
type search struct {
	chest
	better func(one, other []api.FounderSung) bool
}

func (s search) best() []api.FounderSung {
	var best []api.FounderSung
	for plan := range s.plans() {
		if s.better(plan, best) {
			best = plan
		}
	}
	return best
}

// isBetter reports whether a plan is better than another one.
func (c chest) isBetter(one, other []api.FounderSung) bool {
	return cmp.Or(cmp.Compare(c.owed(one), c.owed(other)), slices.CompareFunc(one, other, compareServices)) < 0
}

// best returns the best plan.
func (c chest) best() []api.FounderSung { return search{c, c.isBetter}.best() }

// debt returns what is owed by the best plan.
func (c chest) debt() int { return c.owed(c.best()) }

// extra returns the day on which a second service helps most, or none. Less than without it is owed only by plans that have it.
func (c chest) extra() int {
	least, best := c.debt(), none
	for day := range c.Office.Days {
		if debt := c.with(day).debt(); debt < least {
			least, best = debt, day
		}
	}
	return best
}
