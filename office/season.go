package office

import (
	"slices"

	"decani/api"
)

// set is a set of feasts: n is in it if its bit n is 1.
type set uint

func (s set) has(feast int) bool { return s>>feast&1 == 1 }

func (s set) and(feast int) set { return s | 1<<feast }

// feastDays is on which day each feast is; the days of feasts that the book has not are 0.
type feastDays [api.OfficeFeasts]int

// place is a use and a day.
type place struct{ use, day int }

// songs is the chief feast of a day (or none), and all feasts that are sung on it.
type songs struct {
	chief int
	sung  set
}

// service is what is sung at a place, and the portion of the psalms (or none).
type service struct {
	place
	songs
	portion int
}

// belies reports whether a note of this place tells another chief feast.
func (v service) belies(n api.OfficeNote) bool {
	return v.place == place{n.Use, n.Day} && v.chief != n.Chief
}

// yielding is that a feast yields on a day, by which rule (or none), and what is said of the feast.
type yielding struct{ day, rule, does int }

// season is the days of all feasts, and what both uses make of them.
type season struct {
	ledger
	days      feastDays
	services  map[place]service
	yieldings [2][]yielding
}

// keep goes through all days by both uses; it gives up, and returns false, where a note is not right.
func (s *season) keep() bool {
	s.services = map[place]service{}
	for use := range s.Uses {
		c := newChoir(s, use)
		for day := range s.Days {
			today := c.sing(day)
			if slices.ContainsFunc(s.Notes, today.belies) {
				return false
			}
			s.services[today.place] = today
		}
	}
	return true
}

// sungOn returns the day on which a feast is sung by a use, or none.
func (s *season) sungOn(use, feast int) int {
	for day := range s.Days {
		if s.services[place{use, day}].sung.has(feast) {
			return day
		}
	}
	return none
}

// parting is the day on which both uses part, and the rules of both at which they do.
type parting [3]int

// parting returns where both uses part, and whether they do. Until then they went through the same, so that the same feasts yielded in the same order.
func (s *season) parting() (parting, bool) {
	one, other := s.yieldings[0], s.yieldings[1]
	for i := range least(len(one), len(other)) {
		if one[i].does != other[i].does {
			return parting{one[i].day, one[i].rule, other[i].rule}, true
		}
	}
	return parting{}, false
}

// choir goes through the days of a season by one use.
type choir struct {
	*season
	use   int
	comes [api.OfficeDays]set
	day   int
	today songs
	// psalmed is on how many days the psalms were sung before.
	psalmed int
}

func newChoir(s *season, use int) *choir {
	c := &choir{season: s, use: use}
	for feast := range s.Feasts {
		day := s.days[feast]
		c.comes[day] = c.comes[day].and(feast)
	}
	return c
}

func (c *choir) sing(day int) service {
	c.day, c.today = day, songs{chief: none}
	for feast := range c.Feasts {
		if c.comes[day].has(feast) {
			c.meet(feast)
		}
	}
	if c.today.chief != none {
		c.singToo(c.today.chief)
	}
	portion := c.psalms()
	return service{place{c.use, day}, c.today, portion}
}

// meet lets a feast meet the chief one. Feasts come in the order of their numbers: if both have the same rank the one that comes has the greater number, and yields.
func (c *choir) meet(feast int) {
	chief := c.today.chief
	if chief == none {
		c.today.chief = feast
		return
	}
	if c.Feasts[feast].Rank > c.Feasts[chief].Rank {
		feast, chief = chief, feast
	}
	c.today.chief = chief
	rule, does := ruling(c.Uses[c.use].Rules, c.Feasts[feast].Rank, c.Feasts[chief].Rank)
	c.yieldings[c.use] = append(c.yieldings[c.use], yielding{c.day, rule, does})
	becomes(does)(c, feast)
}

// ruling returns the first rule for a feast of a rank that yields to one of another rank, and what it says; if there is none the feast is left out.
func ruling(rules []api.OfficeRule, rank, to int) (rule, does int) {
	for i, r := range rules {
		if r.Rank == rank && r.To == to {
			return i, r.Does
		}
	}
	return none, api.OfficeOut
}

// becomes returns what a choir does with a feast that yields.
func becomes(does int) func(c *choir, feast int) {
	table := [...]struct{ become func(c *choir, feast int) }{
		api.OfficeOut:  {(*choir).leaveOut},
		api.OfficeNext: {(*choir).moveOn},
		api.OfficeToo:  {(*choir).singToo},
	}
	return table[does].become
}

func (c *choir) leaveOut(int) {}

func (c *choir) moveOn(feast int) {
	if next := c.day + 1; next < c.Days {
		c.comes[next] = c.comes[next].and(feast)
	}
}

func (c *choir) singToo(feast int) { c.today.sung = c.today.sung.and(feast) }

// psalms returns the portion of today (or none), and counts it.
func (c *choir) psalms() int {
	if chief := c.today.chief; chief != none && c.Feasts[chief].Rank > 0 {
		return none
	}
	before := c.day
	if c.Uses[c.use].Goes {
		before = c.psalmed
	}
	c.psalmed++
	return (c.First + before) % api.OfficeRound
}
