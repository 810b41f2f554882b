package voice

import "decani/api"

// ask is which number of a truth is meant; it is not told where there is nothing of what is asked for.
type ask struct {
	number func(t truth) (n int, told bool)
}

// span returns the least and the greatest number that truths of a boy tell, and whether some do.
func (a ask) span(c choir, boy int) (span api.Span, found bool) {
	for t := range c.truths(boy) {
		n, told := a.number(t)
		if !told {
			continue
		}
		if !found {
			span, found = just(n), true
		}
		span = api.Span{Low: least(span.Low, n), High: max(span.High, n)}
	}
	return span, found
}

// How often something is so in the truths of a boy.
const (
	never = iota
	sometimes
	always
)

// often returns always if something is so in each truth of a boy, sometimes if in some, and never if in none.
func (c choir) often(boy int, so func(t truth) bool) int {
	table := [...]struct {
		often int
		tells func(c choir, boy int, so func(t truth) bool) bool
	}{
		{always, choir.inEach},
		{sometimes, choir.inSome},
	}
	for _, row := range table {
		if row.tells(c, boy, so) {
			return row.often
		}
	}
	return never
}

func (c choir) inEach(boy int, so func(t truth) bool) bool {
	for t := range c.truths(boy) {
		if !so(t) {
			return false
		}
	}
	return true
}

func (c choir) inSome(boy int, so func(t truth) bool) bool {
	for t := range c.truths(boy) {
		if so(t) {
			return true
		}
	}
	return false
}

// surely returns all boys of whom something is so in each truth, increasing.
func (c choir) surely(so func(t truth) bool) []int {
	var boys []int
	for boy := range c.Boys {
		if c.often(boy, so) == always {
			boys = append(boys, boy)
		}
	}
	return boys
}

// heir returns the first boy, but the former one, who surely can sing all of these notes in the former one's week, and whether there is one.
func (c choir) heir(former when, notes api.Span) (int, bool) {
	for _, boy := range c.surely(func(t truth) bool { return t.sings(former.week, notes) }) {
		if former != (when{boy, former.week}) {
			return boy, true
		}
	}
	return 0, false
}
