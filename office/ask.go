package office

import (
	"slices"

	"decani/api"
)

// ask is which number of a truth is meant; none is the number where there is nothing of what is asked for.
type ask struct{ number func(s *season) int }

// all returns the numbers of all truths, increasing, each of them once.
func (a ask) all(l ledger) []int {
	var numbers []int
	for s := range l.truths() {
		numbers = append(numbers, a.number(s))
	}
	slices.Sort(numbers)
	return slices.Compact(numbers)
}

// span returns the least and the greatest number of all truths but those in which it is none, and whether there are others.
func (a ask) span(l ledger) (span api.Span, found bool) {
	for s := range l.truths() {
		n := a.number(s)
		if n == none {
			continue
		}
		if !found {
			span, found = api.Span{Low: n, High: n}, true
		}
		span = api.Span{Low: least(span.Low, n), High: max(span.High, n)}
	}
	return span, found
}

// often returns 2 if the number is none in no truth, 1 if it is not in some, and 0 if it is in each.
func (a ask) often(l ledger) int {
	some, each := false, true
	for s := range l.truths() {
		if a.number(s) == none {
			each = false
		} else {
			some = true
		}
	}
	switch {
	case !some:
		return 0
	case each:
		return 2
	}
	return 1
}
