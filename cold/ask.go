package cold

import "decani/api"

// ask is which number of a truth is meant; it is not told where there is nothing of what is asked for.
type ask struct {
	number func(t truth) (n int, told bool)
}

// span returns the least and the greatest number that truths tell, and whether some do.
func (a ask) span(d dormitory) (span api.Span, found bool) {
	for t := range d.truths() {
		n, told := a.number(t)
		if !told {
			continue
		}
		if !found {
			span, found = api.Span{Low: n, High: n}, true
		}
		span = api.Span{Low: least(span.Low, n), High: max(span.High, n)}
	}
	return span, found
}

// How often something is so in the truths.
const (
	surelyNot = iota
	maybe
	surely
)

// often returns surely if something is so in each truth, maybe if in some, and surelyNot if in none.
func (d dormitory) often(so func(t truth) bool) int {
	table := [...]struct {
		often int
		tells func(d dormitory, so func(t truth) bool) bool
	}{
		{surely, dormitory.inEach},
		{maybe, dormitory.inSome},
	}
	for _, row := range table {
		if row.tells(d, so) {
			return row.often
		}
	}
	return surelyNot
}

func (d dormitory) inEach(so func(t truth) bool) bool {
	for t := range d.truths() {
		if !so(t) {
			return false
		}
	}
	return true
}

func (d dormitory) inSome(so func(t truth) bool) bool {
	for t := range d.truths() {
		if so(t) {
			return true
		}
	}
	return false
}

// beds returns all beds of which something is so, increasing.
func (d dormitory) beds(so func(bed int) bool) []int {
	var beds []int
	for bed := range d.Beds {
		if so(bed) {
			beds = append(beds, bed)
		}
	}
	return beds
}
