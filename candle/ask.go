package candle

import (
	"slices"

	"decani/api"
)

// ask is which number of a truth is meant.
type ask struct {
	number func(t truth) int
}

// span returns the least and the greatest number that truths tell.
func (a ask) span(v vestry) api.Span {
	var told []int
	for t := range v.truths() {
		told = append(told, a.number(t))
	}
	return api.Span{Low: slices.Min(told), High: slices.Max(told)}
}

// leftAt asks how many candles of a kind are left at the end of a day.
func leftAt(at place) ask {
	return ask{func(t truth) int { return t.left[at.day][at.kind] }}
}

// supply is how many candles of a kind are left at the end of a day, at least and at most.
type supply struct{ api.Span }

func (v vestry) supply(at place) supply { return supply{leftAt(at).span(v)} }

func (s supply) mayLack() bool { return s.Low < 0 }

func (s supply) surelyLacks() bool { return s.High < 0 }

// How sure it is that candles are lacking.
const (
	maybe = iota
	surely
)

// never stands for a day that there is not: it is after all days.
const never = api.CandleDays

// lacks returns the first day on which candles of a kind are lacking, or never.
func (v vestry) lacks(kind, sure int) int {
	table := [...]func(s supply) bool{
		maybe:  supply.mayLack,
		surely: supply.surelyLacks,
	}
	for day := range len(v.Days) {
		if table[sure](v.supply(place{kind, day})) {
			return day
		}
	}
	return never
}

// buy returns how many candles of a kind must come more, at the beginning of a day, so that from it on surely none are lacking: they are there on all later days, too.
func (v vestry) buy(from place) int {
	more := 0
	for day := range len(v.Days) {
		if day >= from.day {
			more = max(more, -v.supply(place{from.kind, day}).Low)
		}
	}
	return more
}
