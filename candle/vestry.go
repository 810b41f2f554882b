package candle

import (
	"cmp"
	"iter"
	"slices"

	"decani/api"
)

// vestry is a valid book that is calculated with, and how many candles come of each kind on each day.
type vestry struct {
	api.CandleBook
	comes map[place]int
}

func newVestry(b api.CandleBook) vestry {
	v := vestry{b, map[place]int{}}
	for day := range len(b.Days) {
		for kind := range b.Stock {
			at := place{kind, day}
			v.comes[at] = sum(v.ordered(at)...)
		}
	}
	return v
}

// open returns the vestry of a book, or the first error: that of the book, of what is asked, or of its counts.
func open(b api.CandleBook, asked bool) (vestry, api.Errno) {
	if e := Check(b); e != api.OK {
		return vestry{}, e
	}
	if !asked {
		return vestry{}, api.ErrCandleAsk
	}
	v := newVestry(b)
	if !v.canBeTrue() {
		return vestry{}, api.ErrCandleFalse
	}
	return v, api.OK
}

// ordered returns how many candles each order of a kind and a day is for.
func (v vestry) ordered(at place) []int {
	var many []int
	for _, order := range v.Orders {
		if at == (place{order.Kind, order.Day}) {
			many = append(many, order.Many)
		}
	}
	return many
}

// takes returns how many candles of a kind are taken on a day. Each light takes its own ones, and new ones on each day.
func (v vestry) takes(t truth, at place) int {
	day := v.Days[at.day]
	return day.Lights[at.kind] * t.needed(at.kind, t.lit(at.day, day.Hours))
}

// evening returns how many candles are left at the end of a day, by those that are left before it.
func (v vestry) evening(t truth, day int) pair {
	left := t.before(day)
	for kind := range left {
		at := place{kind, day}
		left[kind] = sum(left[kind], v.comes[at], -v.takes(t, at))
	}
	return left
}

// truths produces all truths in which all counts are right.
func (v vestry) truths() iter.Seq[truth] {
	return func(yield func(truth) bool) {
		for stock := range pairs(v.Stock) {
			for life := range pairs(v.Life) {
				for t := range v.darkened(truth{stock: stock, life: life}) {
					if !yield(t) {
						return
					}
				}
			}
		}
	}
}

// darkened produces all truths with the stock and the life of this one in which all counts are right.
func (v vestry) darkened(t truth) iter.Seq[truth] {
	return func(yield func(truth) bool) {
		var darken func(day int) bool
		darken = func(day int) bool {
			if day == len(v.Days) {
				return yield(t)
			}
		made:
			for dark := range numbers(v.Days[day].Dark) {
				t.dark[day] = dark
				t.left[day] = v.evening(t, day)
				belies := t.belies
				for _, count := range v.Counts {
					if count.Day == day && belies(count) {
						continue made
					}
				}
				if !darken(day + 1) {
					return false
				}
			}
			return true
		}
		darken(0)
	}
}

// first returns how many candles are left at the end of the first day in the first truth, or nothing.
func (v vestry) first() pair {
	for t := range v.truths() {
		return t.left[0]
	}
	return nothing
}

func (v vestry) canBeTrue() bool { return v.first() != nothing }

// with returns the vestry with one count more. The counts are those of an argument: the third index makes append copy them.
func (v vestry) with(count api.CandleCount) vestry {
	n := len(v.Counts)
	v.Counts = append(v.Counts[:n:n], count)
	return v
}

// uncounted returns the vestry without counts.
func (v vestry) uncounted() vestry {
	v.Counts = nil
	return v
}

// wrong returns the first of the shortest lists of counts that some truth belies: without these alone that truth is one of the book.
func (v vestry) wrong() []int {
	var lists [][]int
	for t := range v.uncounted().truths() {
		lists = append(lists, t.belied(v.Counts))
	}
	return slices.MinFunc(lists, func(one, other []int) int {
		return cmp.Or(cmp.Compare(len(one), len(other)), slices.Compare(one, other))
	})
}

// pairs produces all pairs of which each number is one of its span.
func pairs(known [api.CandleChoir + 1]api.Span) iter.Seq[pair] {
	return func(yield func(pair) bool) {
		for altar := range numbers(known[api.CandleAltar]) {
			for choir := range numbers(known[api.CandleChoir]) {
				if !yield(pair{api.CandleAltar: altar, api.CandleChoir: choir}) {
					return
				}
			}
		}
	}
}

// numbers produces all numbers of a span.
func numbers(s api.Span) iter.Seq[int] {
	return func(yield func(int) bool) {
		for more := range s.High - s.Low + 1 {
			if !yield(s.Low + more) {
				return
			}
		}
	}
}

// sum returns the sum of several numbers.
func sum[N ~int](several ...N) N {
	var total N
	for _, n := range several {
		total += n
	}
	return total
}
