package strain

import (
	"cmp"
	"iter"
	"maps"
	"slices"

	"decani/api"
)

// rota is a valid book that is calculated with, and what each singer does on each day: who is not told of sings.
type rota struct {
	api.StrainBook
	does map[api.StrainRest]int
}

func newRota(b api.StrainBook) rota { return rota{StrainBook: b}.resting(b.Rests) }

// open returns the rota of a book, or the first error: that of the book, of what is asked, or of its signs.
func open(b api.StrainBook, asked bool) (rota, api.Errno) {
	if e := Check(b); e != api.OK {
		return rota{}, e
	}
	if !asked {
		return rota{}, api.ErrStrainAsk
	}
	r := newRota(b)
	if !r.canBeTrue() {
		return rota{}, api.ErrStrainFalse
	}
	return r, api.OK
}

// resting returns the rota with more rests.
func (r rota) resting(more []api.StrainRest) rota {
	does := map[api.StrainRest]int{}
	maps.Copy(does, r.does)
	for _, rest := range more {
		does[rest] = toRest
	}
	r.does = does
	return r
}

// truths produces all truths in which all signs are right.
func (r rota) truths() iter.Seq[truth] {
	return func(yield func(truth) bool) {
		for strong := range r.allStrengths() {
			for cost := range r.allCosts(strong) {
				if !yield(truth{cost, strong}) {
					return
				}
			}
		}
	}
}

// allStrengths produces all strengths that the singers can have.
func (r rota) allStrengths() iter.Seq[strengths] {
	return func(yield func(strengths) bool) {
		var s strengths
		var choose func(singer int) bool
		choose = func(singer int) bool {
			if singer == len(r.Singers) {
				return yield(s)
			}
			for n := range numbers(r.Singers[singer]) {
				s[singer] = n
				if !choose(singer + 1) {
					return false
				}
			}
			return true
		}
		choose(0)
	}
}

// allCosts produces all that services can cost, and nights give back, if the singers have these strengths and all signs are right.
func (r rota) allCosts(strong strengths) iter.Seq[costs] {
	return func(yield func(costs) bool) {
		t := truth{strengths: strong}
		var choose func(kind int) bool
		choose = func(kind int) bool {
			if kind == len(t.costs) {
				return yield(t.costs)
			}
		chosen:
			for n := range numbers(r.Costs[kind]) {
				t.costs[kind] = n
				belies := course{r, t}.belies
				for _, sign := range r.Signs {
					if lastOf(sign) == kind && belies(sign) {
						continue chosen
					}
				}
				if !choose(kind + 1) {
					return false
				}
			}
			return true
		}
		choose(api.StrainPlain)
	}
}

// lastOf returns the last kind of costs on which it depends whether a sign is right: no night comes before the end of the first day.
func lastOf(sign api.StrainSign) int {
	if sign.Day == 0 {
		return api.StrainFull
	}
	return api.StrainNight
}

// first returns the costs of the first truth, or nothing.
func (r rota) first() costs {
	for t := range r.truths() {
		return t.costs
	}
	return nothing
}

func (r rota) canBeTrue() bool { return r.first() != nothing }

// span returns the least and the greatest number that truths tell.
func (r rota) span(number func(t truth) int) api.Span {
	var told []int
	for t := range r.truths() {
		told = append(told, number(t))
	}
	return api.Span{Low: slices.Min(told), High: slices.Max(told)}
}

// with returns the rota of the book with one sign more. The signs are those of an argument: the third index makes append copy them.
func (r rota) with(sign api.StrainSign) rota {
	b, n := r.StrainBook, len(r.Signs)
	b.Signs = append(b.Signs[:n:n], sign)
	return newRota(b)
}

// unsigned returns the rota of the book without signs.
func (r rota) unsigned() rota {
	b := r.StrainBook
	b.Signs = nil
	return newRota(b)
}

// wrong returns the first of the shortest lists of signs that some truth belies: without these alone that truth is one of the book.
func (r rota) wrong() []int {
	var lists [][]int
	for t := range r.unsigned().truths() {
		lists = append(lists, course{r, t}.belied(r.Signs))
	}
	return slices.MinFunc(lists, func(one, other []int) int {
		return cmp.Or(cmp.Compare(len(one), len(other)), slices.Compare(one, other))
	})
}

// numbers produces all numbers of a span.
func numbers(s api.Span) iter.Seq[int] {
	return func(yield func(int) bool) {
		for more := range s.High - s.Low + 1 {
			if !yield(s.Low + more) {
				return
			}
		}
	}
}

// least returns the least of several numbers.
func least[N cmp.Ordered](n N, more ...N) N {
	for _, m := range more {
		if m < n {
			n = m
		}
	}
	return n
}
