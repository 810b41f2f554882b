package cold

import (
	"cmp"
	"iter"
	"slices"

	"decani/api"
)

// dormitory is a valid book that is calculated with, or one with further moves, and which boys are away on which days.
type dormitory struct {
	api.ColdBook
	away map[place]bool
}

func newDormitory(b api.ColdBook) dormitory {
	d := dormitory{b, map[place]bool{}}
	for _, move := range b.Moves {
		for day := range b.Days {
			if day >= move.Day {
				d.away[place{move.Bed, day}] = true
			}
		}
	}
	return d
}

// open returns the dormitory of a book, or the first error: that of the book, of what is asked, or of its hearings.
func open(b api.ColdBook, asked bool) (dormitory, api.Errno) {
	if e := Check(b); e != api.OK {
		return dormitory{}, e
	}
	if !asked {
		return dormitory{}, api.ErrColdAsk
	}
	d := newDormitory(b)
	if !d.canBeTrue() {
		return dormitory{}, api.ErrColdFalse
	}
	return d, api.OK
}

// truths produces all truths in which all hearings are right.
func (d dormitory) truths() iter.Seq[truth] {
	return func(yield func(truth) bool) {
		for begin := range d.begins() {
			for length := range d.lengths() {
				t := truth{begin, length, d.spread(begin, length[api.ColdGoes])}
				if t.days == nobody || slices.ContainsFunc(d.Heard, t.belies) {
					continue
				}
				if !yield(t) {
					return
				}
			}
		}
	}
}

// begins produces all beds and days in and on which the cold can have begun.
func (d dormitory) begins() iter.Seq[place] {
	return func(yield func(place) bool) {
		for bed := range d.Beds {
			if d.Begins>>bed&1 == 0 {
				continue
			}
		begun:
			for day := range d.Until + 1 {
				for _, heard := range d.Heard {
					if d.forbids(heard, day) {
						continue begun
					}
				}
				if !yield(place{bed, day}) {
					return
				}
			}
		}
	}
}

// forbids reports whether a hearing cannot be right if the cold begins on a day, wherever that is: nobody coughs until it has come out.
func (d dormitory) forbids(heard api.ColdHeard, day int) bool {
	return heard.Cough && heard.Day < day+d.Takes[api.ColdOut].Low
}

// lengths produces all that the cold can take.
func (d dormitory) lengths() iter.Seq[takes] {
	return func(yield func(takes) bool) {
		var t takes
		var choose func(kind int) bool
		choose = func(kind int) bool {
			if kind == len(t) {
				return yield(t)
			}
			span := d.Takes[kind]
			for more := range span.High - span.Low + 1 {
				t[kind] = span.Low + more
				if !choose(kind + 1) {
					return false
				}
			}
			return true
		}
		choose(0)
	}
}

// spread returns the days on which the boys catch a cold that begins there and takes so many days to go to the next bed. Nobody does if the first boy is away.
func (d dormitory) spread(begin place, goes int) days {
	caught := nobody
	var catch func(at place)
	catch = func(at place) {
		if !isBed(d.ColdBook, at.bed) || !isDay(d.ColdBook, at.day) || d.away[at] || caught[at.bed] != never {
			return
		}
		caught[at.bed] = at.day
		gives := place{at.bed, at.day + goes}
		if !d.away[gives] {
			catch(place{gives.bed - 1, gives.day})
			catch(place{gives.bed + 1, gives.day})
		}
	}
	catch(begin)
	return caught
}

// first returns where and when the cold began in the first truth, or nowhere.
func (d dormitory) first() place {
	for t := range d.truths() {
		return t.begin
	}
	return nowhere
}

func (d dormitory) canBeTrue() bool { return d.first() != nowhere }

// with returns the dormitory with one hearing more. The hearings are those of an argument: the third index makes append copy them.
func (d dormitory) with(heard api.ColdHeard) dormitory {
	b, n := d.ColdBook, len(d.Heard)
	b.Heard = append(b.Heard[:n:n], heard)
	return newDormitory(b)
}

// unheard returns the dormitory without hearings.
func (d dormitory) unheard() dormitory {
	b := d.ColdBook
	b.Heard = nil
	return newDormitory(b)
}

// moving returns the dormitory if the boys of some more beds are moved on a day.
func (d dormitory) moving(beds []int, day int) dormitory {
	b, n := d.ColdBook, len(d.Moves)
	b.Moves = b.Moves[:n:n]
	for _, bed := range beds {
		b.Moves = append(b.Moves, api.ColdMove{Bed: bed, Day: day})
	}
	return newDormitory(b)
}

// wrong returns the first of the shortest lists of hearings that some truth belies: without these alone that truth is one of the book. Without hearings there is a truth, since nobody is away on the first day.
func (d dormitory) wrong() []int {
	var lists [][]int
	for t := range d.unheard().truths() {
		lists = append(lists, t.belied(d.Heard))
	}
	return slices.MinFunc(lists, func(one, other []int) int {
		return cmp.Or(cmp.Compare(len(one), len(other)), slices.Compare(one, other))
	})
}

// apart returns the first of the shortest lists of beds for which there are rooms, and whose boys are to be moved on a day so that the cold stops, and whether there is one.
func (d dormitory) apart(day int) ([]int, bool) {
	stay := d.beds(func(bed int) bool { return !d.away[place{bed, day}] })
	for many := range d.Rooms + 1 {
		for beds := range choices(stay, many) {
			if d.stops(beds, day) {
				return beds, true
			}
		}
	}
	return nil, false
}

// stops reports whether nobody catches the cold from a day on if the boys of some beds are moved then. A truth that the moves rule out, since its first boy is away, does not count: nobody catches the cold in it.
func (d dormitory) stops(beds []int, day int) bool {
	moved := d.moving(beds, day)
	return !d.inSome(func(t truth) bool {
		return moved.spread(t.begin, t.takes[api.ColdGoes]).isCaughtFrom(day)
	})
}

// choices produces all lists of so many of some numbers, in the order of lists. Each list is new memory: no list that was handed on has room for more.
func choices(numbers []int, many int) iter.Seq[[]int] {
	return func(yield func([]int) bool) {
		var choose func(chosen, left []int) bool
		choose = func(chosen, left []int) bool {
			if len(chosen) == many {
				return yield(chosen)
			}
			for i, next := range left {
				if !choose(append(chosen[:len(chosen):len(chosen)], next), left[i+1:]) {
					return false
				}
			}
			return true
		}
		choose(nil, numbers)
	}
}

// least returns the least of several numbers.
func least[N cmp.Ordered](n N, more ...N) N {
	for _, m := range more {
		if m < n {
			n = m
		}
	}
	return n
}
