package strain

import (
	"iter"

	"decani/api"
)

// costs are what a plain and a full service cost, and what a night gives back.
type costs [api.StrainNight + 1]int

// nothing stands for the costs where there is no truth.
var nothing = costs{-1, -1, -1}

// strengths are those of the singers.
type strengths [api.StrainSingers]int

// truth is what services cost and nights give back, and how strong the singers are.
type truth struct {
	costs
	strengths
}

// What a singer does on a day.
const (
	toSing = iota
	toRest
)

// afterSinging returns what is left to a singer who sings all services of a day.
func (t truth) afterSinging(has int, day api.StrainDay) int {
	return has - day.Plain*t.costs[api.StrainPlain] - day.Full*t.costs[api.StrainFull]
}

// afterResting returns what is left to a singer who sings none.
func (t truth) afterResting(has int, _ api.StrainDay) int { return has }

// course is a truth as it goes on by the rests of a rota.
type course struct {
	rota
	truth
}

// evenings produces each day, and how much strength a singer has left at its end.
func (c course) evenings(singer int) iter.Seq2[int, int] {
	leaves := [...]func(t truth, has int, day api.StrainDay) int{
		toSing: truth.afterSinging,
		toRest: truth.afterResting,
	}
	return func(yield func(day, left int) bool) {
		strength := c.strengths[singer]
		has := strength
		for day := range len(c.Days) {
			does := c.does[api.StrainRest{Day: day, Singer: singer}]
			left := leaves[does](c.truth, has, c.Days[day])
			if !yield(day, left) {
				return
			}
			has = least(strength, left+c.costs[api.StrainNight])
		}
	}
}

// left returns how much strength a singer has left at the end of a day.
func (c course) left(singer, day int) int {
	for evening, left := range c.evenings(singer) {
		if evening == day {
			return left
		}
	}
	return 0
}

// beyond returns the first day, not before another one, on which a singer sings beyond strength, or never.
func (c course) beyond(singer, from int) int {
	for day, left := range c.evenings(singer) {
		if day >= from && left < 0 {
			return day
		}
	}
	return never
}

// belies reports whether a sign is not right.
func (c course) belies(sign api.StrainSign) bool {
	off := sign.Left - c.left(sign.Singer, sign.Day)
	return !isIn(off, -sign.Error, sign.Error)
}

// belied returns the numbers of all signs that are not right, increasing.
func (c course) belied(signs []api.StrainSign) []int {
	var belied []int
	for i, sign := range signs {
		if c.belies(sign) {
			belied = append(belied, i)
		}
	}
	return belied
}
