package founder

import (
	"slices"

	"decani/api"
	"decani/office"
)

// chest is a valid book that is calculated with, on which days services for which gifts can be, and the one day on which two can be (or none).
type chest struct {
	api.FounderBook
	open  map[api.FounderSung]bool
	twice int
}

// newChest returns the chest of a book whose season can be true.
func newChest(b api.FounderBook) chest {
	c := chest{b, map[api.FounderSung]bool{}, none}
	for gift := range b.Gifts {
		for day := range b.Office.Days {
			s := api.FounderSung{Day: day, Gift: gift}
			c.open[s] = c.ranksLow(s)
		}
	}
	return c
}

// open returns the chest of a book, or the first error: that of the book, of what is asked, or of its notes.
func open(b api.FounderBook, asked bool) (chest, api.Errno) {
	if e := Check(b); e != api.OK {
		return chest{}, e
	}
	if !asked {
		return chest{}, api.ErrFounderAsk
	}
	if right, _ := office.Right(b.Office); !right {
		return chest{}, api.ErrFounderFalse
	}
	return newChest(b), api.OK
}

// with returns the chest of the book with a day on which two services can be.
func (c chest) with(twice int) chest {
	c.twice = twice
	return c
}

// ranksLow reports whether no chief feast of the day can have too great a rank for the gift.
func (c chest) ranksLow(s api.FounderSung) bool {
	gift := c.Gifts[s.Gift]
	chiefs, _ := office.Chief(c.Office, gift.Use, s.Day)
	return !slices.ContainsFunc(chiefs, func(chief int) bool { return c.rank(chief) > gift.Upto })
}

// rank returns the rank of a feast. That of none is below all others.
func (c chest) rank(feast int) int {
	if feast == none {
		return none
	}
	return c.Office.Feasts[feast].Rank
}

// days returns all days that are open to a gift, increasing.
func (c chest) days(gift int) []int {
	var days []int
	for day := range c.Office.Days {
		if c.open[api.FounderSung{Day: day, Gift: gift}] {
			days = append(days, day)
		}
	}
	return days
}

// gifts returns all gifts to which a day is open, increasing.
func (c chest) gifts(day int) []int {
	var gifts []int
	for gift := range c.Gifts {
		if c.open[api.FounderSung{Day: day, Gift: gift}] {
			gifts = append(gifts, gift)
		}
	}
	return gifts
}

// alone returns the most services that a gift has in any plan: a plan can leave out all other gifts.
func (c chest) alone(gift int) int {
	return min(len(c.days(gift)), c.Gifts[gift].Services)
}

// account returns the account of a gift by a plan.
func (c chest) account(gift int, plan []api.FounderSung) account {
	return account{c.Gifts[gift], tallyOf(plan)[gift]}
}

// owed returns what is owed by a plan, to all gifts together: all that was left, if nothing is sung for it.
func (c chest) owed(plan []api.FounderSung) int {
	have, what := tallyOf(plan), owed
	if have == noServices {
		what = left
	}
	var pence [api.FounderGifts]int
	for gift := range c.Gifts {
		pence[gift] = account{c.Gifts[gift], have[gift]}.tells(what)
	}
	return sum(pence[:]...)
}

// lacking returns the first gift that has not all of its services in a plan, or none.
func (c chest) lacking(plan []api.FounderSung) int {
	for gift := range c.Gifts {
		if c.account(gift, plan).tells(owed) > 0 {
			return gift
		}
	}
	return none
}
