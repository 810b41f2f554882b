package founder

import "decani/api"

// account is a gift, and how many services it has.
type account struct {
	api.FounderGift
	has int
}

// What an account tells.
const (
	left = iota
	owed
)

// tells returns the pence that were left for the gift, or that are owed to it.
func (a account) tells(what int) int {
	table := [...]struct{ pence func(a account) int }{
		left: {account.left},
		owed: {account.owed},
	}
	return table[what].pence(a)
}

func (a account) left() int { return a.Services * a.Pence }

func (a account) owed() int { return (a.Services - a.has) * a.Pence }

// tally is how many services each gift has.
type tally [api.FounderGifts]int

// noServices is the tally of a plan without any.
var noServices = tally{}

// tallyOf returns the tally of services for gifts of a book.
func tallyOf(services []api.FounderSung) tally {
	var have tally
	for _, s := range services {
		have[s.Gift]++
	}
	return have
}

// sum returns the sum of several numbers.
func sum[N ~int](several ...N) N {
	var all N
	for _, n := range several {
		all += n
	}
	return all
}
