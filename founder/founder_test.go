package founder_test

import (
	"math"
	"slices"
	"testing"

	"decani/api"
	"decani/founder"
)

func span(low, high int) api.Span { return api.Span{Low: low, High: high} }

func feast(low, high, rank int) api.OfficeFeast {
	return api.OfficeFeast{Day: span(low, high), Rank: rank}
}

func rule(rank, to, does int) api.OfficeRule {
	return api.OfficeRule{Rank: rank, To: to, Does: does}
}

func note(use, day, chief int) api.OfficeNote {
	return api.OfficeNote{Use: use, Day: day, Chief: chief}
}

func gift(use, upto, services, pence int) api.FounderGift {
	return api.FounderGift{Use: use, Upto: upto, Services: services, Pence: pence}
}

// plan is told by two numbers for each service: the day and the gift.
func plan(n ...int) []api.FounderSung {
	var l []api.FounderSung
	for two := range slices.Chunk(n, 2) {
		l = append(l, api.FounderSung{Day: two[0], Gift: two[1]})
	}
	return l
}

type change func(b *api.FounderBook)

func days(n int) change { return func(b *api.FounderBook) { b.Office.Days = n } }

func feasts(l ...api.OfficeFeast) change {
	return func(b *api.FounderBook) { b.Office.Feasts = slices.Clone(l) }
}

func rules(use int, l ...api.OfficeRule) change {
	return func(b *api.FounderBook) { b.Office.Uses[use].Rules = slices.Clone(l) }
}

func notes(l ...api.OfficeNote) change {
	return func(b *api.FounderBook) { b.Office.Notes = slices.Clone(l) }
}

func gifts(l ...api.FounderGift) change {
	return func(b *api.FounderBook) { b.Gifts = slices.Clone(l) }
}

// book is that of the chapter's examples, changed.
func book(changes ...change) api.FounderBook {
	b := api.FounderBook{
		Office: api.OfficeBook{
			Days: 4, First: 28,
			Feasts: []api.OfficeFeast{feast(1, 2, 2), feast(1, 1, 1), feast(2, 2, 1)},
			Uses: [2]api.OfficeUse{
				{Rules: []api.OfficeRule{rule(1, 2, api.OfficeNext), rule(1, 1, api.OfficeToo)}},
				{Rules: []api.OfficeRule{rule(1, 2, api.OfficeToo)}, Goes: true},
			},
		},
		Gifts: []api.FounderGift{gift(0, -1, 2, 10), gift(0, 1, 2, 6), gift(1, 1, 1, 4)},
	}
	for _, c := range changes {
		c(&b)
	}
	return b
}

// season is a book in which each day has a feast of a rank, or none (-1), and both uses are the same.
func season(ranks []int, l ...api.FounderGift) api.FounderBook {
	b := api.FounderBook{Office: api.OfficeBook{Days: len(ranks)}, Gifts: l}
	for day, rank := range ranks {
		if rank >= 0 {
			b.Office.Feasts = append(b.Office.Feasts, feast(day, day, rank))
		}
	}
	return b
}

// free is a season of so many days without feasts.
func free(n int) []int { return slices.Repeat([]int{-1}, n) }

var (
	heard = notes(note(0, 3, 2))
	torn  = notes(note(0, 3, 2), note(1, 1, 0))
)

// invalid are changes that each make the book of the examples a wrong one.
var invalid = map[string]change{
	"nothing":           func(b *api.FounderBook) { *b = api.FounderBook{} },
	"no office":         func(b *api.FounderBook) { b.Office = api.OfficeBook{} },
	"too many days":     days(api.OfficeDays + 1),
	"fewer days":        days(2),
	"wrong feast":       feasts(feast(2, 1, 0)),
	"wrong rule":        rules(1, rule(0, 4, 0)),
	"wrong note":        notes(note(0, 0, 3)),
	"no gifts":          gifts(),
	"too many gifts":    gifts(slices.Repeat([]api.FounderGift{gift(0, 0, 1, 1)}, api.FounderGifts+1)...),
	"empty gift":        gifts(api.FounderGift{}),
	"use -1":            gifts(gift(-1, 0, 1, 1)),
	"use 2":             gifts(gift(0, 0, 1, 1), gift(2, 0, 1, 1)),
	"up to -2":          gifts(gift(0, -2, 1, 1)),
	"up to 4":           gifts(gift(0, 4, 1, 1)),
	"no services":       gifts(gift(0, 0, 0, 1)),
	"fewer services":    gifts(gift(0, 0, -1, 1)),
	"too many services": gifts(gift(0, 0, api.FounderServices+1, 1)),
	"no pence":          gifts(gift(0, 0, 1, 0)),
	"fewer pence":       gifts(gift(0, 0, 1, -1)),
	"too many pence":    gifts(gift(0, 0, 1, 1), gift(0, 0, 1, 1), gift(0, 0, 1, api.FounderPence+1)),
	"greatest numbers":  gifts(gift(math.MaxInt, math.MaxInt, math.MaxInt, math.MaxInt)),
	"least numbers":     gifts(gift(math.MinInt, math.MinInt, math.MinInt, math.MinInt)),
}

// valid are changes to the limits of what a book can be.
var valid = map[string]change{
	"as it is":       func(*api.FounderBook) {},
	"all least":      func(b *api.FounderBook) { *b = season(free(1), gift(0, -1, 1, 1)) },
	"all greatest":   gifts(slices.Repeat([]api.FounderGift{gift(1, 3, api.FounderServices, api.FounderPence)}, api.FounderGifts)...),
	"most days":      days(api.OfficeDays),
	"false as it is": torn,
}

// P9.1
func TestCheck(t *testing.T) {
	for name, c := range valid {
		if e := founder.Check(book(c)); e != api.OK {
			t.Errorf("%s: %d", name, e)
		}
	}
	for name, c := range invalid {
		b := book(c)
		// What is asked is wrong, too: the error of the book comes first.
		errors := []api.Errno{founder.Check(b)}
		open, e := founder.Open(b, -1)
		errors = append(errors, e)
		whose, e := founder.Whose(b, 9)
		errors = append(errors, e)
		may, e := founder.May(b, nil)
		errors = append(errors, e)
		owed, e := founder.Owed(b, plan(9, 9), 9)
		errors = append(errors, e)
		best, e := founder.Plan(b)
		errors = append(errors, e)
		debt, e := founder.Debt(b)
		errors = append(errors, e)
		alone, e := founder.Alone(b, -1)
		errors = append(errors, e)
		first, e := founder.First(b)
		errors = append(errors, e)
		extra, e := founder.Extra(b)
		errors = append(errors, e)
		for i, e := range errors {
			if e != api.ErrFounder {
				t.Errorf("%s: call %d: %d", name, i, e)
			}
		}
		if may || len(open)+len(whose)+len(best) != 0 || owed != 0 || debt != 0 || alone != 0 || first != 0 || extra != 0 {
			t.Errorf("%s: a result beside the error", name)
		}
	}
}

// two are the days of which one use moves a feast to the next one, and the other one leaves it out.
var two = []change{days(2), feasts(feast(0, 0, 2), feast(0, 0, 1)), rules(0, rule(1, 2, api.OfficeNext)), rules(1)}

// P9.1, P9.4
func TestOpenAndAlone(t *testing.T) {
	uses := book(append(two, gifts(gift(0, -1, 2, 1), gift(1, -1, 2, 1), gift(0, 1, 1, 1)))...)
	ranks := season([]int{-1, 0, 1, 2, 3}, gift(0, -1, 4, 9), gift(1, 0, 4, 9), gift(0, 1, 4, 9))
	higher := season([]int{-1, 0, 1, 2, 3}, gift(0, 2, 4, 9), gift(1, 3, 4, 9), gift(0, 3, 1, 9))
	for i, x := range []struct {
		b     api.FounderBook
		gift  int
		open  []int
		alone int
		e     api.Errno
	}{
		{book(), 0, []int{0}, 1, api.OK},
		{book(), 1, []int{0, 3}, 2, api.OK},
		{book(), 2, []int{0, 3}, 1, api.OK},
		{book(heard), 0, []int{0}, 1, api.OK},
		{book(heard), 1, []int{0, 1, 3}, 2, api.OK},
		{book(heard), 2, []int{0, 1, 3}, 1, api.OK},
		// A rank that is as great as it can be for the gift is not too great.
		{ranks, 0, []int{0}, 1, api.OK},
		{ranks, 1, []int{0, 1}, 2, api.OK},
		{ranks, 2, []int{0, 1, 2}, 3, api.OK},
		{higher, 0, []int{0, 1, 2, 3}, 4, api.OK},
		{higher, 1, []int{0, 1, 2, 3, 4}, 4, api.OK},
		{higher, 2, []int{0, 1, 2, 3, 4}, 1, api.OK},
		{season([]int{0, 1}, gift(0, -1, 1, 1)), 0, nil, 0, api.OK},
		{season(free(6), gift(1, -1, 3, 1)), 0, []int{0, 1, 2, 3, 4, 5}, 3, api.OK},
		// Days are open by the use of the gift.
		{uses, 0, nil, 0, api.OK},
		{uses, 1, []int{1}, 1, api.OK},
		{uses, 2, []int{1}, 1, api.OK},
		// A feast that may be on either of two days closes both.
		{book(days(3), feasts(feast(0, 1, 1)), gifts(gift(0, 0, 4, 1))), 0, []int{2}, 1, api.OK},
		{book(days(3), feasts(feast(0, 1, 1)), gifts(gift(0, 0, 4, 1)), notes(note(1, 0, -1))), 0, []int{0, 2}, 2, api.OK},
		{book(), 3, nil, 0, api.ErrFounderAsk},
		{book(), -1, nil, 0, api.ErrFounderAsk},
		{book(gifts(gift(0, 0, 1, 1))), 1, nil, 0, api.ErrFounderAsk},
		{book(torn), math.MaxInt, nil, 0, api.ErrFounderAsk},
		{book(torn), math.MinInt, nil, 0, api.ErrFounderAsk},
		{book(torn), 0, nil, 0, api.ErrFounderFalse},
	} {
		if l, e := founder.Open(x.b, x.gift); !slices.Equal(l, x.open) || e != x.e {
			t.Errorf("Open %d: %v, %d", i, l, e)
		}
		if n, e := founder.Alone(x.b, x.gift); n != x.alone || e != x.e {
			t.Errorf("Alone %d: %d, %d", i, n, e)
		}
	}
}

// P9.1
func TestWhose(t *testing.T) {
	uses := book(append(two, gifts(gift(0, -1, 2, 1), gift(1, -1, 2, 1), gift(0, 1, 1, 1)))...)
	for i, x := range []struct {
		b    api.FounderBook
		day  int
		want []int
		e    api.Errno
	}{
		{book(), 0, []int{0, 1, 2}, api.OK},
		{book(), 1, nil, api.OK},
		{book(), 2, nil, api.OK},
		{book(), 3, []int{1, 2}, api.OK},
		{book(heard), 1, []int{1, 2}, api.OK},
		{book(heard), 2, nil, api.OK},
		{uses, 0, nil, api.OK},
		{uses, 1, []int{1, 2}, api.OK},
		{season([]int{2}, gift(0, 1, 1, 1), gift(0, 3, 1, 1), gift(0, 2, 1, 1)), 0, []int{1, 2}, api.OK},
		{book(), 4, nil, api.ErrFounderAsk},
		{book(), -1, nil, api.ErrFounderAsk},
		{book(torn), 4, nil, api.ErrFounderAsk},
		{book(torn), math.MinInt, nil, api.ErrFounderAsk},
		{book(torn), 3, nil, api.ErrFounderFalse},
	} {
		if l, e := founder.Whose(x.b, x.day); !slices.Equal(l, x.want) || e != x.e {
			t.Errorf("Whose %d: %v, %d", i, l, e)
		}
	}
}

// P9.2
func TestMay(t *testing.T) {
	long := season(free(6), gift(0, -1, 4, 1), gift(1, -1, 1, 1))
	for i, x := range []struct {
		b    api.FounderBook
		plan []api.FounderSung
		want bool
		e    api.Errno
	}{
		{book(), plan(0, 0, 3, 1), true, api.OK},
		{book(), plan(3, 0), false, api.OK},
		{book(), plan(0, 0, 0, 1), false, api.OK},
		{book(), plan(3, 1, 0, 0), false, api.OK},
		{book(), nil, true, api.OK},
		{book(), []api.FounderSung{}, true, api.OK},
		{book(), plan(3, 2), true, api.OK},
		{book(), plan(0, 2, 3, 1), true, api.OK},
		// A day has one service, of whichever gifts.
		{book(), plan(0, 1, 0, 1), false, api.OK},
		{book(), plan(0, 1, 0, 0), false, api.OK},
		{book(), plan(0, 0, 3, 1, 3, 2), false, api.OK},
		// Days must be open.
		{book(), plan(1, 1), false, api.OK},
		{book(heard), plan(1, 1), true, api.OK},
		{book(), plan(0, 0, 2, 1, 3, 1), false, api.OK},
		// No gift has more than its services.
		{book(), plan(0, 2, 3, 2), false, api.OK},
		{book(), plan(0, 1, 3, 1), true, api.OK},
		{book(heard), plan(0, 1, 1, 1, 3, 1), false, api.OK},
		{book(heard), plan(0, 1, 1, 2, 3, 1), true, api.OK},
		{long, plan(0, 0, 1, 0, 3, 0, 5, 0), true, api.OK},
		{long, plan(0, 0, 1, 0, 3, 0, 4, 0, 5, 0), false, api.OK},
		{long, plan(0, 0, 1, 0, 2, 1, 3, 0, 4, 0), true, api.OK},
		{long, plan(0, 0, 1, 1, 2, 0, 3, 1), false, api.OK},
		// Whatever numbers are in it.
		{book(), plan(0, 3), false, api.OK},
		{book(), plan(0, -1), false, api.OK},
		{book(), plan(4, 1), false, api.OK},
		{book(), plan(-1, 0), false, api.OK},
		{book(), plan(-1, -1), false, api.OK},
		{book(), plan(0, 0, 3, math.MaxInt), false, api.OK},
		{book(), plan(math.MinInt, math.MinInt, 0, 0), false, api.OK},
		{book(), plan(0, 0, math.MaxInt, 1), false, api.OK},
		{long, make([]api.FounderSung, 100), false, api.OK},
		{book(torn), nil, false, api.ErrFounderFalse},
		{book(torn), plan(9, 9), false, api.ErrFounderFalse},
	} {
		if is, e := founder.May(x.b, x.plan); is != x.want || e != x.e {
			t.Errorf("May %d: %v, %d", i, is, e)
		}
	}
}

// P9.2
func TestOwed(t *testing.T) {
	for i, x := range []struct {
		b    api.FounderBook
		plan []api.FounderSung
		gift int
		want int
		e    api.Errno
	}{
		{book(), plan(0, 0, 3, 1), 0, 10, api.OK},
		{book(), plan(0, 0, 3, 1), 1, 6, api.OK},
		{book(), plan(0, 0, 3, 1), 2, 4, api.OK},
		{book(), nil, 0, 20, api.OK},
		{book(), nil, 1, 12, api.OK},
		{book(), []api.FounderSung{}, 2, 4, api.OK},
		{book(), plan(0, 1, 3, 1), 1, 0, api.OK},
		{book(), plan(0, 2), 2, 0, api.OK},
		{season(free(1), gift(0, -1, 4, 99)), nil, 0, 396, api.OK},
		{season(free(1), gift(0, -1, 4, 99)), plan(0, 0), 0, 297, api.OK},
		{book(), nil, 3, 0, api.ErrFounderAsk},
		{book(), nil, -1, 0, api.ErrFounderAsk},
		{book(), plan(3, 0), 0, 0, api.ErrFounderAsk},
		{book(), plan(3, 0), 2, 0, api.ErrFounderAsk},
		{book(), plan(0, 0, 0, 1), 0, 0, api.ErrFounderAsk},
		{book(), plan(0, 0, 9, 9), 0, 0, api.ErrFounderAsk},
		{book(), plan(0, math.MaxInt), 0, 0, api.ErrFounderAsk},
		// A wrong gift is named before what cannot be true, a wrong plan after it.
		{book(torn), nil, 3, 0, api.ErrFounderAsk},
		{book(torn), plan(9, 9), 0, 0, api.ErrFounderFalse},
		{book(torn), nil, 0, 0, api.ErrFounderFalse},
	} {
		if n, e := founder.Owed(x.b, x.plan, x.gift); n != x.want || e != x.e {
			t.Errorf("Owed %d: %d, %d", i, n, e)
		}
	}
}

// nobody stands for the gift, or the day, that First or Extra does not find.
const nobody = -1

// P9.3, P9.5, P9.6
func TestPlanDebtFirstAndExtra(t *testing.T) {
	open := func(services, pence int) api.FounderGift { return gift(0, -1, services, pence) }
	for i, x := range []struct {
		b                  api.FounderBook
		plan               []api.FounderSung
		debt, first, extra int
	}{
		{book(), plan(0, 0, 3, 1), 20, 0, 0},
		{book(heard), plan(0, 0, 1, 1, 3, 1), 14, 0, 0},
		// One gift alone has its first open days, and never two services on a day.
		{season(free(3), open(1, 5)), plan(0, 0), 0, nobody, nobody},
		{season(free(3), open(4, 5)), plan(0, 0, 1, 0, 2, 0), 5, 0, nobody},
		{season([]int{0, -1, 1, -1}, open(3, 9)), plan(1, 0, 3, 0), 9, 0, nobody},
		{season([]int{0}, open(4, 99)), nil, 396, 0, nobody},
		{season([]int{0}, open(1, 1), gift(0, 0, 1, 1)), plan(0, 1), 1, 0, nobody},
		// The least that is owed comes before the first gift, and before the most services.
		{season(free(1), open(1, 5), open(1, 7), open(2, 3)), plan(0, 1), 11, 0, 0},
		{season(free(2), open(1, 5), open(1, 7), open(2, 3)), plan(0, 0, 1, 1), 6, 2, 0},
		{season(free(3), open(1, 5), open(1, 7), open(2, 3)), plan(0, 0, 1, 1, 2, 2), 3, 2, 0},
		{season(free(4), open(1, 5), open(1, 7), open(2, 3)), plan(0, 0, 1, 1, 2, 2, 3, 2), 0, nobody, nobody},
		{season(free(6), open(4, 2), open(1, 9)), plan(0, 0, 1, 0, 2, 0, 3, 0, 4, 1), 0, nobody, nobody},
		{season([]int{-1, 1}, open(1, 9), gift(0, 1, 2, 4)), plan(0, 0, 1, 1), 4, 1, 0},
		{season([]int{-1, 1}, open(1, 3), gift(0, 1, 2, 4)), plan(0, 1, 1, 1), 3, 0, 0},
		// Of several plans by which as little is owed the first one.
		{season(free(2), open(1, 5), open(1, 5), open(1, 5)), plan(0, 0, 1, 1), 5, 2, 0},
		{season(free(2), open(2, 5), open(2, 5)), plan(0, 0, 1, 0), 10, 1, 0},
		{season([]int{-1, 2}, gift(0, 2, 1, 5), open(1, 1)), plan(0, 1, 1, 0), 0, nobody, nobody},
		{season([]int{2, -1}, gift(0, 2, 1, 5), open(1, 1)), plan(0, 0, 1, 1), 0, nobody, nobody},
		// A second service helps on a day that is open to another gift.
		{season([]int{3, -1}, open(1, 5), gift(0, 3, 2, 1)), plan(0, 1, 1, 0), 1, 1, 1},
		{season([]int{0, -1}, open(2, 5), open(1, 4)), plan(1, 0), 9, 0, 1},
		{season([]int{0, -1}, open(2, 5), gift(1, 3, 1, 4)), plan(0, 1, 1, 0), 5, 0, nobody},
		// It helps on both days, but more on the later one.
		{season([]int{2, -1}, gift(0, 2, 2, 30), open(1, 20), gift(0, 2, 1, 1)), plan(0, 0, 1, 0), 21, 1, 1},
		// Three services on the day 1 would help more than two on the day 0, but there are not three.
		{season([]int{0, -1}, gift(0, 0, 2, 5), gift(0, 0, 2, 5), open(1, 1)), plan(0, 0, 1, 0), 11, 1, 0},
		// By one use there is a feast on the day 1, by the other one there is none.
		{book(append(two, gifts(gift(0, -1, 1, 9), gift(1, -1, 1, 1)))...), plan(1, 1), 9, 0, nobody},
	} {
		if l, e := founder.Plan(x.b); !slices.Equal(l, x.plan) || e != api.OK {
			t.Errorf("Plan %d: %v, %d", i, l, e)
		}
		if n, e := founder.Debt(x.b); n != x.debt || e != api.OK {
			t.Errorf("Debt %d: %d, %d", i, n, e)
		}
		if n, e := founder.First(x.b); !isNumber(n, e, x.first) {
			t.Errorf("First %d: %d, %d", i, n, e)
		}
		if n, e := founder.Extra(x.b); !isNumber(n, e, x.extra) {
			t.Errorf("Extra %d: %d, %d", i, n, e)
		}
	}
}

// isNumber reports whether a result is the number that is wanted, or ErrNone for nobody.
func isNumber(n int, e api.Errno, want int) bool {
	if want == nobody {
		return n == 0 && e == api.ErrNone
	}
	return n == want && e == api.OK
}

// P9.3, P9.5, P9.6
func TestFalse(t *testing.T) {
	b := book(torn)
	l, e := founder.Plan(b)
	debt, f := founder.Debt(b)
	first, g := founder.First(b)
	extra, h := founder.Extra(b)
	for i, e := range []api.Errno{e, f, g, h} {
		if e != api.ErrFounderFalse {
			t.Errorf("call %d: %d", i, e)
		}
	}
	if len(l) != 0 || debt != 0 || first != 0 || extra != 0 {
		t.Errorf("a result beside the error: %v, %d, %d, %d", l, debt, first, extra)
	}
}

// P9.7: lists have room for more, so that whoever writes behind their ends is found out.
func TestMemory(t *testing.T) {
	b := book(heard)
	b.Gifts = append(make([]api.FounderGift, 0, 9), b.Gifts...)
	spare := append(make([]api.FounderSung, 0, 9), plan(0, 0, 1, 1, 3, 1)...)
	was, left := slices.Clone(spare[:9]), slices.Clone(b.Gifts[:9])
	if is, e := founder.May(b, spare[:1]); !is || e != api.OK {
		t.Errorf("May: %v, %d", is, e)
	}
	if n, e := founder.Owed(b, spare[:2], 1); n != 6 || e != api.OK {
		t.Errorf("Owed: %d, %d", n, e)
	}
	if n, e := founder.Extra(b); n != 0 || e != api.OK {
		t.Errorf("Extra: %d, %d", n, e)
	}
	if !slices.Equal(spare[:9], was) || !slices.Equal(b.Gifts[:9], left) {
		t.Errorf("written: %v, %v", spare[:9], b.Gifts[:9])
	}
	for name, call := range map[string]func() []int{
		"Open":  func() []int { l, _ := founder.Open(b, 1); return l },
		"Whose": func() []int { l, _ := founder.Whose(b, 0); return l },
	} {
		one := call()
		want := slices.Clone(one)
		for i := range one {
			one[i] = 77
		}
		if len(want) == 0 || !slices.Equal(call(), want) {
			t.Errorf("%s: two results share memory", name)
		}
	}
	one, _ := founder.Plan(b)
	want := slices.Clone(one)
	clear(one)
	if other, _ := founder.Plan(b); len(want) == 0 || !slices.Equal(other, want) {
		t.Errorf("Plan: two results share memory")
	}
}
