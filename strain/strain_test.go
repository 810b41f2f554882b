package strain_test

import (
	"math"
	"slices"
	"testing"

	"decani/api"
	"decani/strain"
)

func span(low, high int) api.Span { return api.Span{Low: low, High: high} }

func just(n int) api.Span { return span(n, n) }

func day(plain, full, needs int) api.StrainDay {
	return api.StrainDay{Plain: plain, Full: full, Needs: needs}
}

// plan are rests: days and singers by turns.
func plan(l ...int) []api.StrainRest {
	var plan []api.StrainRest
	for i := 0; i < len(l); i += 2 {
		plan = append(plan, api.StrainRest{Day: l[i], Singer: l[i+1]})
	}
	return plan
}

func sign(singer, day, left, wrong int) api.StrainSign {
	return api.StrainSign{Singer: singer, Day: day, Left: left, Error: wrong}
}

type change func(b *api.StrainBook)

func singers(l ...api.Span) change {
	return func(b *api.StrainBook) { b.Singers = slices.Clone(l) }
}

func costs(kind int, s api.Span) change { return func(b *api.StrainBook) { b.Costs[kind] = s } }

func days(l ...api.StrainDay) change {
	return func(b *api.StrainBook) { b.Days = slices.Clone(l) }
}

func needs(day, n int) change { return func(b *api.StrainBook) { b.Days[day].Needs = n } }

func rests(l ...int) change { return func(b *api.StrainBook) { b.Rests = plan(l...) } }

func signs(l ...api.StrainSign) change {
	return func(b *api.StrainBook) { b.Signs = slices.Clone(l) }
}

// book is that of the chapter's examples, changed.
func book(changes ...change) api.StrainBook {
	b := api.StrainBook{
		Singers: []api.Span{span(10, 11), just(8)},
		Costs:   [3]api.Span{span(2, 3), just(4), span(3, 4)},
		Days:    []api.StrainDay{day(1, 1, 1), day(0, 1, 1), day(0, 1, 1), day(2, 0, 1)},
	}
	for _, c := range changes {
		c(&b)
	}
	return b
}

var (
	tried = signs(sign(0, 0, 3, 0))
	torn  = signs(sign(0, 0, 3, 0), sign(1, 0, 2, 0))
	great = needs(1, 2)
)

// light is a book of one singer, in which nothing is known but the numbers.
func light(strength, plain, full, night int, l ...api.StrainDay) api.StrainBook {
	return api.StrainBook{
		Singers: []api.Span{just(strength)},
		Costs:   [3]api.Span{just(plain), just(full), just(night)},
		Days:    l,
	}
}

// changed is a book with a change.
func changed(b api.StrainBook, changes ...change) api.StrainBook {
	for _, c := range changes {
		c(&b)
	}
	return b
}

// invalid are changes that each make the book of the examples a wrong one.
var invalid = map[string]change{
	"nothing":               func(b *api.StrainBook) { *b = api.StrainBook{} },
	"no singer":             singers(),
	"too many singers":      singers(just(1), just(1), just(1), just(1)),
	"negative strength":     singers(just(1), span(-1, 0)),
	"too much strength":     singers(span(29, 31)),
	"strength too wide":     singers(span(5, 8)),
	"strength ends first":   singers(span(6, 5)),
	"strength of all":       singers(span(math.MinInt, math.MaxInt)),
	"plain gives back":      costs(api.StrainPlain, span(-1, 0)),
	"plain ends first":      costs(api.StrainPlain, span(3, 2)),
	"plain too wide":        costs(api.StrainPlain, span(2, 4)),
	"full costs too much":   costs(api.StrainFull, span(6, 7)),
	"full costs all":        costs(api.StrainFull, span(0, math.MaxInt)),
	"night costs":           costs(api.StrainNight, just(-1)),
	"night gives too much":  costs(api.StrainNight, just(7)),
	"night too wide":        costs(api.StrainNight, span(0, 2)),
	"no day":                days(),
	"too many days":         days(make([]api.StrainDay, api.StrainDays+1)...),
	"too many plain":        days(day(3, 0, 0)),
	"plain negative":        days(day(-1, 0, 0)),
	"too many full":         days(day(0, 0, 0), day(0, 3, 0)),
	"full negative":         days(day(0, -1, 0)),
	"needs too many":        needs(3, 4),
	"needs negative":        needs(0, -1),
	"rest's day 4":          rests(0, 0, 4, 0),
	"rest's day negative":   rests(-1, 0),
	"rest's singer 2":       rests(0, 2),
	"rest's singer -1":      rests(0, -1),
	"too many rests":        rests(0, 0, 1, 0, 2, 0, 3, 0, 0, 1, 1, 1, 2, 1),
	"sign's singer 2":       signs(sign(2, 0, 0, 0)),
	"sign's singer -1":      signs(sign(0, 0, 3, 0), sign(-1, 0, 0, 0)),
	"sign's day 4":          signs(sign(0, 4, 0, 0)),
	"sign's day -1":         signs(sign(0, -1, 0, 0)),
	"sign tells too little": signs(sign(0, 0, -151, 0)),
	"sign tells too much":   signs(sign(0, 0, 31, 0)),
	"sign too wrong":        signs(sign(0, 0, 3, 4)),
	"sign's error negative": signs(sign(0, 0, 3, -1)),
	"too many signs":        signs(make([]api.StrainSign, api.StrainSigns+1)...),
}

// valid are changes to the limits of what a book can be.
var valid = map[string]change{
	"as it is": func(*api.StrainBook) {},
	"all least": func(b *api.StrainBook) {
		*b = api.StrainBook{Singers: []api.Span{just(0)}, Days: []api.StrainDay{day(0, 0, 0)}}
	},
	"all greatest": func(b *api.StrainBook) {
		*b = api.StrainBook{
			Singers: []api.Span{span(28, 30), just(30), just(30)},
			Costs:   [3]api.Span{span(5, 6), just(6), just(6)},
			Days:    []api.StrainDay{day(2, 2, 3), day(2, 2, 3), day(2, 2, 3), day(2, 2, 3), day(2, 2, 3)},
		}
	},
	"needs more than there are": needs(0, 3),
	"all rests":                 rests(3, 1, 0, 0, 1, 0, 2, 0, 3, 0, 0, 1),
	"one rest again and again":  rests(1, 0, 1, 0, 1, 0),
	"empty rests":               func(b *api.StrainBook) { b.Rests = []api.StrainRest{} },
	"least sign":                signs(sign(1, 3, -150, 3)),
	"greatest sign":             signs(sign(1, 3, 30, 0)),
	"all signs":                 signs(make([]api.StrainSign, api.StrainSigns)...),
	"empty signs":               func(b *api.StrainBook) { b.Signs = []api.StrainSign{} },
	"false as it is":            torn,
}

// P4.1
func TestCheck(t *testing.T) {
	for name, c := range valid {
		if e := strain.Check(book(c)); e != api.OK {
			t.Errorf("%s: %d", name, e)
		}
	}
	for name, c := range invalid {
		b := book(c)
		// What is asked is wrong, too: the error of the book comes first.
		errors := []api.Errno{strain.Check(b)}
		is, e := strain.Right(b)
		errors = append(errors, e)
		left, e := strain.Left(b, -1, 9)
		errors = append(errors, e)
		cost, e := strain.Costs(b, 3)
		errors = append(errors, e)
		beyond, e := strain.Beyond(b, -1)
		errors = append(errors, e)
		first, who, e := strain.First(b)
		errors = append(errors, e)
		may, e := strain.May(b, nil)
		errors = append(errors, e)
		safe, e := strain.Safe(b, plan(9, 9))
		errors = append(errors, e)
		best, e := strain.Plan(b)
		errors = append(errors, e)
		fits, e := strain.Fits(b, sign(9, 9, 0, 0))
		errors = append(errors, e)
		wrong, e := strain.Wrong(b)
		errors = append(errors, e)
		for i, e := range errors {
			if e != api.ErrStrain {
				t.Errorf("%s: call %d: %d", name, i, e)
			}
		}
		if is || may || safe || fits || left != cost || cost != (api.Span{}) || beyond != 0 || first != 0 || who != 0 || len(best)+len(wrong) != 0 {
			t.Errorf("%s: a result beside the error", name)
		}
	}
}

// P4.1
func TestRight(t *testing.T) {
	for i, x := range []struct {
		b    api.StrainBook
		want bool
	}{
		{book(), true},
		{book(tried), true},
		{book(torn), false},
		{book(signs(sign(1, 0, 2, 0))), true},
		{book(signs(sign(1, 0, 3, 0))), false},
		{book(signs(sign(1, 0, 3, 1))), true},
		{book(signs(sign(1, 0, 5, 3))), true},
		{book(signs(sign(1, 0, 6, 3))), false},
		{book(signs(sign(1, 0, -2, 3))), true},
		{book(signs(sign(1, 0, -3, 3))), false},
		{book(signs(sign(1, 0, -150, 3))), false},
		// Services cost all the same: what is left to one tells of the other one.
		{book(signs(sign(0, 0, 5, 0), sign(1, 0, 2, 0))), true},
		{book(signs(sign(0, 0, 5, 0), sign(1, 0, 1, 0))), false},
		{book(signs(sign(0, 0, 5, 0), sign(1, 0, 1, 1))), true},
		// By the rests of the book.
		{book(rests(0, 1), signs(sign(1, 0, 8, 0))), true},
		{book(rests(0, 1), signs(sign(1, 0, 2, 0))), false},
		{book(rests(0, 0), signs(sign(0, 0, 11, 0), sign(0, 1, 6, 0))), false},
		{book(rests(0, 0), signs(sign(0, 0, 11, 0), sign(0, 1, 7, 0))), true},
		// A night before tells of both costs.
		{book(signs(sign(1, 0, 1, 0), sign(1, 1, 0, 0), sign(1, 2, -1, 0))), true},
		{book(signs(sign(1, 0, 1, 0), sign(1, 1, 0, 0), sign(1, 2, 0, 0))), false},
	} {
		if is, e := strain.Right(x.b); is != x.want || e != api.OK {
			t.Errorf("Right %d: %v, %d", i, is, e)
		}
	}
}

// P4.2
func TestLeft(t *testing.T) {
	for i, x := range []struct {
		b           api.StrainBook
		singer, day int
		want        api.Span
		e           api.Errno
	}{
		{book(), 0, 0, span(3, 5), api.OK},
		{book(), 0, 1, span(2, 5), api.OK},
		{book(), 0, 2, span(1, 5), api.OK},
		{book(), 0, 3, span(-2, 5), api.OK},
		{book(), 1, 2, span(-1, 2), api.OK},
		{book(tried), 1, 0, just(1), api.OK},
		{book(tried), 0, 1, span(2, 3), api.OK},
		{book(tried), 0, 0, just(3), api.OK},
		{book(signs(sign(0, 0, 3, 1))), 0, 0, span(3, 4), api.OK},
		// Who rests loses nothing, and never has more than at first.
		{book(rests(0, 0)), 0, 0, span(10, 11), api.OK},
		{book(rests(0, 0)), 0, 1, span(6, 7), api.OK},
		{book(rests(0, 0, 0, 0)), 0, 1, span(6, 7), api.OK},
		{book(rests(1, 0)), 0, 1, span(6, 9), api.OK},
		{book(rests(1, 0)), 0, 2, span(5, 7), api.OK},
		{book(rests(1, 0)), 1, 2, span(-1, 2), api.OK},
		// Services of a day cost one by one; whoever rests below 0 stays there.
		{light(30, 6, 5, 0, day(2, 2, 0)), 0, 0, just(8), api.OK},
		{light(5, 6, 6, 0, day(2, 2, 0), day(2, 2, 0)), 0, 1, just(-43), api.OK},
		{changed(light(5, 6, 0, 2, day(2, 0, 0), day(2, 0, 0), day(1, 0, 0)), rests(1, 0)), 0, 1, just(-5), api.OK},
		{changed(light(5, 6, 0, 2, day(2, 0, 0), day(2, 0, 0), day(1, 0, 0)), rests(1, 0)), 0, 2, just(-9), api.OK},
		{light(5, 1, 0, 6, day(1, 0, 0), day(1, 0, 0)), 0, 1, just(4), api.OK},
		{book(), 2, 0, api.Span{}, api.ErrStrainAsk},
		{book(), -1, 0, api.Span{}, api.ErrStrainAsk},
		{book(), 0, 4, api.Span{}, api.ErrStrainAsk},
		{book(torn), 0, -1, api.Span{}, api.ErrStrainAsk},
		{book(torn), 0, 0, api.Span{}, api.ErrStrainFalse},
	} {
		if s, e := strain.Left(x.b, x.singer, x.day); s != x.want || e != x.e {
			t.Errorf("Left %d: %v, %d", i, s, e)
		}
	}
}

// P4.2
func TestCosts(t *testing.T) {
	for i, x := range []struct {
		b    api.StrainBook
		kind int
		want api.Span
		e    api.Errno
	}{
		{book(), api.StrainPlain, span(2, 3), api.OK},
		{book(), api.StrainFull, just(4), api.OK},
		{book(), api.StrainNight, span(3, 4), api.OK},
		{book(tried), api.StrainPlain, just(3), api.OK},
		{book(tried), api.StrainFull, just(4), api.OK},
		{book(tried), api.StrainNight, span(3, 4), api.OK},
		{book(signs(sign(0, 0, 4, 0))), api.StrainPlain, span(2, 3), api.OK},
		{book(signs(sign(1, 1, 0, 0))), api.StrainNight, just(3), api.OK},
		{book(signs(sign(1, 1, 0, 0))), api.StrainPlain, just(3), api.OK},
		{book(signs(sign(1, 1, 1, 0))), api.StrainNight, span(3, 4), api.OK},
		{book(signs(sign(1, 1, 2, 0))), api.StrainNight, just(4), api.OK},
		{book(signs(sign(1, 1, 2, 0))), api.StrainPlain, just(2), api.OK},
		{book(), 3, api.Span{}, api.ErrStrainAsk},
		{book(torn), -1, api.Span{}, api.ErrStrainAsk},
		{book(torn), 2, api.Span{}, api.ErrStrainFalse},
	} {
		if s, e := strain.Costs(x.b, x.kind); s != x.want || e != x.e {
			t.Errorf("Costs %d: %v, %d", i, s, e)
		}
	}
}

// P4.3
func TestBeyond(t *testing.T) {
	for i, x := range []struct {
		b            api.StrainBook
		singer, want int
		e            api.Errno
	}{
		{book(), 0, 3, api.OK},
		{book(), 1, 2, api.OK},
		{book(rests(0, 0)), 0, 0, api.ErrNone},
		{book(rests(0, 1)), 1, 0, api.ErrNone},
		{book(rests(2, 1)), 1, 0, api.ErrNone},
		{book(rests(3, 1)), 1, 2, api.OK},
		{book(signs(sign(1, 0, 2, 0))), 1, 3, api.OK},
		{book(signs(sign(1, 0, 2, 0), sign(1, 2, 2, 0))), 1, 0, api.ErrNone},
		// Also on days that are not open, and just at 0 nobody sings beyond strength.
		{book(signs(sign(1, 2, -1, 0))), 1, 2, api.OK},
		{light(5, 6, 0, 0, day(1, 0, 0)), 0, 0, api.OK},
		{light(6, 6, 0, 0, day(1, 0, 0)), 0, 0, api.ErrNone},
		{light(6, 6, 0, 6, day(1, 0, 0), day(0, 0, 0), day(2, 0, 0)), 0, 2, api.OK},
		{book(), 2, 0, api.ErrStrainAsk},
		{book(torn), -1, 0, api.ErrStrainAsk},
		{book(torn), 0, 0, api.ErrStrainFalse},
	} {
		if n, e := strain.Beyond(x.b, x.singer); n != x.want || e != x.e {
			t.Errorf("Beyond %d: %d, %d", i, n, e)
		}
	}
}

// free is a book of full days on which nothing costs anything.
func free(full ...int) api.StrainBook {
	var l []api.StrainDay
	for _, n := range full {
		l = append(l, day(0, n, 0))
	}
	return light(0, 0, 0, 0, l...)
}

// P4.4
func TestFirst(t *testing.T) {
	for i, x := range []struct {
		b           api.StrainBook
		day, singer int
		e           api.Errno
	}{
		// The day 2 is a third full day for the singer 0, and on it the singer 1 sings beyond strength, too.
		{book(), 2, 0, api.OK},
		{book(rests(0, 0)), 2, 1, api.OK},
		{book(rests(0, 0, 1, 1)), 0, 0, api.ErrNone},
		{book(rests(2, 0, 1, 1)), 0, 0, api.ErrNone},
		{book(rests(3, 0, 3, 1)), 2, 0, api.OK},
		// Days that are not open do not count, but days before a third full day need not be open.
		{book(signs(sign(0, 1, 2, 3))), 2, 0, api.OK},
		{book(rests(1, 0), signs(sign(1, 2, -1, 0))), 3, 1, api.OK},
		{book(signs(sign(1, 3, -4, 0))), 0, 0, api.ErrNone},
		{free(1, 2, 1), 2, 0, api.OK},
		{free(1, 1), 0, 0, api.ErrNone},
		{free(1, 1, 0, 1, 1), 0, 0, api.ErrNone},
		{free(0, 1, 1, 1), 3, 0, api.OK},
		{free(0, 0, 1, 2, 2), 4, 0, api.OK},
		{changed(free(1, 1, 1, 1, 1), rests(2, 0)), 0, 0, api.ErrNone},
		{changed(free(1, 1, 1, 1, 1), rests(1, 0)), 4, 0, api.OK},
		{changed(free(1, 1, 1, 1, 1), rests(4, 0, 2, 0)), 0, 0, api.ErrNone},
		{changed(free(1, 1, 1, 1, 1), signs(sign(0, 2, 0, 0))), 3, 0, api.OK},
		{changed(free(1, 1, 1), singers(just(0), just(0)), rests(1, 0)), 2, 1, api.OK},
		{changed(free(1, 1, 1), singers(just(0), just(0)), needs(0, 3)), 2, 0, api.OK},
		// That too few sing is no reason for a rest.
		{changed(free(0), needs(0, 3)), 0, 0, api.ErrNone},
		// Of several the first day, then the first singer.
		{changed(light(4, 5, 0, 0, day(0, 0, 0), day(1, 0, 0)), singers(just(5), just(4), just(3))), 1, 1, api.OK},
		{changed(light(4, 3, 0, 0, day(1, 0, 0), day(1, 0, 0)), singers(just(5), just(6), just(2))), 0, 2, api.OK},
		{book(torn), 0, 0, api.ErrStrainFalse},
	} {
		if day, singer, e := strain.First(x.b); day != x.day || singer != x.singer || e != x.e {
			t.Errorf("First %d: %d, %d, %d", i, day, singer, e)
		}
	}
}

// P4.5
func TestMay(t *testing.T) {
	for i, x := range []struct {
		b    api.StrainBook
		plan []api.StrainRest
		want bool
	}{
		{book(), plan(0, 0, 1, 1), true},
		{book(), plan(1, 1, 0, 0), false},
		{book(tried), plan(0, 0), false},
		{book(tried), plan(1, 0), true},
		{book(), nil, true},
		{book(), []api.StrainRest{}, true},
		{book(), plan(0, 0, 0, 0), false},
		{book(), plan(0, 0, 0, 1), true},
		{book(), plan(0, 1, 0, 0), false},
		{book(), plan(0, 1, 1, 0), true},
		{book(), plan(0, 0, 0, 1, 1, 0, 1, 1, 2, 0, 2, 1, 3, 0, 3, 1), true},
		{book(rests(1, 1)), plan(1, 1), false},
		{book(rests(1, 1)), plan(1, 0, 2, 1), true},
		{book(), plan(4, 0), false},
		{book(), plan(-1, 0), false},
		{book(), plan(0, 2), false},
		{book(), plan(0, -1), false},
		{book(), plan(0, 0, math.MaxInt, math.MaxInt), false},
		// Behind the greatest day of all signs, whatever comes last, and whether the book can be true or not.
		{book(signs(sign(0, 2, 2, 3), sign(0, 0, 3, 3))), plan(2, 1), false},
		{book(signs(sign(0, 2, 2, 3), sign(0, 0, 3, 3))), plan(3, 1), true},
		{book(signs(sign(0, 3, 2, 3))), plan(3, 1), false},
		{book(signs(sign(0, 3, 2, 3))), nil, true},
		{book(torn), plan(1, 1), true},
		{book(torn), plan(0, 1), false},
	} {
		if is, e := strain.May(x.b, x.plan); is != x.want || e != api.OK {
			t.Errorf("May %d: %v, %d", i, is, e)
		}
	}
}

// P4.5
func TestSafe(t *testing.T) {
	tired := changed(light(5, 6, 0, 2, day(2, 0, 0), day(1, 0, 0), day(0, 0, 0)), signs(sign(0, 0, -7, 0)))
	for i, x := range []struct {
		b    api.StrainBook
		plan []api.StrainRest
		want bool
		e    api.Errno
	}{
		{book(), plan(0, 0, 1, 1), true, api.OK},
		{book(), plan(0, 0), false, api.OK},
		{book(), plan(1, 0, 1, 1), false, api.OK},
		{book(), nil, false, api.OK},
		{book(), plan(0, 0, 2, 1), true, api.OK},
		{book(), plan(2, 0, 2, 1), false, api.OK},
		{book(rests(0, 0)), plan(1, 1), true, api.OK},
		{book(rests(1, 1)), plan(0, 0), true, api.OK},
		{book(rests(0, 0, 1, 1)), nil, true, api.OK},
		// As many sing as are needed, also where more are needed than there are.
		{book(great), plan(0, 0, 1, 1), false, api.OK},
		{book(great), plan(0, 0, 2, 1), true, api.OK},
		{book(great, signs(sign(1, 0, 2, 0))), plan(2, 0, 3, 1), false, api.OK},
		{book(needs(0, 2), rests(0, 0)), plan(1, 1), false, api.OK},
		{changed(free(0), needs(0, 2)), nil, false, api.OK},
		{changed(free(0, 0), needs(0, 3), signs(sign(0, 0, 0, 0))), nil, true, api.OK},
		{changed(free(0), needs(0, 1)), plan(0, 0), false, api.OK},
		{changed(free(0), needs(0, 1), rests(0, 0, 0, 0)), nil, false, api.OK},
		{changed(free(0), singers(just(0), just(0)), needs(0, 1), rests(0, 0, 0, 0)), nil, true, api.OK},
		// A plan is safe in all truths of the book, by the signs that there are.
		{book(tried), plan(1, 0, 2, 1), true, api.OK},
		{book(tried), plan(1, 0, 3, 1), false, api.OK},
		{book(needs(2, 0), signs(sign(0, 0, 5, 0), sign(0, 1, 5, 0))), plan(2, 0, 2, 1), true, api.OK},
		{book(needs(2, 0), signs(sign(0, 0, 5, 0), sign(0, 1, 5, 0))), plan(2, 0), false, api.OK},
		{book(needs(2, 0), signs(sign(0, 0, 5, 0), sign(0, 1, 5, 0))), plan(2, 1, 3, 0), false, api.OK},
		// Whoever rests with less than 0 left is beyond strength, too, as less than 0 is left.
		{tired, nil, false, api.OK},
		{tired, plan(1, 0), false, api.OK},
		{tired, plan(1, 0, 2, 0), false, api.OK},
		// No day is open.
		{book(signs(sign(1, 3, -4, 0))), nil, true, api.OK},
		{book(), plan(1, 1, 0, 0), false, api.ErrStrainAsk},
		{book(tried), plan(0, 0), false, api.ErrStrainAsk},
		{book(torn), plan(0, 0), false, api.ErrStrainAsk},
		{book(torn), plan(1, 0), false, api.ErrStrainFalse},
		{book(torn), nil, false, api.ErrStrainFalse},
	} {
		if is, e := strain.Safe(x.b, x.plan); is != x.want || e != x.e {
			t.Errorf("Safe %d: %v, %d", i, is, e)
		}
	}
}

// P4.6
func TestPlan(t *testing.T) {
	three := singers(just(0), just(0), just(0))
	for i, x := range []struct {
		b    api.StrainBook
		want []api.StrainRest
		e    api.Errno
	}{
		{book(), plan(0, 0, 1, 1), api.OK},
		{book(tried), plan(1, 0, 2, 1), api.OK},
		{book(great), plan(0, 0, 2, 1), api.OK},
		{book(rests(0, 0)), plan(1, 1), api.OK},
		{book(rests(0, 0, 1, 1)), nil, api.OK},
		{book(signs(sign(1, 3, -4, 0))), nil, api.OK},
		{free(1, 1, 1), plan(0, 0), api.OK},
		{changed(free(1, 1, 1), needs(0, 1)), plan(1, 0), api.OK},
		{changed(free(1, 1, 1), needs(0, 1), needs(1, 1)), plan(2, 0), api.OK},
		{changed(free(1, 1, 1), needs(0, 1), needs(1, 1), needs(2, 1)), nil, api.ErrNone},
		// One rest on the day 2 is better than two others that come before.
		{free(1, 1, 1, 1, 1), plan(2, 0), api.OK},
		{changed(free(1, 1, 1, 1, 1), needs(2, 1)), plan(0, 0, 3, 0), api.OK},
		{changed(free(1, 1, 1, 1, 1), signs(sign(0, 2, 0, 0))), plan(3, 0), api.OK},
		{changed(free(1, 1, 1, 1, 1), signs(sign(0, 1, 0, 0))), plan(2, 0), api.OK},
		{changed(free(1, 1, 1), three), plan(0, 0, 0, 1, 0, 2), api.OK},
		{changed(free(1, 1, 1), three, needs(0, 2)), plan(0, 0, 1, 1, 1, 2), api.OK},
		{changed(free(1, 1, 1), three, needs(0, 2), needs(1, 3)), plan(0, 0, 2, 1, 2, 2), api.OK},
		{changed(free(1, 1, 1), three, needs(0, 2), needs(1, 2), needs(2, 2)), plan(0, 0, 1, 1, 2, 2), api.OK},
		{changed(free(1, 1, 1), three, needs(0, 2), needs(1, 2), needs(2, 3)), nil, api.ErrNone},
		// More rests than a book can have.
		{changed(light(0, 1, 0, 0, day(1, 0, 0), day(1, 0, 0), day(1, 0, 0)), three), plan(0, 0, 0, 1, 0, 2, 1, 0, 1, 1, 1, 2, 2, 0, 2, 1, 2, 2), api.OK},
		{changed(free(0, 0), needs(1, 2)), nil, api.ErrNone},
		{changed(light(5, 6, 0, 2, day(2, 0, 0), day(1, 0, 0)), signs(sign(0, 0, -7, 0))), nil, api.ErrNone},
		{changed(light(5, 6, 0, 2, day(1, 0, 0), day(1, 0, 0)), signs(sign(0, 0, -1, 0))), plan(1, 0), api.OK},
		{book(torn), nil, api.ErrStrainFalse},
	} {
		if l, e := strain.Plan(x.b); !slices.Equal(l, x.want) || e != x.e {
			t.Errorf("Plan %d: %v, %d", i, l, e)
		}
	}
}

// P4.7
func TestFits(t *testing.T) {
	four := signs(sign(0, 0, 3, 0), sign(0, 0, 3, 0), sign(0, 0, 3, 0), sign(0, 0, 3, 0))
	for i, x := range []struct {
		b    api.StrainBook
		sign api.StrainSign
		want bool
		e    api.Errno
	}{
		{book(), sign(1, 0, 3, 0), false, api.OK},
		{book(), sign(1, 0, 3, 1), true, api.OK},
		{book(), sign(1, 0, 0, 1), true, api.OK},
		{book(), sign(1, 0, 0, 0), false, api.OK},
		{book(tried), sign(1, 0, 1, 0), true, api.OK},
		{book(tried), sign(1, 0, 2, 0), false, api.OK},
		{book(four), sign(1, 0, 1, 0), true, api.OK},
		{book(four), sign(1, 0, 2, 0), false, api.OK},
		{book(), sign(0, 3, -2, 0), true, api.OK},
		{book(), sign(0, 3, -3, 0), false, api.OK},
		{book(), sign(0, 0, 30, 3), false, api.OK},
		{book(), sign(2, 0, 3, 0), false, api.ErrStrainAsk},
		{book(), sign(-1, 0, 3, 0), false, api.ErrStrainAsk},
		{book(), sign(0, 4, 3, 0), false, api.ErrStrainAsk},
		{book(), sign(0, -1, 3, 0), false, api.ErrStrainAsk},
		{book(), sign(0, 0, 31, 0), false, api.ErrStrainAsk},
		{book(), sign(0, 0, -151, 0), false, api.ErrStrainAsk},
		{book(), sign(0, 0, 3, 4), false, api.ErrStrainAsk},
		{book(torn), sign(0, 0, 3, -1), false, api.ErrStrainAsk},
		{book(torn), sign(0, 0, 3, 0), false, api.ErrStrainFalse},
	} {
		if is, e := strain.Fits(x.b, x.sign); is != x.want || e != x.e {
			t.Errorf("Fits %d: %v, %d", i, is, e)
		}
	}
}

// P4.8
func TestWrong(t *testing.T) {
	for i, x := range []struct {
		b    api.StrainBook
		want []int
	}{
		{book(), nil},
		{book(tried), nil},
		{book(torn), []int{0}},
		{book(signs(sign(0, 0, 3, 0), sign(1, 0, 2, 0), sign(0, 0, 3, 0))), []int{1}},
		{book(signs(sign(0, 0, 3, 0), sign(1, 0, 2, 0), sign(1, 0, 2, 0))), []int{0}},
		{book(signs(sign(0, 0, 30, 0), sign(0, 0, 3, 0), sign(1, 0, 9, 0))), []int{0, 2}},
		{book(signs(sign(0, 0, 30, 0), sign(0, 1, 30, 0), sign(0, 2, 30, 0), sign(0, 3, 30, 0))), []int{0, 1, 2, 3}},
		// Of two ways to leave out two signs the first one counts.
		{book(signs(sign(1, 0, 1, 0), sign(1, 0, 2, 0), sign(0, 0, 3, 0), sign(0, 0, 5, 0))), []int{0, 2}},
		{book(signs(sign(1, 0, 1, 0), sign(1, 0, 2, 0), sign(0, 0, 5, 0), sign(0, 0, 3, 0))), []int{0, 3}},
		{book(signs(sign(0, 0, 3, 1), sign(1, 0, 2, 0))), nil},
	} {
		if l, e := strain.Wrong(x.b); !slices.Equal(l, x.want) || e != api.OK {
			t.Errorf("Wrong %d: %v, %d", i, l, e)
		}
	}
}

// P4.9
func TestMemory(t *testing.T) {
	fixed := [4]api.StrainRest{{Day: 0, Singer: 0}, {Day: 3, Singer: 1}, {Day: 3, Singer: 1}, {Day: 3, Singer: 1}}
	found := [6]api.StrainSign{sign(1, 0, 1, 0), sign(1, 0, 9, 0), sign(1, 1, 9, 0), sign(1, 1, 9, 0), sign(1, 1, 9, 0), sign(1, 1, 9, 0)}
	asked := [3]api.StrainRest{{Day: 1, Singer: 1}, {Day: 0, Singer: 0}, {Day: 0, Singer: 0}}
	wasFixed, wasFound, wasAsked := fixed, found, asked
	b := book()
	// Behind all lists there is room, which must not be written to.
	b.Rests, b.Signs = fixed[:1], found[:1]
	strain.Fits(b, sign(1, 1, 0, 0))
	strain.Wrong(b)
	strain.Safe(b, asked[:1])
	one, d := strain.Plan(b)
	other, e := strain.Plan(b)
	if len(one) == 0 || d != api.OK || e != api.OK {
		t.Fatalf("Plan: %v, %d, %d", one, d, e)
	}
	one[0].Day = 99
	if other[0].Day == 99 || fixed != wasFixed || found != wasFound || asked != wasAsked {
		t.Errorf("shared memory: %v, %v, %v, %v", other, fixed, found, asked)
	}
	b.Signs = found[:2]
	left, _ := strain.Wrong(b)
	again, _ := strain.Wrong(b)
	if len(left) == 0 {
		t.Fatal("Wrong: none")
	}
	left[0] = 99
	if again[0] == 99 {
		t.Error("Wrong: shared memory")
	}
}
