package practice_test

import (
	"math"
	"slices"
	"testing"

	"decani/api"
	"decani/practice"
)

const no = api.PracticeNot

func span(low, high int) api.Span { return api.Span{Low: low, High: high} }

func just(n int) api.Span { return span(n, n) }

func day(plain, full, needs int) api.StrainDay {
	return api.StrainDay{Plain: plain, Full: full, Needs: needs}
}

func rehearsal(from, to, wants int) api.PracticeRehearsal {
	return api.PracticeRehearsal{From: from, To: to, Wants: wants}
}

func rest(day, singer int) api.StrainRest { return api.StrainRest{Day: day, Singer: singer} }

func cough(bed, day int) api.ColdHeard { return api.ColdHeard{Bed: bed, Day: day, Cough: true} }

func sign(singer, day, left, wrong int) api.StrainSign {
	return api.StrainSign{Singer: singer, Day: day, Left: left, Error: wrong}
}

type change func(b *api.PracticeBook)

func hearings(l ...api.ColdHeard) change {
	return func(b *api.PracticeBook) { b.Cold.Heard = slices.Clone(l) }
}

func moves(l ...api.ColdMove) change {
	return func(b *api.PracticeBook) { b.Cold.Moves = slices.Clone(l) }
}

func singers(l ...api.Span) change {
	return func(b *api.PracticeBook) { b.Strain.Singers = slices.Clone(l) }
}

func sleeps(l ...int) change { return func(b *api.PracticeBook) { b.Sleeps = slices.Clone(l) } }

func days(l ...api.StrainDay) change {
	return func(b *api.PracticeBook) { b.Strain.Days = slices.Clone(l) }
}

func rests(l ...api.StrainRest) change {
	return func(b *api.PracticeBook) { b.Strain.Rests = slices.Clone(l) }
}

func signs(l ...api.StrainSign) change {
	return func(b *api.PracticeBook) { b.Strain.Signs = slices.Clone(l) }
}

func rehearsals(l ...api.PracticeRehearsal) change {
	return func(b *api.PracticeBook) { b.Rehearsals = slices.Clone(l) }
}

// book is that of the chapter's examples, changed.
func book(changes ...change) api.PracticeBook {
	b := api.PracticeBook{
		Cold: api.ColdBook{Beds: 4, Days: 5, Begins: 0b11, Takes: [2]api.Span{span(1, 2), just(1)}, Rooms: 2},
		Strain: api.StrainBook{
			Singers: []api.Span{just(10), span(10, 11), just(12)},
			Costs:   [3]api.Span{just(3), span(4, 5), just(4)},
			Days:    []api.StrainDay{day(1, 0, 1), day(0, 1, 1), day(1, 0, 0), day(0, 1, 0)},
		},
		Sleeps:     []int{0, 2, 3},
		Rehearsals: []api.PracticeRehearsal{rehearsal(0, 1, 1), rehearsal(1, 3, 1)},
	}
	for _, c := range changes {
		c(&b)
	}
	return b
}

var (
	heard  = hearings(cough(0, 1))
	late   = rehearsals(rehearsal(0, 1, 1), rehearsal(2, 3, 1))
	great  = rehearsals(rehearsal(0, 1, 2), rehearsal(1, 3, 1))
	torn   = hearings(cough(0, 1), cough(2, 2))
	signed = signs(sign(0, 0, 7, 0))
	belied = signs(sign(0, 0, 9, 0))
)

// creeping is a book in which all numbers are known: the cold begins in the bed 4, and each boy catches it a day after the one behind him, that of the bed 3 on the day 1. Without other changes nothing costs strength, and nobody needs any.
func creeping(beds []int, changes ...change) api.PracticeBook {
	b := api.PracticeBook{
		Cold: api.ColdBook{Beds: 5, Days: 6, Begins: 0b10000, Takes: [2]api.Span{just(1), just(1)}},
		Strain: api.StrainBook{
			Singers: make([]api.Span, len(beds)),
			Days:    make([]api.StrainDay, 3),
		},
		Sleeps: beds,
	}
	for _, c := range changes {
		c(&b)
	}
	return b
}

func costs(plain, full, night int) change {
	return func(b *api.PracticeBook) { b.Strain.Costs = [3]api.Span{just(plain), just(full), just(night)} }
}

// invalid are changes that each make the book of the examples a wrong one.
var invalid = map[string]change{
	"nothing":             func(b *api.PracticeBook) { *b = api.PracticeBook{} },
	"no cold":             func(b *api.PracticeBook) { b.Cold = api.ColdBook{} },
	"no strain":           func(b *api.PracticeBook) { b.Strain = api.StrainBook{} },
	"wrong hearing":       hearings(cough(4, 0)),
	"wrong move":          moves(api.ColdMove{Bed: 0, Day: 0}),
	"wrong day":           days(day(3, 0, 0), day(0, 0, 0), day(0, 0, 0), day(0, 0, 0)),
	"wrong rest":          rests(rest(0, 3)),
	"wrong sign":          signs(sign(3, 0, 0, 0)),
	"fewer days of cold":  func(b *api.PracticeBook) { b.Cold.Days = 3 },
	"nobody sleeps":       sleeps(),
	"fewer sleep":         sleeps(0, 2),
	"more sleep":          sleeps(0, 2, 3, 1),
	"bed -1":              sleeps(0, -1, 3),
	"bed 4":               sleeps(4, 2, 3),
	"a bed twice":         sleeps(0, 2, 0),
	"a bed twice running": sleeps(0, 2, 2),
	"greatest bed":        sleeps(0, 2, math.MaxInt),
	"least bed":           sleeps(math.MinInt, 2, 3),
	"too many rehearsals": rehearsals(slices.Repeat([]api.PracticeRehearsal{rehearsal(0, 1, 1)}, api.PracticeRehearsals+1)...),
	"from -1":             rehearsals(rehearsal(0, 1, 1), rehearsal(-1, 3, 1)),
	"to 4":                rehearsals(rehearsal(0, 4, 1), rehearsal(1, 3, 1)),
	"from 4 to 4":         rehearsals(rehearsal(4, 4, 1)),
	"from above to":       rehearsals(rehearsal(2, 1, 1)),
	"wants -1":            rehearsals(rehearsal(0, 1, 1), rehearsal(1, 3, -1)),
	"wants 4":             rehearsals(rehearsal(0, 1, api.PracticeWants+1)),
	"greatest numbers":    rehearsals(rehearsal(math.MaxInt, math.MaxInt, math.MaxInt)),
	"least numbers":       rehearsals(rehearsal(math.MinInt, math.MinInt, math.MinInt)),
}

// valid are changes to the limits of what a book can be.
var valid = map[string]change{
	"as it is":            func(*api.PracticeBook) {},
	"no rehearsals":       rehearsals(),
	"as many days":        func(b *api.PracticeBook) { b.Cold.Days = 4 },
	"other beds":          sleeps(3, 1, 0),
	"most rehearsals":     rehearsals(slices.Repeat([]api.PracticeRehearsal{rehearsal(0, 3, api.PracticeWants)}, api.PracticeRehearsals)...),
	"of a day":            rehearsals(rehearsal(0, 0, 0), rehearsal(3, 3, 3)),
	"false by the cold":   torn,
	"false by the strain": belied,
	"all least": func(b *api.PracticeBook) {
		*b = creeping([]int{0}, days(day(0, 0, 0)))
		b.Cold.Beds, b.Cold.Days, b.Cold.Begins = 1, 1, 1
	},
	"all greatest": func(b *api.PracticeBook) {
		*b = creeping([]int{4, 3, 2}, days(slices.Repeat([]api.StrainDay{day(2, 2, 3)}, 5)...))
		b.Rehearsals = slices.Repeat([]api.PracticeRehearsal{rehearsal(4, 4, 3)}, 3)
	},
}

// P10.1
func TestCheck(t *testing.T) {
	for name, c := range valid {
		if e := practice.Check(book(c)); e != api.OK {
			t.Errorf("%s: %d", name, e)
		}
	}
	for name, c := range invalid {
		b := book(c)
		// What is asked is wrong, too: the error of the book comes first.
		errors := []api.Errno{practice.Check(b)}
		right, e := practice.Right(b)
		errors = append(errors, e)
		kept, e := practice.Kept(b, -1)
		errors = append(errors, e)
		may, e := practice.May(b, []int{no, no})
		errors = append(errors, e)
		keeps, e := practice.Keeps(b, nil)
		errors = append(errors, e)
		alone, e := practice.Alone(b, -1)
		errors = append(errors, e)
		plan, e := practice.Plan(b)
		errors = append(errors, e)
		never, e := practice.Never(b)
		errors = append(errors, e)
		for i, e := range errors {
			if e != api.ErrPractice {
				t.Errorf("%s: call %d: %d", name, i, e)
			}
		}
		if right || may || keeps != 0 || len(kept)+len(alone)+len(plan)+len(never) != 0 {
			t.Errorf("%s: a result beside the error", name)
		}
	}
}

// P10.1
func TestRight(t *testing.T) {
	for i, x := range []struct {
		b    api.PracticeBook
		want bool
	}{
		{book(), true},
		{book(heard), true},
		{book(signed), true},
		{book(heard, signed), true},
		{book(torn), false},
		{book(belied), false},
		{book(torn, belied), false},
		{book(torn, signed), false},
		{book(heard, belied), false},
	} {
		if is, e := practice.Right(x.b); is != x.want || e != api.OK {
			t.Errorf("Right %d: %v, %d", i, is, e)
		}
	}
}

// P10.2
func TestKept(t *testing.T) {
	for i, x := range []struct {
		b    api.PracticeBook
		day  int
		want []int
		e    api.Errno
	}{
		{book(), 0, []int{0}, api.OK},
		{book(), 1, []int{0, 1}, api.OK},
		{book(), 2, []int{0, 1, 2}, api.OK},
		{book(), 3, []int{0, 1, 2}, api.OK},
		{book(heard), 0, []int{0}, api.OK},
		{book(heard), 1, []int{0}, api.OK},
		{book(heard), 2, []int{0, 1}, api.OK},
		// Singers are told by their numbers, wherever they sleep.
		{book(sleeps(3, 2, 0)), 0, []int{2}, api.OK},
		{book(sleeps(3, 2, 0)), 1, []int{1, 2}, api.OK},
		{book(sleeps(1, 0, 3)), 0, []int{0, 1}, api.OK},
		{book(moves(api.ColdMove{Bed: 1, Day: 1})), 3, []int{0}, api.OK},
		{book(moves(api.ColdMove{Bed: 1, Day: 1}), hearings(cough(1, 3))), 3, nil, api.OK},
		// It does not matter whether a day is open, or whether a singer rests.
		{book(rests(rest(0, 0)), signs(sign(2, 0, 9, 0))), 0, []int{0}, api.OK},
		{creeping([]int{3, 4, 2}), 0, []int{1}, api.OK},
		{creeping([]int{3, 4, 2}), 1, []int{0, 1}, api.OK},
		{creeping([]int{3, 4, 2}), 2, []int{0, 1, 2}, api.OK},
		{creeping([]int{3, 0, 2}), 0, nil, api.OK},
		// The cold has five days, the singers have four.
		{book(), 4, nil, api.ErrPracticeAsk},
		{book(), -1, nil, api.ErrPracticeAsk},
		{book(torn), math.MaxInt, nil, api.ErrPracticeAsk},
		{book(belied), math.MinInt, nil, api.ErrPracticeAsk},
		{book(torn), 0, nil, api.ErrPracticeFalse},
		{book(belied), 0, nil, api.ErrPracticeFalse},
	} {
		if l, e := practice.Kept(x.b, x.day); !slices.Equal(l, x.want) || e != x.e {
			t.Errorf("Kept %d: %v, %d", i, l, e)
		}
	}
}

// P10.3
func TestMayAndKeeps(t *testing.T) {
	none := [][]int{
		nil, {0}, {no}, {0, 1, no}, {no, no, no}, {0, 0}, {1, 1}, {1, 0}, {no, 0}, {2, no}, {1, 2}, {0, 2}, {-1, no}, {no, 4},
		{8, no}, {no, 10}, {math.MaxInt, no}, {math.MinInt, math.MinInt}, make([]int, 99),
	}
	for i, x := range []struct {
		b    api.PracticeBook
		plan []int
		want int // how many it keeps
	}{
		{book(), []int{0, 1}, 3},
		{book(), []int{0, no}, 1},
		{book(), []int{1, no}, 2},
		{book(), []int{no, 1}, 2},
		{book(), []int{no, no}, 0},
		{book(heard), []int{0, 1}, 2},
		{book(heard), []int{0, 2}, 3},
		// Whoever rests already is kept, too.
		{book(rests(rest(0, 0), rest(1, 1))), []int{0, 1}, 3},
		{creeping([]int{4}, rests(rest(0, 0), rest(0, 0)), one), []int{0}, 1},
		// Days need not be in order.
		{creeping([]int{4, 3}, three), []int{1, 0, no}, 3},
		{creeping([]int{4, 3}, three), []int{2, no, 0}, 3},
		{creeping([]int{4, 3}, three), []int{2, 0, 1}, 5},
		{creeping([]int{4, 3, 2}, three), []int{0, 1, 2}, 6},
		{creeping([]int{4, 3, 2}, rehearsals()), nil, 0},
		{creeping([]int{4, 3, 2}, rehearsals()), []int{}, 0},
	} {
		if is, e := practice.May(x.b, x.plan); !is || e != api.OK {
			t.Errorf("May %d: %v, %d", i, is, e)
		}
		if n, e := practice.Keeps(x.b, x.plan); n != x.want || e != api.OK {
			t.Errorf("Keeps %d: %d, %d", i, n, e)
		}
	}
	for _, l := range none {
		testNoPlan(t, book(), l, api.OK, api.ErrPracticeAsk)
		// What cannot be true is named before a wrong plan.
		testNoPlan(t, book(torn), l, api.ErrPracticeFalse, api.ErrPracticeFalse)
	}
	testNoPlan(t, book(torn), []int{0, 1}, api.ErrPracticeFalse, api.ErrPracticeFalse)
	testNoPlan(t, book(belied), []int{no, no}, api.ErrPracticeFalse, api.ErrPracticeFalse)
	testNoPlan(t, book(great), []int{1, no}, api.OK, api.ErrPracticeAsk)
	testNoPlan(t, creeping([]int{4}, rehearsals()), []int{no}, api.OK, api.ErrPracticeAsk)
}

// testNoPlan tests that a list is no plan, and the errors of May and Keeps.
func testNoPlan(t *testing.T, b api.PracticeBook, l []int, may, keeps api.Errno) {
	t.Helper()
	if is, e := practice.May(b, l); is || e != may {
		t.Errorf("May %v: %v, %d", l, is, e)
	}
	if n, e := practice.Keeps(b, l); n != 0 || e != keeps {
		t.Errorf("Keeps %v: %d, %d", l, n, e)
	}
}

var (
	one   = rehearsals(rehearsal(0, 2, 0))
	two   = rehearsals(rehearsal(0, 2, 0), rehearsal(0, 2, 0))
	three = rehearsals(rehearsal(0, 2, 0), rehearsal(0, 2, 0), rehearsal(0, 2, 0))
	// full is three full days, of which one singer must rest on one.
	full = days(day(0, 1, 0), day(0, 1, 0), day(0, 1, 0))
)

// noPlan stands for the best plan where there is none.
var noPlan = []int{-1}

// P10.3, P10.4, P10.5, P10.6
func TestAlonePlanAndNever(t *testing.T) {
	tired := creeping([]int{4}, singers(just(3)), costs(2, 4, 0), days(day(0, 1, 0), day(0, 1, 0)))
	weak := creeping([]int{3, 0}, singers(just(3), just(3)), costs(3, 0, 0))
	guess := creeping([]int{0}, singers(span(2, 4)), costs(3, 0, 0), one)
	for i, x := range []struct {
		b     api.PracticeBook
		alone [][]int // of each rehearsal
		plan  []int
	}{
		{book(), [][]int{{0, 1}, {1}}, []int{0, 1}},
		{book(late), [][]int{{0, 1}, nil}, []int{0, no}},
		{book(great), [][]int{{0}, {1}}, []int{0, 1}},
		{book(heard), [][]int{{0, 1}, {1, 2}}, []int{0, 1}},
		{creeping([]int{0}, rehearsals()), nil, nil},
		{creeping([]int{0}, three), [][]int{{0, 1, 2}, {0, 1, 2}, {0, 1, 2}}, []int{0, 1, 2}},
		// From a day to another one, both included.
		{creeping([]int{0}, rehearsals(rehearsal(1, 2, 0), rehearsal(0, 1, 0), rehearsal(1, 1, 1))), [][]int{{1, 2}, {0, 1}, {1}}, []int{2, 0, 1}},
		{creeping([]int{0}, rehearsals(rehearsal(1, 2, 0), rehearsal(1, 2, 0), rehearsal(1, 2, 0))), [][]int{{1, 2}, {1, 2}, {1, 2}}, []int{1, 2, no}},
		// No third plain service; full ones do not matter.
		{creeping([]int{0}, two, days(day(0, 2, 0), day(2, 0, 0), day(1, 0, 0))), [][]int{{0, 2}, {0, 2}}, []int{0, 2}},
		{creeping([]int{0}, two, days(day(2, 0, 0), day(2, 0, 0), day(2, 0, 0))), [][]int{nil, nil}, []int{no, no}},
		// Open days alone, whichever sign comes last.
		{creeping([]int{0}, two, signs(sign(0, 0, 0, 0))), [][]int{{1, 2}, {1, 2}}, []int{1, 2}},
		{creeping([]int{0}, two, signs(sign(0, 1, 0, 0), sign(0, 0, 0, 0))), [][]int{{2}, {2}}, []int{2, no}},
		{creeping([]int{0}, two, signs(sign(0, 2, 0, 0))), [][]int{nil, nil}, []int{no, no}},
		// As many come as are wanted, and as the day needs; nobody comes who is kept, or rests.
		{creeping([]int{3, 0, 1}, rehearsals(rehearsal(0, 2, 3), rehearsal(0, 2, 2))), [][]int{{0}, {0, 1, 2}}, []int{0, 1}},
		{creeping([]int{0, 1}, rehearsals(rehearsal(0, 1, 2), rehearsal(0, 2, 3)), rests(rest(0, 1))), [][]int{{1}, nil}, []int{1, no}},
		{creeping([]int{3, 0, 1}, one, days(day(0, 0, 0), day(0, 0, 3), day(0, 0, 2))), [][]int{{0, 2}}, []int{0}},
		{creeping([]int{4, 0}, rehearsals(rehearsal(0, 1, 2)), days(day(0, 0, 0), day(0, 0, 1))), [][]int{nil}, []int{no}},
		// A rehearsal costs what a plain service does, on this day and on later ones.
		{creeping([]int{0}, two, singers(just(6)), costs(3, 4, 2), days(day(1, 0, 0), day(0, 1, 0), day(0, 0, 0))), [][]int{{2}, {2}}, []int{2, no}},
		{creeping([]int{0}, two, singers(just(6)), costs(3, 4, 4), days(day(1, 0, 0), day(0, 1, 0), day(0, 0, 0))), [][]int{{0, 2}, {0, 2}}, []int{0, 2}},
		{creeping([]int{0}, two, singers(just(6)), costs(3, 4, 6), days(day(1, 0, 0), day(0, 1, 0), day(0, 0, 0))), [][]int{{0, 2}, {0, 2}}, []int{0, 2}},
		{creeping([]int{0}, two, singers(just(7)), costs(3, 4, 6), days(day(1, 0, 0), day(0, 1, 0), day(0, 0, 0))), [][]int{{0, 1, 2}, {0, 1, 2}}, []int{0, 1}},
		// In each truth: a sign tells that the singer is strong enough.
		{guess, [][]int{nil}, []int{no}},
		{with(guess, signs(sign(0, 0, 3, 0))), [][]int{{1, 2}}, []int{1}},
		{with(guess, signs(sign(0, 0, 3, 1))), [][]int{nil}, []int{no}},
		// Whoever is kept rests: there may be a plan only if a rehearsal is held.
		{creeping([]int{4}, one, full), [][]int{{0, 1, 2}}, []int{0}},
		{creeping([]int{4}, rehearsals(rehearsal(0, 2, 1)), full), [][]int{nil}, noPlan},
		{creeping([]int{2}, one, full), [][]int{{2}}, []int{2}},
		{creeping([]int{0}, one, full), [][]int{nil}, noPlan},
		{creeping([]int{0}, rehearsals(), full), nil, noPlan},
		{creeping([]int{0}, one, days(day(0, 0, 2), day(0, 0, 0), day(0, 0, 0))), [][]int{nil}, noPlan},
		// Neither can be held alone, but both can.
		{with(tired, rehearsals(rehearsal(0, 0, 0), rehearsal(1, 1, 0))), [][]int{nil, nil}, []int{0, 1}},
		{with(tired, rehearsals(rehearsal(1, 1, 0), rehearsal(0, 1, 0))), [][]int{nil, nil}, []int{1, 0}},
		{with(tired, rehearsals(rehearsal(1, 1, 0), rehearsal(1, 1, 0))), [][]int{nil, nil}, noPlan},
		// The most are held, whoever is kept.
		{creeping([]int{4, 3, 2}, rehearsals(rehearsal(1, 1, 0), rehearsal(2, 2, 0))), [][]int{{1}, {2}}, []int{1, 2}},
		{creeping([]int{0}, rehearsals(rehearsal(0, 0, 3), rehearsal(0, 0, 0))), [][]int{nil, {0}}, []int{no, 0}},
		// Then the fewest are kept, whatever comes first.
		{creeping([]int{3, 0, 2}, rests(rest(1, 1), rest(1, 2)), rehearsals(rehearsal(0, 1, 0), rehearsal(0, 2, 1))), [][]int{{0, 1}, {0, 2}}, []int{1, 0}},
		{with(weak, rehearsals(rehearsal(1, 1, 0), rehearsal(0, 0, 0))), [][]int{{1}, {0}}, []int{no, 0}},
		// Of several the first one.
		{creeping([]int{0}, rehearsals(rehearsal(0, 0, 0), rehearsal(0, 0, 0))), [][]int{{0}, {0}}, []int{0, no}},
		{creeping([]int{4}, rehearsals(rehearsal(1, 2, 0), rehearsal(0, 1, 0))), [][]int{{1, 2}, {0, 1}}, []int{1, 0}},
	} {
		testAlone(t, i, x.b, x.alone)
		l, e := practice.Plan(x.b)
		if isNone := slices.Equal(x.plan, noPlan); isNone && (len(l) != 0 || e != api.ErrNone) || !isNone && (!slices.Equal(l, x.plan) || e != api.OK) {
			t.Errorf("Plan %d: %v, %d", i, l, e)
		}
		if is, _ := practice.May(x.b, slices.Repeat([]int{no}, len(x.b.Rehearsals))); is && e == api.ErrNone {
			t.Errorf("Plan %d: none, but none need be held", i)
		}
	}
}

// with is a book with further changes.
func with(b api.PracticeBook, changes ...change) api.PracticeBook {
	for _, c := range changes {
		c(&b)
	}
	return b
}

// testAlone tests Alone and Never, by the days on which each rehearsal can be held alone.
func testAlone(t *testing.T, i int, b api.PracticeBook, want [][]int) {
	t.Helper()
	var never []int
	for r, days := range want {
		if l, e := practice.Alone(b, r); !slices.Equal(l, days) || e != api.OK {
			t.Errorf("Alone %d, %d: %v, %d", i, r, l, e)
		}
		if len(days) == 0 {
			never = append(never, r)
		}
	}
	if l, e := practice.Never(b); !slices.Equal(l, never) || e != api.OK {
		t.Errorf("Never %d: %v, %d", i, l, e)
	}
}

// P10.4
func TestAloneErrors(t *testing.T) {
	for i, x := range []struct {
		b         api.PracticeBook
		rehearsal int
		e         api.Errno
	}{
		{book(), 2, api.ErrPracticeAsk},
		{book(), -1, api.ErrPracticeAsk},
		{book(rehearsals()), 0, api.ErrPracticeAsk},
		{book(torn), 2, api.ErrPracticeAsk},
		{book(belied), math.MaxInt, api.ErrPracticeAsk},
		{book(torn), math.MinInt, api.ErrPracticeAsk},
		{book(torn), 0, api.ErrPracticeFalse},
		{book(belied), 1, api.ErrPracticeFalse},
	} {
		if l, e := practice.Alone(x.b, x.rehearsal); len(l) != 0 || e != x.e {
			t.Errorf("Alone %d: %v, %d", i, l, e)
		}
	}
}

// P10.5, P10.6
func TestFalse(t *testing.T) {
	for name, c := range map[string]change{"the cold": torn, "the strain": belied} {
		plan, e := practice.Plan(book(c))
		if len(plan) != 0 || e != api.ErrPracticeFalse {
			t.Errorf("Plan, %s: %v, %d", name, plan, e)
		}
		never, e := practice.Never(book(c))
		if len(never) != 0 || e != api.ErrPracticeFalse {
			t.Errorf("Never, %s: %v, %d", name, never, e)
		}
	}
}

// P10.7: lists have room for more, so that whoever writes behind their ends is found out.
func TestMemory(t *testing.T) {
	b := book(rests(rest(0, 0)))
	b.Strain.Days = append(make([]api.StrainDay, 0, 9), b.Strain.Days...)
	b.Strain.Rests = append(make([]api.StrainRest, 0, 9), b.Strain.Rests...)
	b.Rehearsals = append(make([]api.PracticeRehearsal, 0, 9), b.Rehearsals...)
	b.Sleeps = append(make([]int, 0, 9), b.Sleeps...)
	asked := append(make([]int, 0, 9), 0, 1)
	wasDays, wasRests, wasRehearsals := slices.Clone(b.Strain.Days[:9]), slices.Clone(b.Strain.Rests[:9]), slices.Clone(b.Rehearsals[:9])
	wasSleeps, wasAsked := slices.Clone(b.Sleeps[:9]), slices.Clone(asked[:9])
	if n, e := practice.Keeps(b, asked); n != 3 || e != api.OK {
		t.Errorf("Keeps: %d, %d", n, e)
	}
	for name, call := range map[string]func() []int{
		"Kept":  func() []int { l, _ := practice.Kept(b, 1); return l },
		"Alone": func() []int { l, _ := practice.Alone(b, 0); return l },
		"Plan":  func() []int { l, _ := practice.Plan(b); return l },
		"Never": func() []int { l, _ := practice.Never(with(b, late)); return l },
	} {
		one := call()
		want := slices.Clone(one)
		for i := range one {
			one[i] = 77
		}
		if len(want) == 0 || !slices.Equal(call(), want) {
			t.Errorf("%s: two results share memory", name)
		}
	}
	if !slices.Equal(b.Strain.Days[:9], wasDays) || !slices.Equal(b.Strain.Rests[:9], wasRests) || !slices.Equal(b.Rehearsals[:9], wasRehearsals) || !slices.Equal(b.Sleeps[:9], wasSleeps) || !slices.Equal(asked[:9], wasAsked) {
		t.Errorf("written: %+v, %v", b, asked)
	}
}
