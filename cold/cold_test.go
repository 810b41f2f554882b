package cold_test

import (
	"math"
	"slices"
	"testing"

	"decani/api"
	"decani/cold"
)

func span(low, high int) api.Span { return api.Span{Low: low, High: high} }

func cough(bed, day int) api.ColdHeard { return api.ColdHeard{Bed: bed, Day: day, Cough: true} }

func quiet(bed, day int) api.ColdHeard { return api.ColdHeard{Bed: bed, Day: day} }

type change func(b *api.ColdBook)

func beds(n int) change { return func(b *api.ColdBook) { b.Beds = n } }

func days(n int) change { return func(b *api.ColdBook) { b.Days = n } }

func begins(set int) change { return func(b *api.ColdBook) { b.Begins = set } }

func until(day int) change { return func(b *api.ColdBook) { b.Until = day } }

func takes(kind int, s api.Span) change { return func(b *api.ColdBook) { b.Takes[kind] = s } }

func rooms(n int) change { return func(b *api.ColdBook) { b.Rooms = n } }

func moves(l ...api.ColdMove) change {
	return func(b *api.ColdBook) { b.Moves = slices.Clone(l) }
}

func hears(l ...api.ColdHeard) change {
	return func(b *api.ColdBook) { b.Heard = slices.Clone(l) }
}

// book is that of the chapter's examples, changed.
func book(changes ...change) api.ColdBook {
	b := api.ColdBook{Beds: 4, Days: 5, Begins: 0b11, Takes: [2]api.Span{span(1, 2), span(1, 1)}, Rooms: 2}
	for _, c := range changes {
		c(&b)
	}
	return b
}

var (
	heard = hears(cough(0, 1))
	torn  = hears(cough(0, 1), cough(2, 2))
	moved = moves(api.ColdMove{Bed: 1, Day: 1})
	full  = rooms(0)
)

// invalid are changes that each make the book of the examples a wrong one.
var invalid = map[string]change{
	"nothing":                func(b *api.ColdBook) { *b = api.ColdBook{} },
	"no bed":                 beds(0),
	"negative beds":          beds(-1),
	"too many beds":          beds(api.ColdBeds + 1),
	"fewest beds of all":     beds(math.MinInt),
	"no day":                 days(0),
	"negative days":          days(-1),
	"too many days":          days(api.ColdDays + 1),
	"begins nowhere":         begins(0),
	"begins in the bed 4":    begins(1 << 4),
	"begins in too many":     begins(0b11111),
	"begins negative":        begins(-1),
	"begins in the last bit": begins(math.MinInt),
	"until negative":         until(-1),
	"until after all days":   until(5),
	"out in no day":          takes(api.ColdOut, span(0, 1)),
	"out in four days":       takes(api.ColdOut, span(3, 4)),
	"out ends first":         takes(api.ColdOut, span(2, 1)),
	"out too wide":           takes(api.ColdOut, span(1, 3)),
	"out of all numbers":     takes(api.ColdOut, span(math.MinInt, math.MaxInt)),
	"goes in no day":         takes(api.ColdGoes, span(0, 0)),
	"goes in four days":      takes(api.ColdGoes, span(4, 4)),
	"goes ends first":        takes(api.ColdGoes, span(3, 2)),
	"goes too wide":          takes(api.ColdGoes, span(1, 3)),
	"rooms negative":         rooms(-1),
	"too many rooms":         rooms(api.ColdRooms + 1),
	"move's bed negative":    moves(api.ColdMove{Bed: -1, Day: 1}),
	"move's bed 4":           moves(api.ColdMove{Bed: 4, Day: 1}),
	"move's day 0":           moves(api.ColdMove{Bed: 0, Day: 0}),
	"move's day negative":    moves(api.ColdMove{Bed: 0, Day: -1}),
	"move's day 5":           moves(api.ColdMove{Bed: 0, Day: 5}),
	"a bed moved twice":      moves(api.ColdMove{Bed: 1, Day: 1}, api.ColdMove{Bed: 0, Day: 1}, api.ColdMove{Bed: 1, Day: 2}),
	"too many moves":         moves(api.ColdMove{Bed: 0, Day: 1}, api.ColdMove{Bed: 1, Day: 1}, api.ColdMove{Bed: 2, Day: 1}, api.ColdMove{Bed: 3, Day: 1}),
	"heard in the bed -1":    hears(quiet(-1, 0)),
	"heard in the bed 4":     hears(quiet(0, 0), cough(4, 0)),
	"heard on the day -1":    hears(quiet(0, -1)),
	"heard on the day 5":     hears(cough(0, 5)),
	"too many heard":         hears(make([]api.ColdHeard, api.ColdHears+1)...),
}

// valid are changes to the limits of what a book can be.
var valid = map[string]change{
	"as it is": func(*api.ColdBook) {},
	"all least": func(b *api.ColdBook) {
		*b = api.ColdBook{Beds: 1, Days: 1, Begins: 1, Takes: [2]api.Span{span(1, 1), span(1, 1)}}
	},
	"all greatest": func(b *api.ColdBook) {
		*b = api.ColdBook{Beds: 5, Days: 6, Begins: 0b11111, Until: 5, Takes: [2]api.Span{span(2, 3), span(3, 3)}, Rooms: 3}
	},
	"begins in the last bed": begins(1 << 3),
	"all moves":              moves(api.ColdMove{Bed: 3, Day: 4}, api.ColdMove{Bed: 0, Day: 1}, api.ColdMove{Bed: 1, Day: 1}),
	"empty moves":            func(b *api.ColdBook) { b.Moves = []api.ColdMove{} },
	"all heard":              hears(make([]api.ColdHeard, api.ColdHears)...),
	"heard the last":         hears(cough(3, 4)),
	"empty heard":            func(b *api.ColdBook) { b.Heard = []api.ColdHeard{} },
	"false as it is":         torn,
}

// P3.1
func TestCheck(t *testing.T) {
	for name, c := range valid {
		if e := cold.Check(book(c)); e != api.OK {
			t.Errorf("%s: %d", name, e)
		}
	}
	for name, c := range invalid {
		b := book(c)
		// What is asked is wrong, too: the error of the book comes first.
		errors := []api.Errno{cold.Check(b)}
		is, e := cold.Right(b)
		errors = append(errors, e)
		ill, e := cold.Ill(b, -1, 9)
		errors = append(errors, e)
		caught, e := cold.Caught(b, -1)
		errors = append(errors, e)
		coughs, e := cold.Coughs(b, 9, -1)
		errors = append(errors, e)
		from, e := cold.From(b)
		errors = append(errors, e)
		takes, e := cold.Takes(b, 2)
		errors = append(errors, e)
		clean, e := cold.Clean(b)
		errors = append(errors, e)
		apart, e := cold.Apart(b, 0)
		errors = append(errors, e)
		fits, e := cold.Fits(b, cough(9, 9))
		errors = append(errors, e)
		wrong, e := cold.Wrong(b)
		errors = append(errors, e)
		for i, e := range errors {
			if e != api.ErrCold {
				t.Errorf("%s: call %d: %d", name, i, e)
			}
		}
		if is || fits || caught != takes || takes != (api.Span{}) || ill+coughs != 0 || len(from)+len(clean)+len(apart)+len(wrong) != 0 {
			t.Errorf("%s: a result beside the error", name)
		}
	}
}

// P3.1
func TestRight(t *testing.T) {
	for i, x := range []struct {
		b    api.ColdBook
		want bool
	}{
		{book(), true},
		{book(heard), true},
		{book(torn), false},
		{book(hears(cough(0, 0))), false},
		{book(hears(cough(2, 2))), true},
		{book(hears(cough(3, 2))), false},
		{book(hears(quiet(0, 1))), true},
		// By the day 4 the cold of both beds has come out in the bed 0.
		{book(hears(quiet(0, 4))), false},
		{book(hears(cough(0, 1), quiet(0, 2))), false},
		{book(hears(cough(1, 1), quiet(0, 4))), false},
		// Until a later day both can be quiet for longer.
		{book(until(4), hears(quiet(0, 4), quiet(1, 4))), true},
		{book(until(2), hears(quiet(0, 4))), true},
		{book(until(1), begins(1), hears(quiet(0, 4))), false},
		// The boy of the bed 1 cannot have caught it where it began once he is away.
		{book(until(1), begins(0b10), moved, hears(quiet(1, 2))), false},
		{book(until(1), begins(0b10), hears(quiet(1, 2))), true},
	} {
		if is, e := cold.Right(x.b); is != x.want || e != api.OK {
			t.Errorf("Right %d: %v, %d", i, is, e)
		}
	}
}

// P3.2
func TestIllAndCoughs(t *testing.T) {
	for i, x := range []struct {
		b           api.ColdBook
		bed, day    int
		ill, coughs int
		e           api.Errno
	}{
		{book(), 2, 1, 1, 0, api.OK},
		{book(), 3, 3, 2, 1, api.OK},
		{book(), 3, 4, 2, 1, api.OK},
		{book(), 0, 0, 1, 0, api.OK},
		{book(), 0, 1, 2, 1, api.OK},
		{book(), 0, 2, 2, 1, api.OK},
		{book(), 0, 3, 2, 2, api.OK},
		{book(), 2, 0, 0, 0, api.OK},
		{book(heard), 0, 0, 2, 0, api.OK},
		{book(heard), 0, 1, 2, 2, api.OK},
		{book(heard), 2, 1, 0, 0, api.OK},
		{book(heard), 2, 2, 2, 0, api.OK},
		{book(heard), 2, 3, 2, 2, api.OK},
		// Who is away has the cold that he caught before, but gives it to nobody.
		{book(moved), 1, 4, 1, 1, api.OK},
		{book(moved, begins(0b10)), 1, 4, 2, 2, api.OK},
		{book(moved, begins(0b10)), 0, 4, 0, 0, api.OK},
		{book(moved, begins(1)), 1, 4, 0, 0, api.OK},
		{book(moved, begins(1)), 0, 4, 2, 2, api.OK},
		// The first boy is away on the day on which he would give it.
		{book(moves(api.ColdMove{Bed: 0, Day: 2}), begins(1), takes(api.ColdGoes, span(2, 2))), 1, 4, 0, 0, api.OK},
		{book(moves(api.ColdMove{Bed: 0, Day: 3}), begins(1), takes(api.ColdGoes, span(2, 2))), 1, 2, 2, 0, api.OK},
		// The other one is away then.
		{book(moves(api.ColdMove{Bed: 1, Day: 2}), begins(1), takes(api.ColdGoes, span(2, 2))), 1, 4, 0, 0, api.OK},
		{book(moves(api.ColdMove{Bed: 1, Day: 3}), begins(1), takes(api.ColdGoes, span(2, 2))), 1, 2, 2, 0, api.OK},
		{book(), 4, 0, 0, 0, api.ErrColdAsk},
		{book(), -1, 0, 0, 0, api.ErrColdAsk},
		{book(), 0, 5, 0, 0, api.ErrColdAsk},
		{book(torn), 0, -1, 0, 0, api.ErrColdAsk},
		{book(torn), 0, 0, 0, 0, api.ErrColdFalse},
	} {
		if n, e := cold.Ill(x.b, x.bed, x.day); n != x.ill || e != x.e {
			t.Errorf("Ill %d: %d, %d", i, n, e)
		}
		if n, e := cold.Coughs(x.b, x.bed, x.day); n != x.coughs || e != x.e {
			t.Errorf("Coughs %d: %d, %d", i, n, e)
		}
	}
}

// P3.3
func TestCaught(t *testing.T) {
	for i, x := range []struct {
		b    api.ColdBook
		bed  int
		want api.Span
		e    api.Errno
	}{
		{book(), 0, span(0, 1), api.OK},
		{book(), 2, span(1, 2), api.OK},
		{book(), 3, span(2, 3), api.OK},
		{book(heard), 2, span(2, 2), api.OK},
		{book(moved), 2, api.Span{}, api.ErrNone},
		// In some truths he does not: these say nothing.
		{book(moved), 1, span(0, 0), api.OK},
		{book(moved), 0, span(0, 0), api.OK},
		{book(until(4)), 3, span(2, 4), api.OK},
		{book(until(4)), 1, span(0, 4), api.OK},
		{book(takes(api.ColdGoes, span(2, 3)), begins(1)), 1, span(2, 3), api.OK},
		{book(takes(api.ColdGoes, span(2, 3)), begins(1)), 2, span(4, 4), api.OK},
		{book(takes(api.ColdGoes, span(2, 3)), begins(1)), 3, api.Span{}, api.ErrNone},
		{book(days(1), begins(1)), 1, api.Span{}, api.ErrNone},
		{book(until(4), moved, begins(0b10)), 1, span(0, 0), api.OK},
		{book(), 4, api.Span{}, api.ErrColdAsk},
		{book(torn), -1, api.Span{}, api.ErrColdAsk},
		{book(torn), 0, api.Span{}, api.ErrColdFalse},
	} {
		if s, e := cold.Caught(x.b, x.bed); s != x.want || e != x.e {
			t.Errorf("Caught %d: %v, %d", i, s, e)
		}
	}
}

// P3.4
func TestFrom(t *testing.T) {
	for i, x := range []struct {
		b    api.ColdBook
		want []int
		e    api.Errno
	}{
		{book(), []int{0, 1}, api.OK},
		{book(heard), []int{0}, api.OK},
		{book(hears(quiet(0, 1), cough(1, 1))), []int{1}, api.OK},
		{book(begins(0b1101)), []int{0, 2, 3}, api.OK},
		{book(beds(5), begins(0b11111), hears(cough(4, 1))), []int{4}, api.OK},
		{book(begins(0b1111), hears(cough(2, 2), quiet(2, 1))), []int{1, 2, 3}, api.OK},
		{book(torn), nil, api.ErrColdFalse},
	} {
		if l, e := cold.From(x.b); !slices.Equal(l, x.want) || e != x.e {
			t.Errorf("From %d: %v, %d", i, l, e)
		}
	}
}

// P3.4
func TestTakes(t *testing.T) {
	slow := takes(api.ColdGoes, span(2, 3))
	for i, x := range []struct {
		b    api.ColdBook
		kind int
		want api.Span
		e    api.Errno
	}{
		{book(), api.ColdOut, span(1, 2), api.OK},
		{book(), api.ColdGoes, span(1, 1), api.OK},
		{book(heard), api.ColdOut, span(1, 1), api.OK},
		{book(heard), api.ColdGoes, span(1, 1), api.OK},
		{book(hears(quiet(0, 1), quiet(1, 1))), api.ColdOut, span(2, 2), api.OK},
		{book(slow), api.ColdGoes, span(2, 3), api.OK},
		// Who coughs on the day 3 has it since the day 2, on which it came from the other bed.
		{book(slow, hears(cough(0, 3), cough(1, 3))), api.ColdGoes, span(2, 2), api.OK},
		{book(slow, hears(cough(0, 3), cough(1, 3))), api.ColdOut, span(1, 1), api.OK},
		{book(slow, begins(1), hears(cough(0, 2), quiet(1, 3))), api.ColdGoes, span(2, 3), api.OK},
		{book(slow, begins(1), hears(cough(0, 1), quiet(1, 3))), api.ColdGoes, span(3, 3), api.OK},
		{book(), 2, api.Span{}, api.ErrColdAsk},
		{book(torn), -1, api.Span{}, api.ErrColdAsk},
		{book(torn), api.ColdGoes, api.Span{}, api.ErrColdFalse},
	} {
		if s, e := cold.Takes(x.b, x.kind); s != x.want || e != x.e {
			t.Errorf("Takes %d: %v, %d", i, s, e)
		}
	}
}

// P3.5
func TestClean(t *testing.T) {
	for i, x := range []struct {
		b    api.ColdBook
		want []int
		e    api.Errno
	}{
		{book(), nil, api.OK},
		{book(moved), []int{2, 3}, api.OK},
		{book(moved, begins(1)), []int{1, 2, 3}, api.OK},
		{book(days(2)), []int{3}, api.OK},
		{book(days(1), begins(0b100)), []int{0, 1, 3}, api.OK},
		{book(moved, begins(0b1011)), nil, api.OK},
		{book(moves(api.ColdMove{Bed: 3, Day: 2}), heard), []int{3}, api.OK},
		{book(moves(api.ColdMove{Bed: 3, Day: 3}), heard), []int{3}, api.OK},
		{book(moves(api.ColdMove{Bed: 3, Day: 4}), heard), nil, api.OK},
		{book(torn), nil, api.ErrColdFalse},
	} {
		if l, e := cold.Clean(x.b); !slices.Equal(l, x.want) || e != x.e {
			t.Errorf("Clean %d: %v, %d", i, l, e)
		}
	}
}

// P3.6
func TestApart(t *testing.T) {
	for i, x := range []struct {
		b    api.ColdBook
		day  int
		want []int
		e    api.Errno
	}{
		{book(), 1, []int{1}, api.OK},
		{book(), 2, []int{2}, api.OK},
		{book(), 3, []int{2}, api.OK},
		{book(), 4, nil, api.OK},
		{book(moved), 1, nil, api.OK},
		{book(full), 1, nil, api.ErrNone},
		{book(full), 4, nil, api.OK},
		{book(rooms(1)), 1, []int{1}, api.OK},
		{book(heard), 1, []int{0}, api.OK},
		{book(heard), 3, []int{2}, api.OK},
		{book(begins(0b100)), 1, []int{2}, api.OK},
		// Of several lists the first one: also 0 3, 1 2 and 1 3 would do.
		{book(begins(0b1001)), 1, []int{0, 2}, api.OK},
		{book(begins(0b1001), rooms(1)), 1, nil, api.ErrNone},
		// Two boys are fewer than the three in whose beds it began.
		{book(beds(5), begins(0b10101), rooms(3)), 1, []int{1, 3}, api.OK},
		// Three have to be moved if the cold can begin in three beds on the day itself.
		{book(beds(5), begins(0b10101), until(1), rooms(3)), 1, []int{0, 2, 4}, api.OK},
		{book(beds(5), begins(0b10101), until(1)), 1, nil, api.ErrNone},
		// Who is away already is not moved again; who is to be moved later can be moved sooner.
		{book(moved, begins(0b111)), 1, []int{2}, api.OK},
		{book(begins(1), moves(api.ColdMove{Bed: 0, Day: 2})), 1, []int{0}, api.OK},
		{book(begins(1), moves(api.ColdMove{Bed: 0, Day: 2}), full), 1, nil, api.ErrNone},
		{book(begins(1), moves(api.ColdMove{Bed: 0, Day: 2})), 2, []int{1}, api.OK},
		// Moves do not take rooms.
		{book(begins(0b10), moves(api.ColdMove{Bed: 0, Day: 1}, api.ColdMove{Bed: 3, Day: 4}, api.ColdMove{Bed: 2, Day: 3}), rooms(1)), 1, []int{1}, api.OK},
		// A cold that begins in the bed 0 on the day 1 does not if he is away then: that truth does not count.
		{book(begins(1), until(1), rooms(1)), 1, []int{0}, api.OK},
		{book(begins(0b100), until(4)), 4, []int{0, 2}, api.OK},
		{book(begins(0b100), until(4), rooms(1)), 4, nil, api.ErrNone},
		{book(beds(1), begins(1), until(4)), 4, []int{0}, api.OK},
		{book(beds(1), begins(1), until(3)), 4, nil, api.OK},
		// The truths are those of the book: that a boy who is moved would not have coughed rules none of them out.
		{book(begins(0b1000), hears(cough(0, 4))), 2, []int{1}, api.OK},
		{book(until(1), hears(cough(1, 1), quiet(0, 1))), 1, []int{1}, api.OK},
		{book(hears(cough(2, 3), quiet(0, 1))), 1, []int{1}, api.OK},
		{book(), 0, nil, api.ErrColdAsk},
		{book(), -1, nil, api.ErrColdAsk},
		{book(torn), 5, nil, api.ErrColdAsk},
		{book(days(1)), 1, nil, api.ErrColdAsk},
		{book(torn), 1, nil, api.ErrColdFalse},
	} {
		if l, e := cold.Apart(x.b, x.day); !slices.Equal(l, x.want) || e != x.e {
			t.Errorf("Apart %d: %v, %d", i, l, e)
		}
	}
}

// P3.7
func TestFits(t *testing.T) {
	four := hears(cough(0, 1), cough(0, 1), cough(0, 1), cough(0, 1))
	for i, x := range []struct {
		b     api.ColdBook
		heard api.ColdHeard
		want  bool
		e     api.Errno
	}{
		{book(), cough(3, 3), true, api.OK},
		{book(), cough(3, 2), false, api.OK},
		{book(), quiet(3, 2), true, api.OK},
		{book(heard), cough(3, 3), false, api.OK},
		{book(heard), cough(3, 4), true, api.OK},
		{book(heard), quiet(3, 4), false, api.OK},
		{book(heard), quiet(0, 1), false, api.OK},
		{book(four), cough(1, 2), true, api.OK},
		{book(four), cough(1, 1), false, api.OK},
		{book(), cough(4, 0), false, api.ErrColdAsk},
		{book(), cough(-1, 0), false, api.ErrColdAsk},
		{book(), quiet(0, 5), false, api.ErrColdAsk},
		{book(torn), quiet(0, -1), false, api.ErrColdAsk},
		{book(torn), quiet(0, 0), false, api.ErrColdFalse},
	} {
		if is, e := cold.Fits(x.b, x.heard); is != x.want || e != x.e {
			t.Errorf("Fits %d: %v, %d", i, is, e)
		}
	}
}

// P3.8
func TestWrong(t *testing.T) {
	for i, x := range []struct {
		b    api.ColdBook
		want []int
	}{
		{book(), nil},
		{book(heard), nil},
		{book(torn), []int{0}},
		{book(hears(cough(2, 2), cough(0, 1))), []int{0}},
		{book(hears(cough(0, 1), cough(2, 2), quiet(1, 1))), []int{1}},
		{book(hears(cough(3, 0), cough(0, 1), cough(2, 1))), []int{0, 2}},
		{book(hears(cough(0, 0), cough(1, 0), cough(2, 0), cough(3, 0))), []int{0, 1, 2, 3}},
		// Of two ways to leave out two hearings the first one counts.
		{book(begins(1), hears(cough(0, 1), quiet(0, 1), cough(1, 2), quiet(1, 2))), []int{0, 2}},
		{book(begins(1), hears(quiet(0, 1), cough(0, 1), cough(1, 2), quiet(1, 2))), []int{0, 3}},
	} {
		if l, e := cold.Wrong(x.b); !slices.Equal(l, x.want) || e != api.OK {
			t.Errorf("Wrong %d: %v, %d", i, l, e)
		}
	}
}

// P3.9
func TestMemory(t *testing.T) {
	store := [5]api.ColdHeard{cough(0, 1), cough(2, 2), quiet(3, 3), quiet(3, 3), quiet(3, 3)}
	moved := [4]api.ColdMove{{Bed: 3, Day: 4}, {Bed: 1, Day: 1}, {Bed: 1, Day: 1}, {Bed: 1, Day: 1}}
	was, stay := store, moved
	b := book()
	// Behind both lists there is room, which must not be written to.
	b.Heard, b.Moves = store[:1], moved[:1]
	cold.Fits(b, cough(3, 3))
	cold.Wrong(b)
	one, d := cold.Apart(b, 1)
	other, e := cold.Apart(b, 1)
	if len(one) == 0 || d != api.OK || e != api.OK {
		t.Fatalf("Apart: %v, %d, %d", one, d, e)
	}
	one[0] = 99
	if other[0] == 99 || store != was || moved != stay {
		t.Errorf("shared memory: %v, %v, %v", other, store, moved)
	}
}
