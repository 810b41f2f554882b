package part_test

import (
	"math"
	"slices"
	"testing"

	"decani/api"
	"decani/part"
)

func span(low, high int) api.Span { return api.Span{Low: low, High: high} }

func just(n int) api.Span { return span(n, n) }

// line is a copy of a voice.
func line(voice int, notes ...int) api.PartCopy {
	return api.PartCopy{Voice: voice, Notes: notes}
}

// set is a set of numbers.
func set(l ...int) int {
	set := 0
	for _, n := range l {
		set |= 1 << n
	}
	return set
}

type change func(b *api.PartBook)

func notes(n int) change { return func(b *api.PartBook) { b.Notes = n } }

func voices(l ...api.Span) change {
	return func(b *api.PartBook) { b.Voices = slices.Clone(l) }
}

func step(n int) change { return func(b *api.PartBook) { b.Step = n } }

func chords(l ...int) change { return func(b *api.PartBook) { b.Chords = set(l...) } }

func perfect(l ...int) change { return func(b *api.PartBook) { b.Perfect = set(l...) } }

func copies(l ...api.PartCopy) change {
	return func(b *api.PartBook) { b.Copies = slices.Clone(l) }
}

// with adds copies.
func with(l ...api.PartCopy) change {
	return func(b *api.PartBook) { b.Copies = slices.Concat(b.Copies, l) }
}

// book is that of the chapter's examples, changed.
func book(changes ...change) api.PartBook {
	b := api.PartBook{
		Notes:  3,
		Voices: []api.Span{span(0, 2), span(3, 5)},
		Step:   1, Chords: set(2, 3, 4), Perfect: set(4),
		Copies: []api.PartCopy{line(0, 0, 1, 2)},
	}
	for _, c := range changes {
		c(&b)
	}
	return b
}

var (
	found = with(line(1, 3, 3, 4))
	torn  = with(line(1, 4, 5, 5), line(0, 0, 1, 2))
	// middle leaves two notes at one place alone: to the voice 1 in the middle.
	middle = func(b *api.PartBook) {
		b.Voices[1], b.Chords, b.Perfect = span(3, 4), set(2, 3), 0
	}
	// never is a style by which nothing can be written.
	never = chords()
)

// solo is a book of one voice.
func solo(notes int, s api.Span, step int, l ...api.PartCopy) api.PartBook {
	return api.PartBook{Notes: notes, Voices: []api.Span{s}, Step: step, Copies: l}
}

// all are all intervals.
var all = set(0, 1, 2, 3, 4, 5, 6, 7)

// invalid are changes that each make the book of the examples a wrong one.
var invalid = map[string]change{
	"nothing":              func(b *api.PartBook) { *b = api.PartBook{} },
	"no note":              func(b *api.PartBook) { b.Notes, b.Copies = 0, nil },
	"negative notes":       func(b *api.PartBook) { b.Notes, b.Copies = -1, nil },
	"too many notes":       func(b *api.PartBook) { b.Notes, b.Copies = 4, nil },
	"no voice":             func(b *api.PartBook) { b.Voices, b.Copies = nil, nil },
	"too many voices":      voices(span(0, 2), span(3, 5), just(6), just(7)),
	"voice below 0":        voices(span(-1, 1), span(3, 5)),
	"voice too high":       voices(span(0, 2), span(11, 13)),
	"voice too wide":       voices(span(0, 2), span(3, 6)),
	"voice ends first":     voices(span(2, 1), span(3, 5)),
	"voice is everywhere":  voices(span(math.MinInt, math.MaxInt), span(3, 5)),
	"voice above all":      voices(just(math.MaxInt), span(3, 5)),
	"step below 0":         step(-1),
	"step too great":       step(8),
	"chords below 0":       func(b *api.PartBook) { b.Chords = -1 },
	"chords too great":     func(b *api.PartBook) { b.Chords = 256 },
	"perfect below 0":      func(b *api.PartBook) { b.Perfect = -1 },
	"perfect too great":    func(b *api.PartBook) { b.Perfect = 256 },
	"too many copies":      copies(slices.Repeat([]api.PartCopy{line(0, 0, 1, 2)}, 5)...),
	"copy of no voice":     with(line(2, 3, 3, 4)),
	"copy of voice -1":     with(line(-1, 3, 3, 4)),
	"copy is too short":    with(line(1, 3, 3)),
	"copy is too long":     copies(line(1, 3, 3, 4, 4), line(0, 0, 1, 2)),
	"copy without notes":   with(line(1)),
	"copy's note below 0":  with(line(1, 3, -1, 4)),
	"copy's note too high": with(line(1, 3, 3, 13)),
	"copies of fewer":      notes(2),
}

// valid are changes to the limits of what a book can be.
var valid = map[string]change{
	"as it is":  func(*api.PartBook) {},
	"all least": func(b *api.PartBook) { *b = solo(1, just(0), 0) },
	"all greatest": func(b *api.PartBook) {
		*b = api.PartBook{
			Notes:  3,
			Voices: []api.Span{span(10, 12), span(10, 12), span(10, 12)},
			Step:   7, Chords: 255, Perfect: 255,
			Copies: slices.Repeat([]api.PartCopy{line(2, 12, 12, 0)}, 4),
		}
	},
	"a voice below a lower one": voices(span(3, 5), span(0, 2)),
	"a copy beside its voice":   with(line(1, 0, 12, 0)),
	"the same copy twice":       with(line(0, 0, 1, 2)),
	"empty copies":              func(b *api.PartBook) { b.Copies = []api.PartCopy{} },
	"false as it is":            torn,
	"no way":                    never,
}

// P5.1
func TestCheck(t *testing.T) {
	for name, c := range valid {
		if e := part.Check(book(c)); e != api.OK {
			t.Errorf("%s: %d", name, e)
		}
	}
	for name, c := range invalid {
		b := book(c)
		// What is asked is wrong, too: the error of the book comes first.
		errors := []api.Errno{part.Check(b)}
		is, e := part.Right(b)
		errors = append(errors, e)
		ways, e := part.Ways(b)
		errors = append(errors, e)
		there, e := part.Notes(b, -1, 9)
		errors = append(errors, e)
		one, e := part.Line(b, 3)
		errors = append(errors, e)
		voice, note, e := part.First(b)
		errors = append(errors, e)
		askVoice, askNote, e := part.Ask(b)
		errors = append(errors, e)
		fits, e := part.Fits(b, line(-1))
		errors = append(errors, e)
		wrong, e := part.Wrong(b)
		errors = append(errors, e)
		bar, e := part.Bar(b, -1)
		errors = append(errors, e)
		for i, e := range errors {
			if e != api.ErrPart {
				t.Errorf("%s: call %d: %d", name, i, e)
			}
		}
		if is || fits || ways != 0 || len(there)+len(one)+len(wrong) != 0 || voice != 0 || note != 0 || askVoice != 0 || askNote != 0 || bar != 0 {
			t.Errorf("%s: a result beside the error", name)
		}
	}
}

// P5.1
func TestRightAndWays(t *testing.T) {
	two := func(s, u api.Span, step, chords, perfect int) api.PartBook {
		return api.PartBook{Notes: 2, Voices: []api.Span{s, u}, Step: step, Chords: chords, Perfect: perfect}
	}
	for i, x := range []struct {
		b    api.PartBook
		want int
	}{
		{book(), 6},
		{book(found), 1},
		{book(torn), 0},
		{book(never), 0},
		{book(copies()), 163},
		{book(with(line(0, 0, 1, 2))), 6},
		{book(with(line(0, 0, 1, 1))), 0},
		{book(with(line(1, 0, 3, 4))), 0},
		{book(with(line(1, 5, 5, 5))), 0},
		// Each note of a voice is one of its span, and the step is one at most, up or down.
		{solo(1, span(4, 6), 0), 3},
		{solo(1, span(12, 12), 0), 1},
		{solo(3, span(4, 6), 0), 3},
		{solo(2, span(4, 6), 1), 7},
		{solo(2, span(4, 6), 2), 9},
		{solo(3, span(4, 6), 1), 17},
		{solo(3, span(0, 2), 7), 27},
		{solo(2, span(4, 6), 1, line(0, 4, 6)), 0},
		{solo(2, span(4, 6), 1, line(0, 6, 4)), 0},
		{solo(2, span(4, 6), 1, line(0, 6, 5)), 1},
		// Intervals: from 0 on, up to 7, and never below.
		{two(just(5), just(5), 0, set(0), 0), 1},
		{two(just(5), just(5), 0, set(1), 0), 0},
		{two(just(5), just(4), 0, all, 0), 0},
		{two(just(5), just(12), 0, set(7), 0), 1},
		{two(just(4), just(12), 0, all, 0), 0},
		{two(just(0), just(12), 0, all, 0), 0},
		{two(span(4, 6), span(4, 6), 2, all, 0), 36},
		// A perfect interval must not go on, but it can stay, and it can come and go.
		{two(span(0, 1), span(3, 4), 1, set(3), 0), 4},
		{two(span(0, 1), span(3, 4), 1, set(3), set(3)), 2},
		{two(span(0, 1), span(3, 4), 1, set(2, 3), set(3)), 7},
		{two(span(0, 1), span(3, 4), 1, set(2, 3), set(2)), 9},
		{two(span(0, 1), just(3), 1, set(2, 3), set(2, 3)), 4},
		{two(just(0), span(3, 4), 1, set(3, 4), set(3, 4)), 4},
		{two(span(0, 1), span(0, 1), 1, set(0), set(0)), 2},
		{two(span(0, 1), span(7, 8), 1, set(7), set(7)), 2},
	} {
		if n, e := part.Ways(x.b); n != x.want || e != api.OK {
			t.Errorf("Ways %d: %d, %d", i, n, e)
		}
		if is, e := part.Right(x.b); is != (x.want > 0) || e != api.OK {
			t.Errorf("Right %d: %v, %d", i, is, e)
		}
	}
}

// P5.1: the rules are between a voice and the next one alone, and also from the second note to the third one.
func TestRulesOfThree(t *testing.T) {
	three := api.PartBook{
		Notes:  3,
		Voices: []api.Span{span(0, 2), span(3, 5), span(10, 12)},
		Step:   2, Chords: set(3, 7), Perfect: set(7),
	}
	for i, x := range []struct {
		low, middle, high []int
		want              int
	}{
		{[]int{0, 0, 0}, []int{3, 3, 3}, []int{10, 10, 10}, 1},
		{[]int{0, 1, 1}, []int{3, 4, 4}, []int{10, 11, 11}, 0},
		{[]int{0, 0, 1}, []int{3, 3, 4}, []int{10, 10, 11}, 0},
		{[]int{0, 1, 1}, []int{3, 4, 4}, []int{10, 10, 10}, 0},
	} {
		b := three
		b.Copies = []api.PartCopy{line(0, x.low...), line(1, x.middle...), line(2, x.high...)}
		if n, e := part.Ways(b); n != x.want || e != api.OK {
			t.Errorf("Ways %d: %d, %d", i, n, e)
		}
		b.Perfect, b.Chords = 0, set(3, 6, 7)
		if n, e := part.Ways(b); n != 1 || e != api.OK {
			t.Errorf("Ways %d, without what is perfect: %d, %d", i, n, e)
		}
	}
	// From the lowest voice to the highest one there can be any interval, and it can go on.
	far := api.PartBook{
		Notes:  2,
		Voices: []api.Span{span(0, 1), span(2, 4), span(4, 6)},
		Step:   2, Chords: set(2, 3), Perfect: set(4, 5, 6, 7),
		Copies: []api.PartCopy{line(0, 0, 1), line(1, 2, 4), line(2, 5, 6)},
	}
	if n, e := part.Ways(far); n != 1 || e != api.OK {
		t.Errorf("Ways: %d, %d", n, e)
	}
}

// P5.2
func TestNotes(t *testing.T) {
	for i, x := range []struct {
		b           api.PartBook
		voice, note int
		want        []int
		e           api.Errno
	}{
		{book(), 1, 0, []int{3, 4}, api.OK},
		{book(), 1, 1, []int{3, 4}, api.OK},
		{book(), 1, 2, []int{4, 5}, api.OK},
		{book(), 0, 0, []int{0}, api.OK},
		{book(), 0, 1, []int{1}, api.OK},
		{book(found), 1, 2, []int{4}, api.OK},
		{book(copies()), 1, 0, []int{3, 4, 5}, api.OK},
		{book(with(line(1, 4, 4, 5))), 1, 1, []int{4}, api.OK},
		{solo(2, span(10, 12), 1), 0, 1, []int{10, 11, 12}, api.OK},
		{solo(2, span(0, 1), 0), 0, 0, []int{0, 1}, api.OK},
		{book(), 2, 0, nil, api.ErrPartAsk},
		{book(), -1, 0, nil, api.ErrPartAsk},
		{book(), 0, 3, nil, api.ErrPartAsk},
		{book(), 1, -1, nil, api.ErrPartAsk},
		{solo(2, just(3), 0), 0, 2, nil, api.ErrPartAsk},
		{book(torn), 0, 3, nil, api.ErrPartAsk},
		{book(torn), 2, 0, nil, api.ErrPartAsk},
		{book(torn), 0, 0, nil, api.ErrPartFalse},
		{book(never), 1, 2, nil, api.ErrPartFalse},
	} {
		if l, e := part.Notes(x.b, x.voice, x.note); !slices.Equal(l, x.want) || e != x.e {
			t.Errorf("Notes %d: %v, %d", i, l, e)
		}
	}
}

// P5.2
func TestLine(t *testing.T) {
	for i, x := range []struct {
		b     api.PartBook
		voice int
		want  []int
		e     api.Errno
	}{
		{book(), 0, []int{0, 1, 2}, api.OK},
		{book(), 1, nil, api.ErrNone},
		{book(found), 1, []int{3, 3, 4}, api.OK},
		{book(found), 0, []int{0, 1, 2}, api.OK},
		{book(copies(line(1, 3, 4, 5))), 1, []int{3, 4, 5}, api.OK},
		{book(copies(line(1, 3, 4, 5))), 0, nil, api.ErrNone},
		// One note alone is not known.
		{book(middle), 1, nil, api.ErrNone},
		{book(voices(span(0, 2), just(4))), 1, []int{4, 4, 4}, api.OK},
		{solo(2, just(3), 0), 0, []int{3, 3}, api.OK},
		{solo(1, span(3, 4), 0), 0, nil, api.ErrNone},
		{book(), 2, nil, api.ErrPartAsk},
		{book(), -1, nil, api.ErrPartAsk},
		{book(torn), 2, nil, api.ErrPartAsk},
		{book(torn), 0, nil, api.ErrPartFalse},
		{book(never), 0, nil, api.ErrPartFalse},
	} {
		if l, e := part.Line(x.b, x.voice); !slices.Equal(l, x.want) || e != x.e {
			t.Errorf("Line %d: %v, %d", i, l, e)
		}
	}
}

// P5.3
func TestFirst(t *testing.T) {
	for i, x := range []struct {
		b           api.PartBook
		voice, note int
		e           api.Errno
	}{
		{book(), 1, 0, api.OK},
		{book(found), 0, 0, api.ErrNone},
		{book(copies()), 0, 0, api.OK},
		{book(middle), 1, 1, api.OK},
		{book(copies(line(1, 3, 4, 5)), chords(3, 4), perfect()), 0, 1, api.OK},
		{book(copies(line(1, 3, 4, 5)), chords(3, 4)), 0, 2, api.OK},
		// Voice by voice, not note by note.
		{api.PartBook{Notes: 2, Voices: []api.Span{span(0, 1), span(2, 3)}, Step: 1, Chords: all, Copies: []api.PartCopy{line(0, 0, 0)}}, 1, 0, api.OK},
		{api.PartBook{Notes: 2, Voices: []api.Span{span(0, 1), span(6, 7)}, Step: 1, Chords: set(6, 7), Perfect: set(6)}, 0, 0, api.OK},
		{api.PartBook{Notes: 2, Voices: []api.Span{span(0, 1), span(7, 8)}, Step: 1, Chords: set(6)}, 0, 0, api.ErrNone},
		{solo(3, just(4), 0), 0, 0, api.ErrNone},
		{book(torn), 0, 0, api.ErrPartFalse},
		{book(never), 0, 0, api.ErrPartFalse},
	} {
		if voice, note, e := part.First(x.b); voice != x.voice || note != x.note || e != x.e {
			t.Errorf("First %d: %d, %d, %d", i, voice, note, e)
		}
	}
}

// P5.4
func TestAsk(t *testing.T) {
	for i, x := range []struct {
		b           api.PartBook
		voice, note int
		e           api.Errno
	}{
		{book(), 1, 0, api.OK},
		{book(found), 0, 0, api.ErrNone},
		{book(middle), 1, 1, api.OK},
		// Of 17 lines 7 have the middle note at first, and 7 at last; 9 have it between them.
		{solo(3, span(4, 6), 1), 0, 0, api.OK},
		// The voice in the middle has three notes, the others have two.
		{api.PartBook{Notes: 1, Voices: []api.Span{span(0, 1), span(2, 4), span(5, 6)}, Chords: all}, 1, 0, api.OK},
		{api.PartBook{Notes: 1, Voices: []api.Span{span(0, 1), span(2, 3), span(5, 6)}, Chords: all}, 0, 0, api.OK},
		{solo(1, span(3, 5), 0), 0, 0, api.OK},
		{solo(3, just(4), 0), 0, 0, api.ErrNone},
		{book(torn), 0, 0, api.ErrPartFalse},
		{book(never), 0, 0, api.ErrPartFalse},
	} {
		if voice, note, e := part.Ask(x.b); voice != x.voice || note != x.note || e != x.e {
			t.Errorf("Ask %d: %d, %d, %d", i, voice, note, e)
		}
	}
}

// P5.5
func TestFits(t *testing.T) {
	four := copies(slices.Repeat([]api.PartCopy{line(0, 0, 1, 2)}, 4)...)
	for i, x := range []struct {
		b    api.PartBook
		c    api.PartCopy
		want bool
		e    api.Errno
	}{
		{book(), line(1, 4, 4, 5), true, api.OK},
		{book(), line(1, 4, 5, 5), false, api.OK},
		{book(), line(0, 0, 1, 2), true, api.OK},
		{book(), line(0, 0, 1, 1), false, api.OK},
		{book(), line(1, 3, 3, 5), false, api.OK},
		{book(), line(1, 12, 0, 12), false, api.OK},
		{book(found), line(1, 3, 3, 4), true, api.OK},
		{book(found), line(1, 4, 4, 5), false, api.OK},
		// There can be a fifth copy.
		{book(four), line(1, 4, 4, 5), true, api.OK},
		{book(four), line(1, 4, 5, 5), false, api.OK},
		{book(four), line(1, 4, 4, 13), false, api.ErrPartAsk},
		{book(), line(2, 4, 4, 5), false, api.ErrPartAsk},
		{book(), line(-1, 4, 4, 5), false, api.ErrPartAsk},
		{book(), line(1, 4, 4), false, api.ErrPartAsk},
		{book(), line(1, 4, 4, 5, 5), false, api.ErrPartAsk},
		{book(), line(1), false, api.ErrPartAsk},
		{book(), line(1, 4, -1, 5), false, api.ErrPartAsk},
		{book(torn), line(1, 4, 4), false, api.ErrPartAsk},
		{book(torn), line(0, 0, 1, 2), false, api.ErrPartFalse},
		{book(never), line(0, 0, 1, 2), false, api.ErrPartFalse},
	} {
		if is, e := part.Fits(x.b, x.c); is != x.want || e != x.e {
			t.Errorf("Fits %d: %v, %d", i, is, e)
		}
	}
}

// P5.6
func TestWrong(t *testing.T) {
	for i, x := range []struct {
		b    api.PartBook
		want []int
		e    api.Errno
	}{
		{book(), nil, api.OK},
		{book(found), nil, api.OK},
		{book(copies()), nil, api.OK},
		{book(torn), []int{1}, api.OK},
		// Of several lists that are as short the first one.
		{book(with(line(1, 4, 5, 5))), []int{0}, api.OK},
		{book(with(line(0, 0, 1, 1))), []int{0}, api.OK},
		{book(with(line(0, 0, 1, 1), line(0, 0, 0, 0))), []int{0, 1}, api.OK},
		{book(with(line(0, 0, 1, 1), line(0, 0, 1, 1))), []int{0}, api.OK},
		{book(with(line(0, 0, 1, 1), line(0, 0, 1, 2))), []int{1}, api.OK},
		{book(with(line(0, 0, 1, 1), line(0, 0, 1, 2), line(0, 0, 1, 1))), []int{0, 2}, api.OK},
		{book(copies(line(0, 0, 0, 9), line(0, 0, 0, 9))), []int{0, 1}, api.OK},
		{book(copies(line(0, 0, 2, 2), line(1, 3, 3, 3))), []int{0}, api.OK},
		{book(never), nil, api.ErrPartFalse},
		{book(never, copies()), nil, api.ErrPartFalse},
		{book(torn, voices(span(0, 2), span(10, 12))), nil, api.ErrPartFalse},
	} {
		if l, e := part.Wrong(x.b); !slices.Equal(l, x.want) || e != x.e {
			t.Errorf("Wrong %d: %v, %d", i, l, e)
		}
	}
}

// P5.7
func TestBar(t *testing.T) {
	for i, x := range []struct {
		b          api.PartBook
		copy, want int
		e          api.Errno
	}{
		{book(torn), 1, 1, api.OK},
		{book(torn), 0, 0, api.ErrNone},
		{book(torn), 2, 0, api.ErrNone},
		{book(), 0, 0, api.ErrNone},
		{book(found), 1, 0, api.ErrNone},
		{book(with(line(0, 0, 1, 2), line(0, 0, 2, 1))), 2, 1, api.OK},
		{book(with(line(0, 0, 1, 2), line(0, 0, 1, 1))), 2, 2, api.OK},
		{book(with(line(0, 0, 1, 2), line(0, 1, 0, 1))), 2, 0, api.OK},
		// Each note can be so in some truth, but not all of them together.
		{book(copies(line(0, 0, 2, 2))), 0, 0, api.ErrNone},
		{book(with(line(0, 0, 1, 2), line(1, 4, 3, 5))), 2, 0, api.ErrNone},
		// By the truths without what Wrong returns: with the other copy false it would be another note.
		{book(with(line(0, 0, 1, 1))), 0, 2, api.OK},
		{book(with(line(0, 0, 1, 1))), 1, 0, api.ErrNone},
		{book(copies(line(0, 0, 0, 9), line(0, 8, 0, 9))), 0, 2, api.OK},
		{book(copies(line(0, 0, 0, 9), line(0, 8, 0, 9))), 1, 0, api.OK},
		{book(), 1, 0, api.ErrPartAsk},
		{book(), -1, 0, api.ErrPartAsk},
		{book(copies()), 0, 0, api.ErrPartAsk},
		{book(never), 1, 0, api.ErrPartAsk},
		{book(never), 0, 0, api.ErrPartFalse},
	} {
		if n, e := part.Bar(x.b, x.copy); n != x.want || e != x.e {
			t.Errorf("Bar %d: %d, %d", i, n, e)
		}
	}
}

// P5.8: lists have room for more, so that whoever writes behind their ends is found out.
func TestMemory(t *testing.T) {
	room := []api.PartCopy{line(0, 0, 1, 2), line(1, 9, 9, 9), line(1, 9, 9, 9)}
	b := book(func(b *api.PartBook) { b.Copies = room[:1] })
	row := []int{4, 4, 5, 9, 9}
	c := api.PartCopy{Voice: 1, Notes: row[:3]}
	if is, e := part.Fits(b, c); !is || e != api.OK {
		t.Errorf("Fits: %v, %d", is, e)
	}
	if room[1].Voice != 1 || !slices.Equal(room[1].Notes, []int{9, 9, 9}) || !slices.Equal(row, []int{4, 4, 5, 9, 9}) {
		t.Errorf("written behind the ends: %v, %v", room, row)
	}
	for i, call := range []func(b api.PartBook) ([]int, api.Errno){
		func(b api.PartBook) ([]int, api.Errno) { return part.Notes(b, 1, 0) },
		func(b api.PartBook) ([]int, api.Errno) { return part.Line(b, 0) },
		func(b api.PartBook) ([]int, api.Errno) {
			torn(&b)
			return part.Wrong(b)
		},
	} {
		one, _ := call(b)
		was := slices.Clone(one)
		for k := range one {
			one[k] = 12
		}
		if again, _ := call(b); !slices.Equal(again, was) || !slices.Equal(b.Copies[0].Notes, []int{0, 1, 2}) {
			t.Errorf("call %d: %v, was %v", i, again, was)
		}
	}
}
